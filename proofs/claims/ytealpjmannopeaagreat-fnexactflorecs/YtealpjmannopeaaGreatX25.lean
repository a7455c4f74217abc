/- Laid together: what the claim needs of the texts that were built one by one. -/
import Derived.Test.YtealpjmannopeaaGreatX24
import Derived.Test.YtealpjmannopeaaGreatX0
import Derived.Test.YtealpjmannopeaaGreatX19
import Derived.Test.YtealpjmannopeaaGreatX20
set_option linter.unusedVariables false
namespace Go.Proofs.YtealpjmannopeaaGreat
open Go.ChangeShapes Go.WideShapes Go.ChangeAt Go.RowKit Go.Deep
set_option linter.unusedSimpArgs false
set_option maxRecDepth 20000 in
set_option maxHeartbeats 8000000 in
theorem sources_any(x:fW)(a10:Option Addr)(l10 c10:Nat)(a11:Option Addr)(l11 c11:Nat)(a12:Option Addr)(l12 c12:Nat)(a13:Option Addr)(l13 c13:Nat)(a16:Option Addr)(l16 c16:Nat)(a17:Option Addr)(l17 c17:Nat)(a18:Option Addr)(l18 c18:Nat)(a20:Option Addr)(l20 c20:Nat)(a21:Option Addr)(l21 c21:Nat)(B:Nat)(w:World)(h:FlIs w B a10 l10 a11 l11 a12 l12 a13 l13 a16 l16 a17 l17 a18 l18 a20 l20 a21 l21 x):Calls Tryz.prog 75 #[.agg #[.int .i64 x.s,.int .i64 x.t,.int .i64 x.k,.int .i64 x.z,.int .i64 x.p,.int .i64 x.l,.int .i64 x.e,.bool x.b,.int .i64 x.v,.int .i64 x.r,.slice a10 l10 c10,.slice a11 l11 c11,.slice a12 l12 c12,.slice a13 l13 c13,.int .i64 x.n,.bool x.op,.slice a16 l16 c16,.slice a17 l17 c17,.slice a18 l18 c18,.int .i64 x.sfn,.slice a20 l20 c20,.slice a21 l21 c21]] w fun e' w'=>e'= .returned (.bool (decide ((x.logs.length:Int)=x.s)&&decide ((x.srcs.length:Int)=x.s)&&x.logs.all bS.okB))∧Below w.heap.size w w':=by
 have HB0:Below w.heap.size w (w.alloc (.cells #[.int .i64 x.s,.int .i64 x.t,.int .i64 x.k,.int .i64 x.z,.int .i64 x.p,.int .i64 x.l,.int .i64 x.e,.bool x.b,.int .i64 x.v,.int .i64 x.r,.slice a10 l10 c10,.slice a11 l11 c11,.slice a12 l12 c12,.slice a13 l13 c13,.int .i64 x.n,.bool x.op,.slice a16 l16 c16,.slice a17 l17 c17,.slice a18 l18 c18,.int .i64 x.sfn,.slice a20 l20 c20,.slice a21 l21 c21] 51)):=ai _ _
 have bX:(w.alloc (.cells #[.int .i64 x.s,.int .i64 x.t,.int .i64 x.k,.int .i64 x.z,.int .i64 x.p,.int .i64 x.l,.int .i64 x.e,.bool x.b,.int .i64 x.v,.int .i64 x.r,.slice a10 l10 c10,.slice a11 l11 c11,.slice a12 l12 c12,.slice a13 l13 c13,.int .i64 x.n,.bool x.op,.slice a16 l16 c16,.slice a17 l17 c17,.slice a18 l18 c18,.int .i64 x.sfn,.slice a20 l20 c20,.slice a21 l21 c21] 51)).heap[w.heap.size]? =some (.cells #[.int .i64 x.s,.int .i64 x.t,.int .i64 x.k,.int .i64 x.z,.int .i64 x.p,.int .i64 x.l,.int .i64 x.e,.bool x.b,.int .i64 x.v,.int .i64 x.r,.slice a10 l10 c10,.slice a11 l11 c11,.slice a12 l12 c12,.slice a13 l13 c13,.int .i64 x.n,.bool x.op,.slice a16 l16 c16,.slice a17 l17 c17,.slice a18 l18 c18,.int .i64 x.sfn,.slice a20 l20 c20,.slice a21 l21 c21] 51 (0,0)):=aR _ _ _
 have zz0:(w.alloc (.cells #[.int .i64 x.s,.int .i64 x.t,.int .i64 x.k,.int .i64 x.z,.int .i64 x.p,.int .i64 x.l,.int .i64 x.e,.bool x.b,.int .i64 x.v,.int .i64 x.r,.slice a10 l10 c10,.slice a11 l11 c11,.slice a12 l12 c12,.slice a13 l13 c13,.int .i64 x.n,.bool x.op,.slice a16 l16 c16,.slice a17 l17 c17,.slice a18 l18 c18,.int .i64 x.sfn,.slice a20 l20 c20,.slice a21 l21 c21] 51)).heap.size=w.heap.size+1:=by simp
 have hl10:=h.logs.len
 have hl11:=h.srcs.len
 go_enter Tryz.func75,Tryz.ntmps75
 go_upto_region 1 with fail
 generalize (w.alloc (.cells #[.int .i64 x.s,.int .i64 x.t,.int .i64 x.k,.int .i64 x.z,.int .i64 x.p,.int .i64 x.l,.int .i64 x.e,.bool x.b,.int .i64 x.v,.int .i64 x.r,.slice a10 l10 c10,.slice a11 l11 c11,.slice a12 l12 c12,.slice a13 l13 c13,.int .i64 x.n,.bool x.op,.slice a16 l16 c16,.slice a17 l17 c17,.slice a18 l18 c18,.int .i64 x.sfn,.slice a20 l20 c20,.slice a21 l21 c21] 51))=W0 at bX HB0 zz0 ⊢
 have HF:=ab (h.below HB0)
 have HB:=ab HB0
 clear HB0 h
 have cx0:=cA bX 0
 have cx10:=cA bX 10
 have cx11:=cA bX 11
 simp only[gA,gZ,gS]at cx0 cx10 cx11
 by_cases e10:(l10:Int)=x.s
 rotate_left
 ·have hE:=ab (show(decide ((x.logs.length:Int)=x.s)&&decide ((x.srcs.length:Int)=x.s)&&x.logs.all bS.okB)=false by rw[decide_eq_false (p:=(x.logs.length:Int)=x.s) (by omega)];simp)
  have d10:((l10:Int)==x.s)=false:=by simp[e10]
  clear e10
  go_wp2
  go_ret
  exact⟨af (aa hE).symm,aa HB⟩
 have d10:((l10:Int)==x.s)=true:=by simp[e10]
 have E10:=ab e10
 clear e10
 by_cases e11:(l11:Int)=x.s
 rotate_left
 ·have hE:=ab (show(decide ((x.logs.length:Int)=x.s)&&decide ((x.srcs.length:Int)=x.s)&&x.logs.all bS.okB)=false by rw[decide_eq_false (p:=(x.srcs.length:Int)=x.s) (by omega)];simp)
  have d11:((l11:Int)==x.s)=false:=by simp[e11]
  clear e11
  go_wp2
  go_ret
  exact⟨af (aa hE).symm,aa HB⟩
 have d11:((l11:Int)==x.s)=true:=by simp[e11]
 have E11:=ab e11
 clear e11
 have HV:=ab (show(decide ((x.logs.length:Int)=x.s)&&decide ((x.srcs.length:Int)=x.s)&&x.logs.all bS.okB)=x.logs.all bS.okB by rw[decide_eq_true (p:=(x.logs.length:Int)=x.s) (by have h9:=aa E10;omega),decide_eq_true (p:=(x.srcs.length:Int)=x.s) (by have h9:=aa E11;omega)];simp only[Bool.true_and])
 go_wp2_with (go_at_call 127;refine(everyLg a10 l10 c10 x.logs B _ (aa HF).logs).mono ?_;rintro e' w1 ⟨rfl,hb1⟩)
 go_ret
 exact⟨af (aa HV).symm,ae (aa HB) hb1⟩
set_option maxRecDepth 20000 in
set_option maxHeartbeats 8000000 in
theorem sinks_any(x:fW)(a10:Option Addr)(l10 c10:Nat)(a11:Option Addr)(l11 c11:Nat)(a12:Option Addr)(l12 c12:Nat)(a13:Option Addr)(l13 c13:Nat)(a16:Option Addr)(l16 c16:Nat)(a17:Option Addr)(l17 c17:Nat)(a18:Option Addr)(l18 c18:Nat)(a20:Option Addr)(l20 c20:Nat)(a21:Option Addr)(l21 c21:Nat)(B:Nat)(w:World)(h:FlIs w B a10 l10 a11 l11 a12 l12 a13 l13 a16 l16 a17 l17 a18 l18 a20 l20 a21 l21 x):Calls Tryz.prog 78 #[.agg #[.int .i64 x.s,.int .i64 x.t,.int .i64 x.k,.int .i64 x.z,.int .i64 x.p,.int .i64 x.l,.int .i64 x.e,.bool x.b,.int .i64 x.v,.int .i64 x.r,.slice a10 l10 c10,.slice a11 l11 c11,.slice a12 l12 c12,.slice a13 l13 c13,.int .i64 x.n,.bool x.op,.slice a16 l16 c16,.slice a17 l17 c17,.slice a18 l18 c18,.int .i64 x.sfn,.slice a20 l20 c20,.slice a21 l21 c21]] w fun e' w'=>e'= .returned (.bool (decide ((x.sks.length:Int)=x.t)&&x.sks.all bC.okB))∧Below w.heap.size w w':=by
 have HB0:Below w.heap.size w (w.alloc (.cells #[.int .i64 x.s,.int .i64 x.t,.int .i64 x.k,.int .i64 x.z,.int .i64 x.p,.int .i64 x.l,.int .i64 x.e,.bool x.b,.int .i64 x.v,.int .i64 x.r,.slice a10 l10 c10,.slice a11 l11 c11,.slice a12 l12 c12,.slice a13 l13 c13,.int .i64 x.n,.bool x.op,.slice a16 l16 c16,.slice a17 l17 c17,.slice a18 l18 c18,.int .i64 x.sfn,.slice a20 l20 c20,.slice a21 l21 c21] 51)):=ai _ _
 have bX:(w.alloc (.cells #[.int .i64 x.s,.int .i64 x.t,.int .i64 x.k,.int .i64 x.z,.int .i64 x.p,.int .i64 x.l,.int .i64 x.e,.bool x.b,.int .i64 x.v,.int .i64 x.r,.slice a10 l10 c10,.slice a11 l11 c11,.slice a12 l12 c12,.slice a13 l13 c13,.int .i64 x.n,.bool x.op,.slice a16 l16 c16,.slice a17 l17 c17,.slice a18 l18 c18,.int .i64 x.sfn,.slice a20 l20 c20,.slice a21 l21 c21] 51)).heap[w.heap.size]? =some (.cells #[.int .i64 x.s,.int .i64 x.t,.int .i64 x.k,.int .i64 x.z,.int .i64 x.p,.int .i64 x.l,.int .i64 x.e,.bool x.b,.int .i64 x.v,.int .i64 x.r,.slice a10 l10 c10,.slice a11 l11 c11,.slice a12 l12 c12,.slice a13 l13 c13,.int .i64 x.n,.bool x.op,.slice a16 l16 c16,.slice a17 l17 c17,.slice a18 l18 c18,.int .i64 x.sfn,.slice a20 l20 c20,.slice a21 l21 c21] 51 (0,0)):=aR _ _ _
 have zz0:(w.alloc (.cells #[.int .i64 x.s,.int .i64 x.t,.int .i64 x.k,.int .i64 x.z,.int .i64 x.p,.int .i64 x.l,.int .i64 x.e,.bool x.b,.int .i64 x.v,.int .i64 x.r,.slice a10 l10 c10,.slice a11 l11 c11,.slice a12 l12 c12,.slice a13 l13 c13,.int .i64 x.n,.bool x.op,.slice a16 l16 c16,.slice a17 l17 c17,.slice a18 l18 c18,.int .i64 x.sfn,.slice a20 l20 c20,.slice a21 l21 c21] 51)).heap.size=w.heap.size+1:=by simp
 have hl13:=h.sks.len
 go_enter Tryz.func78,Tryz.ntmps78
 go_upto_region 1 with fail
 generalize (w.alloc (.cells #[.int .i64 x.s,.int .i64 x.t,.int .i64 x.k,.int .i64 x.z,.int .i64 x.p,.int .i64 x.l,.int .i64 x.e,.bool x.b,.int .i64 x.v,.int .i64 x.r,.slice a10 l10 c10,.slice a11 l11 c11,.slice a12 l12 c12,.slice a13 l13 c13,.int .i64 x.n,.bool x.op,.slice a16 l16 c16,.slice a17 l17 c17,.slice a18 l18 c18,.int .i64 x.sfn,.slice a20 l20 c20,.slice a21 l21 c21] 51))=W0 at bX HB0 zz0 ⊢
 have HF:=ab (h.below HB0)
 have HB:=ab HB0
 clear HB0 h
 have cx1:=cA bX 1
 have cx13:=cA bX 13
 simp only[gA,gZ,gS]at cx1 cx13
 by_cases e13:(l13:Int)=x.t
 rotate_left
 ·have hE:=ab (show(decide ((x.sks.length:Int)=x.t)&&x.sks.all bC.okB)=false by rw[decide_eq_false (p:=(x.sks.length:Int)=x.t) (by omega)];simp)
  have d13:((l13:Int)==x.t)=false:=by simp[e13]
  clear e13
  go_wp2
  go_ret
  exact⟨af (aa hE).symm,aa HB⟩
 have d13:((l13:Int)==x.t)=true:=by simp[e13]
 have E13:=ab e13
 clear e13
 have HV:=ab (show(decide ((x.sks.length:Int)=x.t)&&x.sks.all bC.okB)=x.sks.all bC.okB by rw[decide_eq_true (p:=(x.sks.length:Int)=x.t) (by have h9:=aa E13;omega)];simp only[Bool.true_and])
 go_wp2_with (go_at_call 132;refine(everySk a13 l13 c13 x.sks B _ (aa HF).sks).mono ?_;rintro e' w1 ⟨rfl,hb1⟩)
 go_ret
 exact⟨af (aa HV).symm,ae (aa HB) hb1⟩
set_option maxRecDepth 20000 in
set_option maxHeartbeats 8000000 in
theorem tasks_any(x:fW)(a10:Option Addr)(l10 c10:Nat)(a11:Option Addr)(l11 c11:Nat)(a12:Option Addr)(l12 c12:Nat)(a13:Option Addr)(l13 c13:Nat)(a16:Option Addr)(l16 c16:Nat)(a17:Option Addr)(l17 c17:Nat)(a18:Option Addr)(l18 c18:Nat)(a20:Option Addr)(l20 c20:Nat)(a21:Option Addr)(l21 c21:Nat)(B:Nat)(w:World)(h:FlIs w B a10 l10 a11 l11 a12 l12 a13 l13 a16 l16 a17 l17 a18 l18 a20 l20 a21 l21 x):Calls Tryz.prog 77 #[.agg #[.int .i64 x.s,.int .i64 x.t,.int .i64 x.k,.int .i64 x.z,.int .i64 x.p,.int .i64 x.l,.int .i64 x.e,.bool x.b,.int .i64 x.v,.int .i64 x.r,.slice a10 l10 c10,.slice a11 l11 c11,.slice a12 l12 c12,.slice a13 l13 c13,.int .i64 x.n,.bool x.op,.slice a16 l16 c16,.slice a17 l17 c17,.slice a18 l18 c18,.int .i64 x.sfn,.slice a20 l20 c20,.slice a21 l21 c21]] w fun e' w'=>e'= .returned (.bool (decide ((x.tks.length:Int)=x.t)&&x.tks.all (bz x.s x.t x.k x.z x.p x.l x.e x.v x.r x.n)))∧Below w.heap.size w w':=by
 have HB0:Below w.heap.size w (w.alloc (.cells #[.int .i64 x.s,.int .i64 x.t,.int .i64 x.k,.int .i64 x.z,.int .i64 x.p,.int .i64 x.l,.int .i64 x.e,.bool x.b,.int .i64 x.v,.int .i64 x.r,.slice a10 l10 c10,.slice a11 l11 c11,.slice a12 l12 c12,.slice a13 l13 c13,.int .i64 x.n,.bool x.op,.slice a16 l16 c16,.slice a17 l17 c17,.slice a18 l18 c18,.int .i64 x.sfn,.slice a20 l20 c20,.slice a21 l21 c21] 51)):=ai _ _
 have bX:(w.alloc (.cells #[.int .i64 x.s,.int .i64 x.t,.int .i64 x.k,.int .i64 x.z,.int .i64 x.p,.int .i64 x.l,.int .i64 x.e,.bool x.b,.int .i64 x.v,.int .i64 x.r,.slice a10 l10 c10,.slice a11 l11 c11,.slice a12 l12 c12,.slice a13 l13 c13,.int .i64 x.n,.bool x.op,.slice a16 l16 c16,.slice a17 l17 c17,.slice a18 l18 c18,.int .i64 x.sfn,.slice a20 l20 c20,.slice a21 l21 c21] 51)).heap[w.heap.size]? =some (.cells #[.int .i64 x.s,.int .i64 x.t,.int .i64 x.k,.int .i64 x.z,.int .i64 x.p,.int .i64 x.l,.int .i64 x.e,.bool x.b,.int .i64 x.v,.int .i64 x.r,.slice a10 l10 c10,.slice a11 l11 c11,.slice a12 l12 c12,.slice a13 l13 c13,.int .i64 x.n,.bool x.op,.slice a16 l16 c16,.slice a17 l17 c17,.slice a18 l18 c18,.int .i64 x.sfn,.slice a20 l20 c20,.slice a21 l21 c21] 51 (0,0)):=aR _ _ _
 have zz0:(w.alloc (.cells #[.int .i64 x.s,.int .i64 x.t,.int .i64 x.k,.int .i64 x.z,.int .i64 x.p,.int .i64 x.l,.int .i64 x.e,.bool x.b,.int .i64 x.v,.int .i64 x.r,.slice a10 l10 c10,.slice a11 l11 c11,.slice a12 l12 c12,.slice a13 l13 c13,.int .i64 x.n,.bool x.op,.slice a16 l16 c16,.slice a17 l17 c17,.slice a18 l18 c18,.int .i64 x.sfn,.slice a20 l20 c20,.slice a21 l21 c21] 51)).heap.size=w.heap.size+1:=by simp
 have hl12:=h.tks.len
 go_enter Tryz.func77,Tryz.ntmps77
 go_upto_region 1 with fail
 generalize (w.alloc (.cells #[.int .i64 x.s,.int .i64 x.t,.int .i64 x.k,.int .i64 x.z,.int .i64 x.p,.int .i64 x.l,.int .i64 x.e,.bool x.b,.int .i64 x.v,.int .i64 x.r,.slice a10 l10 c10,.slice a11 l11 c11,.slice a12 l12 c12,.slice a13 l13 c13,.int .i64 x.n,.bool x.op,.slice a16 l16 c16,.slice a17 l17 c17,.slice a18 l18 c18,.int .i64 x.sfn,.slice a20 l20 c20,.slice a21 l21 c21] 51))=W0 at bX HB0 zz0 ⊢
 have HF:=ab (h.below HB0)
 have HB:=ab HB0
 clear HB0 h
 have cx1:=cA bX 1
 have cx12:=cA bX 12
 simp only[gA,gZ,gS]at cx1 cx12
 by_cases e12:(l12:Int)=x.t
 rotate_left
 ·have hE:=ab (show(decide ((x.tks.length:Int)=x.t)&&x.tks.all (bz x.s x.t x.k x.z x.p x.l x.e x.v x.r x.n))=false by rw[decide_eq_false (p:=(x.tks.length:Int)=x.t) (by omega)];simp)
  have d12:((l12:Int)==x.t)=false:=by simp[e12]
  clear e12
  go_wp2
  go_ret
  exact⟨af (aa hE).symm,aa HB⟩
 have d12:((l12:Int)==x.t)=true:=by simp[e12]
 have E12:=ab e12
 clear e12
 have HV:=ab (show(decide ((x.tks.length:Int)=x.t)&&x.tks.all (bz x.s x.t x.k x.z x.p x.l x.e x.v x.r x.n))=x.tks.all (bz x.s x.t x.k x.z x.p x.l x.e x.v x.r x.n) by rw[decide_eq_true (p:=(x.tks.length:Int)=x.t) (by have h9:=aa E12;omega)];simp only[Bool.true_and])
 have HJ:=ab (show FlJ x W0 w.heap.size from⟨⟨(cA bX 0),(cA bX 1),(cA bX 2),(cA bX 3),(cA bX 4),(cA bX 5),(cA bX 6),(cA bX 7),(cA bX 8),(cA bX 9)⟩,cA bX 14⟩)
 go_wp2_with (go_at_call 129;refine(everyTk x w.heap.size a12 l12 c12 x.tks B _ (aa HF).tks (aa HJ) (by omega)).mono ?_;rintro e' w1 ⟨rfl,hb1⟩)
 go_ret
 exact⟨af (aa HV).symm,ae (aa HB) hb1⟩
set_option linter.unusedSimpArgs false
set_option maxRecDepth 20000 in
set_option maxHeartbeats 8000000 in
theorem places_any(x:fW)(a10:Option Addr)(l10 c10:Nat)(a11:Option Addr)(l11 c11:Nat)(a12:Option Addr)(l12 c12:Nat)(a13:Option Addr)(l13 c13:Nat)(a16:Option Addr)(l16 c16:Nat)(a17:Option Addr)(l17 c17:Nat)(a18:Option Addr)(l18 c18:Nat)(a20:Option Addr)(l20 c20:Nat)(a21:Option Addr)(l21 c21:Nat)(B:Nat)(w:World)(h:FlIs w B a10 l10 a11 l11 a12 l12 a13 l13 a16 l16 a17 l17 a18 l18 a20 l20 a21 l21 x)(e10:(l10:Int)=x.s)(e11:(l11:Int)=x.s)(e20:(x.at_.length:Int)=x.s):Calls Tryz.prog 76 #[.agg #[.int .i64 x.s,.int .i64 x.t,.int .i64 x.k,.int .i64 x.z,.int .i64 x.p,.int .i64 x.l,.int .i64 x.e,.bool x.b,.int .i64 x.v,.int .i64 x.r,.slice a10 l10 c10,.slice a11 l11 c11,.slice a12 l12 c12,.slice a13 l13 c13,.int .i64 x.n,.bool x.op,.slice a16 l16 c16,.slice a17 l17 c17,.slice a18 l18 c18,.int .i64 x.sfn,.slice a20 l20 c20,.slice a21 l21 c21]] w fun e' w'=>e'= .returned (.bool ((List.range x.logs.length).all (fR x.n x.logs x.srcs x.at_)))∧Below w.heap.size w w':=by
 have hl10:=h.logs.len
 have hl11:=h.srcs.len
 have hl20:=h.at_.len
 have HB0:Below w.heap.size w (w.alloc (.cells #[.int .i64 x.s,.int .i64 x.t,.int .i64 x.k,.int .i64 x.z,.int .i64 x.p,.int .i64 x.l,.int .i64 x.e,.bool x.b,.int .i64 x.v,.int .i64 x.r,.slice a10 l10 c10,.slice a11 l11 c11,.slice a12 l12 c12,.slice a13 l13 c13,.int .i64 x.n,.bool x.op,.slice a16 l16 c16,.slice a17 l17 c17,.slice a18 l18 c18,.int .i64 x.sfn,.slice a20 l20 c20,.slice a21 l21 c21] 51)):=ai _ _
 have bX:(w.alloc (.cells #[.int .i64 x.s,.int .i64 x.t,.int .i64 x.k,.int .i64 x.z,.int .i64 x.p,.int .i64 x.l,.int .i64 x.e,.bool x.b,.int .i64 x.v,.int .i64 x.r,.slice a10 l10 c10,.slice a11 l11 c11,.slice a12 l12 c12,.slice a13 l13 c13,.int .i64 x.n,.bool x.op,.slice a16 l16 c16,.slice a17 l17 c17,.slice a18 l18 c18,.int .i64 x.sfn,.slice a20 l20 c20,.slice a21 l21 c21] 51)).heap[w.heap.size]? =some (.cells #[.int .i64 x.s,.int .i64 x.t,.int .i64 x.k,.int .i64 x.z,.int .i64 x.p,.int .i64 x.l,.int .i64 x.e,.bool x.b,.int .i64 x.v,.int .i64 x.r,.slice a10 l10 c10,.slice a11 l11 c11,.slice a12 l12 c12,.slice a13 l13 c13,.int .i64 x.n,.bool x.op,.slice a16 l16 c16,.slice a17 l17 c17,.slice a18 l18 c18,.int .i64 x.sfn,.slice a20 l20 c20,.slice a21 l21 c21] 51 (0,0)):=aR _ _ _
 have zz0:(w.alloc (.cells #[.int .i64 x.s,.int .i64 x.t,.int .i64 x.k,.int .i64 x.z,.int .i64 x.p,.int .i64 x.l,.int .i64 x.e,.bool x.b,.int .i64 x.v,.int .i64 x.r,.slice a10 l10 c10,.slice a11 l11 c11,.slice a12 l12 c12,.slice a13 l13 c13,.int .i64 x.n,.bool x.op,.slice a16 l16 c16,.slice a17 l17 c17,.slice a18 l18 c18,.int .i64 x.sfn,.slice a20 l20 c20,.slice a21 l21 c21] 51)).heap.size=w.heap.size+1:=by simp
 go_enter Tryz.func76,Tryz.ntmps76
 go_upto_region 1 with fail
 generalize (w.alloc (.cells #[.int .i64 x.s,.int .i64 x.t,.int .i64 x.k,.int .i64 x.z,.int .i64 x.p,.int .i64 x.l,.int .i64 x.e,.bool x.b,.int .i64 x.v,.int .i64 x.r,.slice a10 l10 c10,.slice a11 l11 c11,.slice a12 l12 c12,.slice a13 l13 c13,.int .i64 x.n,.bool x.op,.slice a16 l16 c16,.slice a17 l17 c17,.slice a18 l18 c18,.int .i64 x.sfn,.slice a20 l20 c20,.slice a21 l21 c21] 51))=W0 at bX HB0 zz0 ⊢
 have HF:=ab (h.below HB0)
 have HB:=ab HB0
 clear HB0 h
 have cx11:=cA bX 11
 simp only[gA,gZ,gS]at cx11
 have hm11:=hl11.2
 unfold maxLen at hm11
 have HL:=ab (And.intro hl10 (And.intro hl11 (And.intro hl20 (And.intro e10 (And.intro e11 e20)))))
 clear hl10 hl11 hl20 e10 e11 e20 zz0
 go_wp2
 clear cx11
 go_loopw [9] (fun i wr=>∃ix:Nat,ix≤l11∧i= .int .i64 ix∧Hid ((List.range ix).all (fR x.n x.logs x.srcs x.at_)=true)∧Below W0.heap.size W0 wr) (fun i _=>l11 - (intOf i).toNat)
 case atStart=>exact⟨0,Nat.zero_le _,rfl,ab rfl,Below.refl _ _⟩
 case round=>
  obtain⟨ix,hk,rfl,HR,hbw⟩:=hrel
  have bXr:=(hbw.block _ (ao bX)).trans bX
  have zXr:=ao bXr
  have cx10:=cA bXr 10
  have cx14:=cA bXr 14
  have cx20:=cA bXr 20
  simp only[gA,gZ,gS]at cx10 cx14 cx20
  by_cases hlt:ix<l11
  ·obtain⟨hl10,hl11,hl20,e10,e11,e20⟩:=aa HL
   have hF:=(aa HF).below hbw
   obtain⟨_,_,hx9⟩:=hF.logs
   obtain⟨g,o,rfl,_,hr⟩:=hx9.resolve_left (by omega)
   obtain⟨y,hy⟩:∃y,x.logs[ix]? =some y:=⟨_,List.getElem?_eq_getElem (by omega)⟩
   have hy1:=hr ix y hy
   have zg:=hy1.lt
   obtain⟨a0y,l0y,c0y,e0,k0⟩:=hy1
   rw[Nat.mul_one]at e0
   have hlq:=k0.len
   obtain⟨_,_,hx8⟩:=hF.srcs.1
   obtain⟨gs,os,rfl,hrs⟩:=hx8.resolve_left (by omega)
   obtain⟨ys,hys⟩:∃ys,x.srcs[ix]? =some ys:=⟨_,List.getElem?_eq_getElem (by omega)⟩
   have zs:=aA (hrs ix ys hys).1
   obtain⟨f0,f1⟩:=hrs ix ys hys
   obtain⟨_,_,hx7⟩:=hF.at_.1
   obtain⟨ga,oa,rfl,hra⟩:=hx7.resolve_left (by omega)
   obtain⟨ya,hya⟩:∃ya,x.at_[ix]? =some ya:=⟨_,List.getElem?_eq_getElem (by omega)⟩
   have m0:wr.cell? ⟨ga,oa+ix,none⟩=some (.int .i64 ya):=by have h9:=hra ix ya hya;simpa using h9
   have za:=aA m0
   have HP:=ab (pl_at (n:=x.n) hy hys hya)
   have HY:=ab hy
   have hi10:(ix:Int)<(l10:Int):=by omega
   have hi20:(ix:Int)<(l20:Int):=by omega
   have hj10:ix<l10:=by omega
   have hj20:ix<l20:=by omega
   have hlen:y.q.length=l0y:=hlq.1
   rw[hlen]at HP
   clear hx9 hr hy hx8 hrs hys hx7 hra hya k0 hlq hF hlen hl10 hl11 hl20 e10 e11 e20
   by_cases hq:(l0y:Int)<ya
   ·have hE:=ab (gr (f:=fR x.n x.logs x.srcs x.at_) (aa HY) (by rw[aa HP,decide_eq_true hq];simp))
    have dq:decide ((l0y:Int)<ya)=true:=decide_eq_true hq
    clear hq
    cases q2:aP ys.at_ 0 (l0y:Int)
    ·go_wp2_with (go_at_call 126;refine(ah _ _ _ _).mono ?_;rw[q2];rintro e' w5 ⟨rfl,hw⟩;obtain rfl:=hw.symm;clear hw)
     go_ret
     exact⟨af (aa hE).symm,ae (aa HB) (ae hbw (ak))⟩
    ·go_wp2_with (go_at_call 126;refine(ah _ _ _ _).mono ?_;rw[q2];rintro e' w5 ⟨rfl,hw⟩;obtain rfl:=hw.symm;clear hw)
     go_ret
     exact⟨af (aa hE).symm,ae (aa HB) (ae hbw (ak))⟩
   ·have dq:decide ((l0y:Int)<ya)=false:=decide_eq_false hq
    cases q2:aP ys.at_ 0 (l0y:Int)
    ·have hE:=ab (gr (f:=fR x.n x.logs x.srcs x.at_) (aa HY) (by rw[aa HP,q2];rfl))
     clear hq
     go_wp2_with (go_at_call 126;refine(ah _ _ _ _).mono ?_;rw[q2];rintro e' w5 ⟨rfl,hw⟩;obtain rfl:=hw.symm;clear hw)
     go_ret
     exact⟨af (aa hE).symm,ae (aa HB) (ae hbw (ak))⟩
    ·cases q3:aP ys.wl 0 x.n
     ·have hE:=ab (gr (f:=fR x.n x.logs x.srcs x.at_) (aa HY) (by rw[aa HP,q2,q3];rfl))
      clear hq
      go_wp2_with (go_at_call 126;refine(ah _ _ _ _).mono ?_;(first|rw[q2]|rw[q3]);rintro e' w5 ⟨rfl,hw⟩;obtain rfl:=hw.symm;clear hw)
      go_ret
      exact⟨af (aa hE).symm,ae (aa HB) (ae hbw (ak))⟩
     ·have HR2:=ab (pl_step (f:=fR x.n x.logs x.srcs x.at_) (aa HR) (by rw[aa HP,q2,q3,decide_eq_false hq];rfl))
      clear hq
      go_wp2_with (go_at_call 126;refine(ah _ _ _ _).mono ?_;(first|rw[q2]|rw[q3]);rintro e' w5 ⟨rfl,hw⟩;obtain rfl:=hw.symm;clear hw)
      go_roundw
      case rel=>exact⟨ix+1,by omega,by go_num,HR2,ae hbw (ak)⟩
      case measure=>simp[intOf];omega
  ·have HE:Hid ((List.range x.logs.length).all (fR x.n x.logs x.srcs x.at_)=true):=ab (by have h9:=aa HR;have h8:ix=x.logs.length:=(by obtain⟨hl10,hl11,hl20,e10,e11,e20⟩:=aa HL;omega);rwa [h8]at h9)
   go_wp2
   go_ret
   exact⟨af (aa HE).symm,ae (aa HB) hbw⟩
set_option linter.unusedSimpArgs false
attribute [local go_sem ↓] dJ
theorem cY(x:fW):cv x=(ca x.s x.t x.k x.z x.p x.l x.e x.v x.r x.ck&&(decide ((x.logs.length:Int)=x.s)&&decide ((x.srcs.length:Int)=x.s)&&x.logs.all bS.okB)&&((List.range x.logs.length).all (fR x.n x.logs x.srcs x.at_))&&(decide ((x.tks.length:Int)=x.t)&&x.tks.all (bz x.s x.t x.k x.z x.p x.l x.e x.v x.r x.n))&&(decide ((x.sks.length:Int)=x.t)&&x.sks.all bC.okB)):=by
 unfold cv
 generalize ca x.s x.t x.k x.z x.p x.l x.e x.v x.r x.ck=b1
 generalize decide ((x.logs.length:Int)=x.s)=b2
 generalize decide ((x.srcs.length:Int)=x.s)=b3
 generalize decide ((x.tks.length:Int)=x.t)=b4
 generalize decide ((x.sks.length:Int)=x.t)=b5
 generalize x.logs.all bS.okB=b6
 generalize (List.range x.logs.length).all (fR x.n x.logs x.srcs x.at_)=b7
 generalize x.tks.all (bz x.s x.t x.k x.z x.p x.l x.e x.v x.r x.n)=b8
 generalize x.sks.all bC.okB=b9
 cases b1<;>cases b2<;>cases b3<;>cases b4<;>cases b5<;>cases b6<;>cases b7<;>cases b8<;>cases b9<;>rfl
set_option maxRecDepth 20000 in
set_option maxHeartbeats 16000000 in
theorem iH(x:fW)(a10:Option Addr)(l10 c10:Nat)(a11:Option Addr)(l11 c11:Nat)(a12:Option Addr)(l12 c12:Nat)(a13:Option Addr)(l13 c13:Nat)(a16:Option Addr)(l16 c16:Nat)(a17:Option Addr)(l17 c17:Nat)(a18:Option Addr)(l18 c18:Nat)(a20:Option Addr)(l20 c20:Nat)(a21:Option Addr)(l21 c21:Nat)(B:Nat)(w:World)(h:FlIs w B a10 l10 a11 l11 a12 l12 a13 l13 a16 l16 a17 l17 a18 l18 a20 l20 a21 l21 x):Calls Tryz.prog 37 #[.agg #[.int .i64 x.s,.int .i64 x.t,.int .i64 x.k,.int .i64 x.z,.int .i64 x.p,.int .i64 x.l,.int .i64 x.e,.bool x.b,.int .i64 x.v,.int .i64 x.r,.slice a10 l10 c10,.slice a11 l11 c11,.slice a12 l12 c12,.slice a13 l13 c13,.int .i64 x.n,.bool x.op,.slice a16 l16 c16,.slice a17 l17 c17,.slice a18 l18 c18,.int .i64 x.sfn,.slice a20 l20 c20,.slice a21 l21 c21]] w fun e' w'=>e'= .returned (.bool (cv x))∧Below w.heap.size w w':=by
 have hl10:=h.logs.len
 have hl11:=h.srcs.len
 have HB0:Below w.heap.size w (w.alloc (.cells #[.int .i64 x.s,.int .i64 x.t,.int .i64 x.k,.int .i64 x.z,.int .i64 x.p,.int .i64 x.l,.int .i64 x.e,.bool x.b,.int .i64 x.v,.int .i64 x.r,.slice a10 l10 c10,.slice a11 l11 c11,.slice a12 l12 c12,.slice a13 l13 c13,.int .i64 x.n,.bool x.op,.slice a16 l16 c16,.slice a17 l17 c17,.slice a18 l18 c18,.int .i64 x.sfn,.slice a20 l20 c20,.slice a21 l21 c21] 51)):=ai _ _
 have bX:(w.alloc (.cells #[.int .i64 x.s,.int .i64 x.t,.int .i64 x.k,.int .i64 x.z,.int .i64 x.p,.int .i64 x.l,.int .i64 x.e,.bool x.b,.int .i64 x.v,.int .i64 x.r,.slice a10 l10 c10,.slice a11 l11 c11,.slice a12 l12 c12,.slice a13 l13 c13,.int .i64 x.n,.bool x.op,.slice a16 l16 c16,.slice a17 l17 c17,.slice a18 l18 c18,.int .i64 x.sfn,.slice a20 l20 c20,.slice a21 l21 c21] 51)).heap[w.heap.size]? =some (.cells #[.int .i64 x.s,.int .i64 x.t,.int .i64 x.k,.int .i64 x.z,.int .i64 x.p,.int .i64 x.l,.int .i64 x.e,.bool x.b,.int .i64 x.v,.int .i64 x.r,.slice a10 l10 c10,.slice a11 l11 c11,.slice a12 l12 c12,.slice a13 l13 c13,.int .i64 x.n,.bool x.op,.slice a16 l16 c16,.slice a17 l17 c17,.slice a18 l18 c18,.int .i64 x.sfn,.slice a20 l20 c20,.slice a21 l21 c21] 51 (0,0)):=aR _ _ _
 have zz0:(w.alloc (.cells #[.int .i64 x.s,.int .i64 x.t,.int .i64 x.k,.int .i64 x.z,.int .i64 x.p,.int .i64 x.l,.int .i64 x.e,.bool x.b,.int .i64 x.v,.int .i64 x.r,.slice a10 l10 c10,.slice a11 l11 c11,.slice a12 l12 c12,.slice a13 l13 c13,.int .i64 x.n,.bool x.op,.slice a16 l16 c16,.slice a17 l17 c17,.slice a18 l18 c18,.int .i64 x.sfn,.slice a20 l20 c20,.slice a21 l21 c21] 51)).heap.size=w.heap.size+1:=by simp
 go_enter Tryz.func37,Tryz.ntmps37
 go_upto_region 1 with fail
 generalize (w.alloc (.cells #[.int .i64 x.s,.int .i64 x.t,.int .i64 x.k,.int .i64 x.z,.int .i64 x.p,.int .i64 x.l,.int .i64 x.e,.bool x.b,.int .i64 x.v,.int .i64 x.r,.slice a10 l10 c10,.slice a11 l11 c11,.slice a12 l12 c12,.slice a13 l13 c13,.int .i64 x.n,.bool x.op,.slice a16 l16 c16,.slice a17 l17 c17,.slice a18 l18 c18,.int .i64 x.sfn,.slice a20 l20 c20,.slice a21 l21 c21] 51))=W0 at bX HB0 zz0 ⊢
 have HF:=ab (h.below HB0)
 have HB:=ab HB0
 clear HB0 h
 have cx0:=Joins.cell_of_block bX 0
 have cx1:=Joins.cell_of_block bX 1
 have cx2:=Joins.cell_of_block bX 2
 have cx3:=Joins.cell_of_block bX 3
 have cx4:=Joins.cell_of_block bX 4
 have cx5:=Joins.cell_of_block bX 5
 have cx6:=Joins.cell_of_block bX 6
 have cx7:=Joins.cell_of_block bX 7
 have cx8:=Joins.cell_of_block bX 8
 have cx9:=Joins.cell_of_block bX 9
 simp only [List.getElem?_toArray,List.getElem?_cons_zero,List.getElem?_cons_succ] at cx0 cx1 cx2 cx3 cx4 cx5 cx6 cx7 cx8 cx9
 have cx14:=cA bX 14
 have cx15:=cA bX 15
 have cx16:=cA bX 16
 have cx17:=cA bX 17
 have cx18:=cA bX 18
 have cx19:=cA bX 19
 have cx20:=cA bX 20
 have cx21:=cA bX 21
 simp only[gA,gZ,gS]at cx14 cx15 cx16 cx17 cx18 cx19 cx20 cx21
 go_wp2_with fail
 clear cx0 cx1 cx2 cx3 cx4 cx5 cx6 cx7 cx8 cx9 cx14 cx15 cx16 cx17 cx18 cx19 cx20 cx21
 refine(iG x.s x.t x.k x.z x.p x.l x.e x.b x.v x.r x.ck a16 l16 c16 a17 l17 c17 a18 l18 c18 a20 l20 c20 a21 l21 c21 B _ (aa HF).ckp).mono ?_
 cases q0:ca x.s x.t x.k x.z x.p x.l x.e x.v x.r x.ck
 ·have hE:=ab (show cv x=false by rw[cY,q0];simp only[Bool.and_false,Bool.false_and])
  rintro e9 w1 ⟨rfl,hb1⟩
  go_wp2
  go_ret
  exact⟨af (aa hE).symm,ae (aa HB) hb1⟩
 have Q0:=ab q0
 have HE20:=ab (show(x.at_.length:Int)=x.s from(ck_bd q0).2.2)
 clear q0
 rintro e9 v0 ⟨rfl,hb0⟩
 have bX0:=(hb0.block _ (ao bX)).trans bX
 have HF9:=ab ((aa HF).below hb0)
 have HB9:=ab (ae (aa HB) hb0)
 clear HF HB bX hb0 zz0
 have bX:=bX0
 have HF:=HF9
 have HB:=HB9
 clear bX0 HF9 HB9
 have hL:=cc bX 51 Tryz.underlying51 rfl (jK)
 go_wp2_with fail
 clear hL
 refine(sources_any x a10 l10 c10 a11 l11 c11 a12 l12 c12 a13 l13 c13 a16 l16 c16 a17 l17 c17 a18 l18 c18 a20 l20 c20 a21 l21 c21 B _ (aa HF)).mono ?_
 cases q1:decide ((x.logs.length:Int)=x.s)&&decide ((x.srcs.length:Int)=x.s)&&x.logs.all bS.okB
 ·have hE:=ab (show cv x=false by rw[cY,aa Q0,q1];simp only[Bool.and_false,Bool.false_and])
  rintro e9 w1 ⟨rfl,hb1⟩
  go_wp2
  go_ret
  exact⟨af (aa hE).symm,ae (aa HB) hb1⟩
 have Q1:=ab q1
 have HE10:=ab (show(l10:Int)=x.s by simp only[Bool.and_eq_true,decide_eq_true_eq]at q1;have:=q1.1.1;omega)
 have HE11:=ab (show(l11:Int)=x.s by simp only[Bool.and_eq_true,decide_eq_true_eq]at q1;have:=q1.1.2;omega)
 clear q1
 rintro e9 v1 ⟨rfl,hb1⟩
 have bX1:=(hb1.block _ (ao bX)).trans bX
 have HF9:=ab ((aa HF).below hb1)
 have HB9:=ab (ae (aa HB) hb1)
 clear HF HB bX hb1
 have bX:=bX1
 have HF:=HF9
 have HB:=HB9
 clear bX1 HF9 HB9
 have hL:=cc bX 51 Tryz.underlying51 rfl (jK)
 go_wp2_with fail
 clear hL
 refine(places_any x a10 l10 c10 a11 l11 c11 a12 l12 c12 a13 l13 c13 a16 l16 c16 a17 l17 c17 a18 l18 c18 a20 l20 c20 a21 l21 c21 B _ (aa HF) (aa HE10) (aa HE11) (aa HE20)).mono ?_
 cases q2:(List.range x.logs.length).all (fR x.n x.logs x.srcs x.at_)
 ·have hE:=ab (show cv x=false by rw[cY,aa Q0,aa Q1,q2];simp only[Bool.and_false,Bool.false_and])
  rintro e9 w1 ⟨rfl,hb1⟩
  go_wp2
  go_ret
  exact⟨af (aa hE).symm,ae (aa HB) hb1⟩
 have Q2:=ab q2
 clear q2
 rintro e9 v2 ⟨rfl,hb2⟩
 have bX2:=(hb2.block _ (ao bX)).trans bX
 have HF9:=ab ((aa HF).below hb2)
 have HB9:=ab (ae (aa HB) hb2)
 clear HF HB bX hb2
 have bX:=bX2
 have HF:=HF9
 have HB:=HB9
 clear bX2 HF9 HB9
 have hL:=cc bX 51 Tryz.underlying51 rfl (jK)
 go_wp2_with fail
 clear hL
 refine(tasks_any x a10 l10 c10 a11 l11 c11 a12 l12 c12 a13 l13 c13 a16 l16 c16 a17 l17 c17 a18 l18 c18 a20 l20 c20 a21 l21 c21 B _ (aa HF)).mono ?_
 cases q3:decide ((x.tks.length:Int)=x.t)&&x.tks.all (bz x.s x.t x.k x.z x.p x.l x.e x.v x.r x.n)
 ·have hE:=ab (show cv x=false by rw[cY,aa Q0,aa Q1,aa Q2,q3];simp only[Bool.and_false,Bool.false_and])
  rintro e9 w1 ⟨rfl,hb1⟩
  go_wp2
  go_ret
  exact⟨af (aa hE).symm,ae (aa HB) hb1⟩
 have Q3:=ab q3
 clear q3
 rintro e9 v3 ⟨rfl,hb3⟩
 have bX3:=(hb3.block _ (ao bX)).trans bX
 have HF9:=ab ((aa HF).below hb3)
 have HB9:=ab (ae (aa HB) hb3)
 clear HF HB bX hb3
 have bX:=bX3
 have HF:=HF9
 have HB:=HB9
 clear bX3 HF9 HB9
 have hL:=cc bX 51 Tryz.underlying51 rfl (jK)
 go_wp2_with fail
 clear hL
 refine(sinks_any x a10 l10 c10 a11 l11 c11 a12 l12 c12 a13 l13 c13 a16 l16 c16 a17 l17 c17 a18 l18 c18 a20 l20 c20 a21 l21 c21 B _ (aa HF)).mono ?_
 cases q4:decide ((x.sks.length:Int)=x.t)&&x.sks.all bC.okB
 ·have hE:=ab (show cv x=false by rw[cY,aa Q0,aa Q1,aa Q2,aa Q3,q4];simp only[Bool.and_false,Bool.false_and])
  rintro e9 w1 ⟨rfl,hb1⟩
  go_wp2
  go_ret
  exact⟨af (aa hE).symm,ae (aa HB) hb1⟩
 have Q4:=ab q4
 clear q4
 have hE:=ab (show cv x=true by rw[cY,aa Q0,aa Q1,aa Q2,aa Q3,aa Q4];rfl)
 rintro e9 w1 ⟨rfl,hb1⟩
 go_wp2
 go_ret
 exact⟨af (aa hE).symm,ae (aa HB) hb1⟩
set_option linter.unusedSimpArgs false
attribute [local go_sem ↓] dJ
attribute [local go_sem ↓] dS
attribute [local go_sem ↓] eM
set_option maxRecDepth 20000 in
set_option maxHeartbeats 8000000 in
theorem fK(x:fW)(a10:Option Addr)(l10 c10:Nat)(a11:Option Addr)(l11 c11:Nat)(a12:Option Addr)(l12 c12:Nat)(a13:Option Addr)(l13 c13:Nat)(a16:Option Addr)(l16 c16:Nat)(a17:Option Addr)(l17 c17:Nat)(a18:Option Addr)(l18 c18:Nat)(a20:Option Addr)(l20 c20:Nat)(a21:Option Addr)(l21 c21:Nat)(B:Nat)(w:World)(h:FlIs w B a10 l10 a11 l11 a12 l12 a13 l13 a16 l16 a17 l17 a18 l18 a20 l20 a21 l21 x)(hsk:x.logs.length≤1048576∧∀y ∈ x.logs,y.sm){ob:Bool}(hV:Hid (cv x=ob)):Calls Tryz.prog 21 #[.agg #[.int .i64 x.s,.int .i64 x.t,.int .i64 x.k,.int .i64 x.z,.int .i64 x.p,.int .i64 x.l,.int .i64 x.e,.bool x.b,.int .i64 x.v,.int .i64 x.r,.slice a10 l10 c10,.slice a11 l11 c11,.slice a12 l12 c12,.slice a13 l13 c13,.int .i64 x.n,.bool x.op,.slice a16 l16 c16,.slice a17 l17 c17,.slice a18 l18 c18,.int .i64 x.sfn,.slice a20 l20 c20,.slice a21 l21 c21]] w fun e' w'=>∃v',e'= .returned v'∧eh w' w.heap.size v' (if ob=true then gi x.v x.logs else [])∧Below w.heap.size w w':=by
 have hl10:=h.logs.len
 obtain⟨i0,hi,hz0,hz1,hz2⟩:=info_parts Tryz.infoIw
 have HB0:Below w.heap.size w (w.alloc (.cells #[.int .i64 x.s,.int .i64 x.t,.int .i64 x.k,.int .i64 x.z,.int .i64 x.p,.int .i64 x.l,.int .i64 x.e,.bool x.b,.int .i64 x.v,.int .i64 x.r,.slice a10 l10 c10,.slice a11 l11 c11,.slice a12 l12 c12,.slice a13 l13 c13,.int .i64 x.n,.bool x.op,.slice a16 l16 c16,.slice a17 l17 c17,.slice a18 l18 c18,.int .i64 x.sfn,.slice a20 l20 c20,.slice a21 l21 c21] 51)):=ai _ _
 have bX:(w.alloc (.cells #[.int .i64 x.s,.int .i64 x.t,.int .i64 x.k,.int .i64 x.z,.int .i64 x.p,.int .i64 x.l,.int .i64 x.e,.bool x.b,.int .i64 x.v,.int .i64 x.r,.slice a10 l10 c10,.slice a11 l11 c11,.slice a12 l12 c12,.slice a13 l13 c13,.int .i64 x.n,.bool x.op,.slice a16 l16 c16,.slice a17 l17 c17,.slice a18 l18 c18,.int .i64 x.sfn,.slice a20 l20 c20,.slice a21 l21 c21] 51)).heap[w.heap.size]? =some (.cells #[.int .i64 x.s,.int .i64 x.t,.int .i64 x.k,.int .i64 x.z,.int .i64 x.p,.int .i64 x.l,.int .i64 x.e,.bool x.b,.int .i64 x.v,.int .i64 x.r,.slice a10 l10 c10,.slice a11 l11 c11,.slice a12 l12 c12,.slice a13 l13 c13,.int .i64 x.n,.bool x.op,.slice a16 l16 c16,.slice a17 l17 c17,.slice a18 l18 c18,.int .i64 x.sfn,.slice a20 l20 c20,.slice a21 l21 c21] 51 (0,0)):=aR _ _ _
 have zz0:(w.alloc (.cells #[.int .i64 x.s,.int .i64 x.t,.int .i64 x.k,.int .i64 x.z,.int .i64 x.p,.int .i64 x.l,.int .i64 x.e,.bool x.b,.int .i64 x.v,.int .i64 x.r,.slice a10 l10 c10,.slice a11 l11 c11,.slice a12 l12 c12,.slice a13 l13 c13,.int .i64 x.n,.bool x.op,.slice a16 l16 c16,.slice a17 l17 c17,.slice a18 l18 c18,.int .i64 x.sfn,.slice a20 l20 c20,.slice a21 l21 c21] 51)).heap.size=w.heap.size+1:=by simp
 go_enter Tryz.func21,Tryz.ntmps21
 go_upto_region 1 with fail
 generalize (w.alloc (.cells #[.int .i64 x.s,.int .i64 x.t,.int .i64 x.k,.int .i64 x.z,.int .i64 x.p,.int .i64 x.l,.int .i64 x.e,.bool x.b,.int .i64 x.v,.int .i64 x.r,.slice a10 l10 c10,.slice a11 l11 c11,.slice a12 l12 c12,.slice a13 l13 c13,.int .i64 x.n,.bool x.op,.slice a16 l16 c16,.slice a17 l17 c17,.slice a18 l18 c18,.int .i64 x.sfn,.slice a20 l20 c20,.slice a21 l21 c21] 51))=W0 at bX HB0 zz0 ⊢
 have HF:=ab (h.below HB0)
 have HB:=ab HB0
 clear HB0 h
 have HO0:Hid (eh W0 W0.heap.size (.slice none 0 0) []):=ab (World.ownsRow_nil _ _ _ _)
 have hL:=cc bX 51 Tryz.underlying51 rfl (jK)
 go_wp2_with fail
 clear hL
 refine(iH x a10 l10 c10 a11 l11 c11 a12 l12 c12 a13 l13 c13 a16 l16 c16 a17 l17 c17 a18 l18 c18 a20 l20 c20 a21 l21 c21 B _ (aa HF)).mono ?_
 rw[aa hV]
 rintro e9 w1 ⟨rfl,hb1⟩
 have hbW:Below W0.heap.size W0 w1:=hb1
 have bX1:=(hbW.block _ (ao bX)).trans bX
 have HO1:=ab (gc (aa HO0) hb1)
 have HB1:=ab (ae (aa HB) (hbW.mono (by omega)))
 have HF0:=ab (aa HF)
 have zW:w.heap.size≤W0.heap.size:=by omega
 cases ob
 ·go_wp2
  go_ret
  exact⟨_,rfl,by have h9:=fw (aa HO1) zW;(try rw[←zz0]);exact h9,aa HB1⟩
 clear HO0 HF hb1
 have HLB:=ab (rcF_tl (l:=x.v) (xs:=x.logs) hsk.2)
 have HKL:=ab (And.intro hl10 hsk)
 clear hl10 hsk
 have cx10:=cA bX1 10
 simp only[gA,gZ,gS]at cx10
 go_wp2
 clear cx10
 go_loopw [3,12] (fun ov i wr=>∃ix:Nat,ix≤l10∧i= .int .i64 ix∧Hid (eh wr W0.heap.size ov (gi x.v (x.logs.take ix)))∧Below W0.heap.size W0 wr) (fun _ i _=>l10 - (intOf i).toNat)
 case atStart=>exact⟨0,Nat.zero_le _,rfl,ab (by rw[List.take_zero];have h9:=aa HO1;(try rw[←zz0]);exact h9),hbW⟩
 case round=>
  obtain⟨ix,hk,rfl,HO,hbw⟩:=hrel
  have bXr:=(hbw.block _ (ao bX)).trans bX
  have zXr:=ao bXr
  have zX0:=ao bX
  have cx10:=cA bXr 10
  have cx8:=cA bXr 8
  simp only[gA,gZ,gS]at cx10 cx8
  by_cases hlt:ix<l10
  ·obtain⟨hl10,hsk1,hsk2⟩:=aa HKL
   have hF:=(aa HF0).below hbw
   obtain⟨_,_,hx9⟩:=hF.logs
   obtain⟨g,o,rfl,_,hr⟩:=hx9.resolve_left (by omega)
   obtain⟨y,hy⟩:∃y,x.logs[ix]? =some y:=⟨_,List.getElem?_eq_getElem (by omega)⟩
   have hy1:=hr ix y hy
   have zg:=hy1.lt
   obtain⟨a0y,l0y,c0y,e0,k0⟩:=hy1
   rw[Nat.mul_one]at e0
   have HT:=ab (rcF_take (l:=x.v) hy)
   have hle:=aa HLB ix
   have hly:y.q.length≤1048576:=hsk2 y (List.mem_of_getElem? hy)
   have hrq:=fx x.v y.q
   have hl0y:l0y≤1048576:=by have h9:=k0.1.1;omega
   have HK0:=ab k0.1
   have hi10:(ix:Int)<(l10:Int):=by omega
   have hk9:=ab (show ix+1≤l10 by omega)
   have hixb:(ix:Int)≤1048576:=by have h9:=hl10.1;omega
   have hszl:(gi x.v (x.logs.take ix)).length+(iz x.v y.q).length≤1099511627776:=by omega
   have hge9:=ab (fun b9 (e9:Value.ownBlock u3=some b9)=>jx (aa HO) b9 e9)
   have zW9:=hbw.size
   clear hx9 hr hy hF k0 hle hsk1 hsk2 hl10 hly hrq
   go_wp2_with fail
   refine(implrec_iw a0y l0y c0y x.v y.q _ (aa HK0) hl0y).mono ?_
   rintro e' w6 ⟨br,cr,rfl,HR,hbr⟩
   have zW6:=hbr.size
   go_upto_region 8 with(at_builtin;go_loud (refine wp_app rfl _ _ 62 rfl W0.heap.size 101 i0 _ 5 40 Tryz.underlying62 hi hz0 hz1 hz2 rfl (by decide) u3 _ _ rfl (gc (aa HO) hbr) br (iz x.v y.q).length cr (bk (iz x.v y.q)) rfl (by rw[fL]) (fun h9=>HR.2.2.elim id (fun h8=>by obtain⟨_,_,h8,_⟩:=h8;rw[h9]at h8;cases h8)) (newsFIw HR) (oneFIw _) (by unfold maxLen;omega) (by omega) (by have h9:=hbr.size;(try simp at h9);omega) ?_);intro v5 w5 hown jC)
   have hb5:Below W0.heap.size W0 w5:=(hbw.trans (hbr.mono zW9)).grown jC (by omega) (fun b9 e9=>(aa hge9 b9 e9).1)
   have HO5:Hid (eh w5 W0.heap.size v5 (gi x.v (x.logs.take (ix+1)))):=ab (by rw[aa HT];exact appFIw hown)
   clear hown jC hge9
   go_wp2
   go_roundw
   case rel=>exact⟨ix+1,aa hk9,by go_num,HO5,hb5⟩
   case measure=>have h9:=aa hk9;simp[intOf];omega
  ·have HV:Hid (gi x.v (x.logs.take ix)=gi x.v x.logs):=ab (by obtain⟨hl10,_⟩:=aa HKL;rw[List.take_of_length_le (by omega)])
   have hge:¬ (ix:Int)<(l10:Int):=by omega
   go_wp2
   go_ret
   exact⟨_,rfl,fw (by have h9:=aa HO;rw[aa HV]at h9;exact h9) zW,ae (aa HB) (hbw.mono (by omega))⟩
set_option linter.unusedSimpArgs false
attribute [local go_sem ↓] dJ
attribute [local go_sem ↓] dS
attribute [local go_sem ↓] eM
theorem bG.upF{W W':World}{a:Option Addr}{n:Nat}{xs:List bF}(h:bG W a n xs)(hb:∀g o,0<n→a=some ⟨g,o,none⟩→W'.heap[g]? =W.heap[g]?):bG W' a n xs:=by
 obtain⟨h1,h2,h3⟩:=h
 refine⟨h1,h2,?_⟩
 rcases h3 with h3|⟨g,o,e,hat⟩
 ·exact Or.inl h3
 ·by_cases h0:n=0
  ·exact Or.inl h0
  ·refine Or.inr ⟨g,o,e,fun i x hx=>?_⟩
   have hbk:=hb g o (by omega) e
   obtain⟨d0,d1,d2,d3,d4⟩:=hat i x hx
   exact⟨(World.cell?_of_block hbk).trans d0,(World.cell?_of_block hbk).trans d1,(World.cell?_of_block hbk).trans d2,(World.cell?_of_block hbk).trans d3,(World.cell?_of_block hbk).trans d4⟩
theorem gU.upF{W W':World}{a:Option Addr}{n c:Nat}(h:gU W a n c)(hb:∀g o,0<n→a=some ⟨g,o,none⟩→W'.heap[g]? =W.heap[g]?):gU W' a n c:=by
 by_cases h0:n=0
 ·exact Or.inl h0
 ·obtain⟨g,e,⟨cur,h1,h2⟩,h3⟩:=h.resolve_left h0
  exact Or.inr ⟨g,e,⟨cur,(hb g 0 (by omega) e).trans h1,h2⟩,h3⟩
set_option maxRecDepth 20000 in
set_option maxHeartbeats 16000000 in
theorem lawFloRecs(x:fW)(a10:Option Addr)(l10 c10:Nat)(a11:Option Addr)(l11 c11:Nat)(a12:Option Addr)(l12 c12:Nat)(a13:Option Addr)(l13 c13:Nat)(a16:Option Addr)(l16 c16:Nat)(a17:Option Addr)(l17 c17:Nat)(a18:Option Addr)(l18 c18:Nat)(a20:Option Addr)(l20 c20:Nat)(a21:Option Addr)(l21 c21:Nat)(w:World)(h:FlIs w 0 a10 l10 a11 l11 a12 l12 a13 l13 a16 l16 a17 l17 a18 l18 a20 l20 a21 l21 x):Calls Tryz.prog 5 #[.agg #[.int .i64 x.s,.int .i64 x.t,.int .i64 x.k,.int .i64 x.z,.int .i64 x.p,.int .i64 x.l,.int .i64 x.e,.bool x.b,.int .i64 x.v,.int .i64 x.r,.slice a10 l10 c10,.slice a11 l11 c11,.slice a12 l12 c12,.slice a13 l13 c13,.int .i64 x.n,.bool x.op,.slice a16 l16 c16,.slice a17 l17 c17,.slice a18 l18 c18,.int .i64 x.sfn,.slice a20 l20 c20,.slice a21 l21 c21]] w fun e' w'=>e'= .returned (.bool true)∧Below w.heap.size w w':=by
 have HB0:Below w.heap.size w (w.alloc (.cells #[.int .i64 x.s,.int .i64 x.t,.int .i64 x.k,.int .i64 x.z,.int .i64 x.p,.int .i64 x.l,.int .i64 x.e,.bool x.b,.int .i64 x.v,.int .i64 x.r,.slice a10 l10 c10,.slice a11 l11 c11,.slice a12 l12 c12,.slice a13 l13 c13,.int .i64 x.n,.bool x.op,.slice a16 l16 c16,.slice a17 l17 c17,.slice a18 l18 c18,.int .i64 x.sfn,.slice a20 l20 c20,.slice a21 l21 c21] 36)):=ai _ _
 have bX:(w.alloc (.cells #[.int .i64 x.s,.int .i64 x.t,.int .i64 x.k,.int .i64 x.z,.int .i64 x.p,.int .i64 x.l,.int .i64 x.e,.bool x.b,.int .i64 x.v,.int .i64 x.r,.slice a10 l10 c10,.slice a11 l11 c11,.slice a12 l12 c12,.slice a13 l13 c13,.int .i64 x.n,.bool x.op,.slice a16 l16 c16,.slice a17 l17 c17,.slice a18 l18 c18,.int .i64 x.sfn,.slice a20 l20 c20,.slice a21 l21 c21] 36)).heap[w.heap.size]? =some (.cells #[.int .i64 x.s,.int .i64 x.t,.int .i64 x.k,.int .i64 x.z,.int .i64 x.p,.int .i64 x.l,.int .i64 x.e,.bool x.b,.int .i64 x.v,.int .i64 x.r,.slice a10 l10 c10,.slice a11 l11 c11,.slice a12 l12 c12,.slice a13 l13 c13,.int .i64 x.n,.bool x.op,.slice a16 l16 c16,.slice a17 l17 c17,.slice a18 l18 c18,.int .i64 x.sfn,.slice a20 l20 c20,.slice a21 l21 c21] 36 (0,0)):=aR _ _ _
 go_enter Tryz.func5,Tryz.ntmps5
 go_upto_region 2 with fail
 generalize (w.alloc (.cells #[.int .i64 x.s,.int .i64 x.t,.int .i64 x.k,.int .i64 x.z,.int .i64 x.p,.int .i64 x.l,.int .i64 x.e,.bool x.b,.int .i64 x.v,.int .i64 x.r,.slice a10 l10 c10,.slice a11 l11 c11,.slice a12 l12 c12,.slice a13 l13 c13,.int .i64 x.n,.bool x.op,.slice a16 l16 c16,.slice a17 l17 c17,.slice a18 l18 c18,.int .i64 x.sfn,.slice a20 l20 c20,.slice a21 l21 c21] 36))=W0 at bX HB0 ⊢
 have HF0:=ab (h.below HB0)
 have HFW:=ab h
 clear h
 have hL:=cc bX 36 Tryz.underlying36 rfl (jK)
 go_wp2_with fail
 clear hL
 refine(szFlA x a10 l10 c10 a11 l11 c11 a12 l12 c12 a13 l13 c13 a16 l16 c16 a17 l17 c17 a18 l18 c18 a20 l20 c20 a21 l21 c21 _ (aa HF0)).mono ?_
 rintro e' w1 ⟨⟨rr,rfl,hr⟩,hb1⟩
 have bX1:=(hb1.block _ (ao bX)).trans bX
 have HB1:=ab (ae HB0 hb1)
 have HF1:=ab ((aa HF0).below hb1)
 clear hb1 bX HF0 HB0
 rcases hr with rfl|⟨hr0,hr1,hok⟩
 ·go_wp2
  go_ret
  exact⟨rfl,aa HB1⟩
 ·have hneg:¬ rr<0:=by omega
  have hL:=cc bX1 36 Tryz.underlying36 rfl (jK)
  go_wp2_with fail
  clear hL
  refine(toFlA x a10 l10 c10 a11 l11 c11 a12 l12 c12 a13 l13 c13 a16 l16 c16 a17 l17 c17 a18 l18 c18 a20 l20 c20 a21 l21 c21 _ (aa HF1) hok).mono ?_
  rintro e' w2 ⟨b10,b11,b12,b13,b16,b17,b18,b20,b21,rfl,H2,hb2⟩
  have hcnt:fl x.logs+l11+fD x.tks+fE x.sks+(l16+l17+di x.sn+(l20+di x.ssn))≤1048576:=by omega
  have HCN:=ab hcnt
  have hskx:x.logs.length≤1048576∧∀y ∈ x.logs,y.sm:=⟨by have h9:=H2.logs.len.1;have h8:=hok.1.1;omega,hok.1.2⟩
  obtain⟨ob,hV⟩:∃ob,cv x=ob:=⟨_,rfl⟩
  have HV:=ab hV
  obtain⟨XS,hXS⟩:∃XS,(if ob=true then gi x.v x.logs else [])=XS:=⟨_,rfl⟩
  have hXl:XS.length≤1048576:=by
   rw[←hXS]
   have h9:=rcF_cnt x.v x.logs
   cases ob
   ·exact Nat.zero_le _
   ·exact Nat.le_trans h9 (by omega)
  clear hV hcnt
  go_wp2_with fail
  refine(iF x b10 l10 l10 b11 l11 l11 b12 l12 l12 b13 l13 l13 b16 l16 l16 b17 l17 l17 b18 l18 l18 b20 l20 l20 b21 l21 l21 _ _ H2 hok.2.2.2.2.2.2.1.2 hskx HV).mono ?_
  rw[hXS]
  rintro e' w3 ⟨vs,rfl,hOs,hb3⟩
  obtain⟨bs,cs,rfl,HS0,_,_⟩:=gV hOs hXl
  clear hOs
  have lts:∀g o,0<XS.length→bs=some ⟨g,o,none⟩→g<w3.heap.size:=fun g o hp ha=>by subst ha;exact HS0.lt hp
  have hb13:=ae hb2 hb3
  have bX3:=(hb13.block _ (ao bX1)).trans bX1
  have HB3:=ab (ae (aa HB1) hb13)
  have HF3:=ab ((aa HF1).below hb13)
  have HS3:=ab HS0
  clear hb13 hb2 hb3 bX1 HF1 HB1 H2 HS0
  have hL:=cc bX3 36 Tryz.underlying36 rfl (jK)
  go_wp2_with fail
  clear hL
  refine(toFlA x a10 l10 c10 a11 l11 c11 a12 l12 c12 a13 l13 c13 a16 l16 c16 a17 l17 c17 a18 l18 c18 a20 l20 c20 a21 l21 c21 _ (aa HF3) hok).mono ?_
  rintro e' w4 ⟨q10,q11,q12,q13,q16,q17,q18,q20,q21,rfl,H4,hb4⟩
  have bX4:=(hb4.block _ (ao bX3)).trans bX3
  have HB4:=ab (ae (aa HB3) hb4)
  have HF4:=ab ((aa HF3).below hb4)
  have HS4:=ab ((aa HS3).below hb4)
  have z34:=hb4.size
  have zw3:=(aa HB3).size
  have zx3:w.heap.size<w3.heap.size:=ao bX3
  clear hb4 bX3 HF3 HS3
  have hbY:Below w4.heap.size w4 (w4.alloc (.cells #[.int .i64 x.s,.int .i64 x.t,.int .i64 x.k,.int .i64 x.z,.int .i64 x.p,.int .i64 x.l,.int .i64 x.e,.bool x.b,.int .i64 x.v,.int .i64 x.r,.slice q10 l10 l10,.slice q11 l11 l11,.slice q12 l12 l12,.slice q13 l13 l13,.int .i64 x.n,.bool x.op,.slice q16 l16 l16,.slice q17 l17 l17,.slice q18 l18 l18,.int .i64 x.sfn,.slice q20 l20 l20,.slice q21 l21 l21] 51)):=ai _ _
  have bY:(w4.alloc (.cells #[.int .i64 x.s,.int .i64 x.t,.int .i64 x.k,.int .i64 x.z,.int .i64 x.p,.int .i64 x.l,.int .i64 x.e,.bool x.b,.int .i64 x.v,.int .i64 x.r,.slice q10 l10 l10,.slice q11 l11 l11,.slice q12 l12 l12,.slice q13 l13 l13,.int .i64 x.n,.bool x.op,.slice q16 l16 l16,.slice q17 l17 l17,.slice q18 l18 l18,.int .i64 x.sfn,.slice q20 l20 l20,.slice q21 l21 l21] 51)).heap[w4.heap.size]? =some (.cells #[.int .i64 x.s,.int .i64 x.t,.int .i64 x.k,.int .i64 x.z,.int .i64 x.p,.int .i64 x.l,.int .i64 x.e,.bool x.b,.int .i64 x.v,.int .i64 x.r,.slice q10 l10 l10,.slice q11 l11 l11,.slice q12 l12 l12,.slice q13 l13 l13,.int .i64 x.n,.bool x.op,.slice q16 l16 l16,.slice q17 l17 l17,.slice q18 l18 l18,.int .i64 x.sfn,.slice q20 l20 l20,.slice q21 l21 l21] 51 (0,0)):=aR _ _ _
  have hL:=cc bY 51 Tryz.underlying51 rfl (jK)
  have hS:=store_new (P:=Tryz.prog) w4 51 #[.int .i64 0,.int .i64 0,.int .i64 0,.int .i64 0,.int .i64 0,.int .i64 0,.int .i64 0,.bool false,.int .i64 0,.int .i64 0,.slice none 0 0,.slice none 0 0,.slice none 0 0,.slice none 0 0,.int .i64 0,.bool false,.slice none 0 0,.slice none 0 0,.slice none 0 0,.int .i64 0,.slice none 0 0,.slice none 0 0] #[.int .i64 x.s,.int .i64 x.t,.int .i64 x.k,.int .i64 x.z,.int .i64 x.p,.int .i64 x.l,.int .i64 x.e,.bool x.b,.int .i64 x.v,.int .i64 x.r,.slice q10 l10 l10,.slice q11 l11 l11,.slice q12 l12 l12,.slice q13 l13 l13,.int .i64 x.n,.bool x.op,.slice q16 l16 l16,.slice q17 l17 l17,.slice q18 l18 l18,.int .i64 x.sfn,.slice q20 l20 l20,.slice q21 l21 l21] (jK) rfl (by simp[Value.oneCell'])
  go_wp2_with fail
  clear hL hS
  have zV:w4.heap.size<(w4.alloc (.cells #[.int .i64 x.s,.int .i64 x.t,.int .i64 x.k,.int .i64 x.z,.int .i64 x.p,.int .i64 x.l,.int .i64 x.e,.bool x.b,.int .i64 x.v,.int .i64 x.r,.slice q10 l10 l10,.slice q11 l11 l11,.slice q12 l12 l12,.slice q13 l13 l13,.int .i64 x.n,.bool x.op,.slice q16 l16 l16,.slice q17 l17 l17,.slice q18 l18 l18,.int .i64 x.sfn,.slice q20 l20 l20,.slice q21 l21 l21] 51)).heap.size:=by simp
  refine(fK x q10 l10 l10 q11 l11 l11 q12 l12 l12 q13 l13 l13 q16 l16 l16 q17 l17 l17 q18 l18 l18 q20 l20 l20 q21 l21 l21 _ _ (H4.below hbY) hskx HV).mono ?_
  rw[hXS]
  generalize (w4.alloc (.cells #[.int .i64 x.s,.int .i64 x.t,.int .i64 x.k,.int .i64 x.z,.int .i64 x.p,.int .i64 x.l,.int .i64 x.e,.bool x.b,.int .i64 x.v,.int .i64 x.r,.slice q10 l10 l10,.slice q11 l11 l11,.slice q12 l12 l12,.slice q13 l13 l13,.int .i64 x.n,.bool x.op,.slice q16 l16 l16,.slice q17 l17 l17,.slice q18 l18 l18,.int .i64 x.sfn,.slice q20 l20 l20,.slice q21 l21 l21] 51))=V4 at hbY bY zV ⊢
  rintro e' w5 ⟨vg,rfl,hOg,hb5⟩
  obtain⟨bg,cg,rfl,HG0,RG0,geg⟩:=gV hOg hXl
  clear hOg
  have ltg:∀g o,0<XS.length→bg=some ⟨g,o,none⟩→g<w5.heap.size:=fun g o hp ha=>by subst ha;exact HG0.lt hp
  have hb45:=ae hbY hb5
  have bX5:=(hb45.block _ (ao bX4)).trans bX4
  have bY5:=(hb5.block _ (ao bY)).trans bY
  have HB5:=ab (ae (aa HB4) hb45)
  have HF5:=ab ((aa HF4).below hb45)
  have HY5:=ab (H4.below hb45)
  have HX5:=ab hb45
  have HS5:=(aa HS4).below hb45
  have H4X:=ab H4
  clear hb45 hb5 hbY bX4 bY HB4 HF4 H4 HS4
  go_wp2_with fail
  refine(fi _ _ XS.length _ _ XS _ HG0 HS5).mono ?_
  rintro e' w6 ⟨rfl,hb6⟩
  have bX6:=(hb6.block _ (ao bX5)).trans bX5
  have bY6:=(hb6.block _ (ao bY5)).trans bY5
  have HB6:=ab (ae (aa HB5) hb6)
  have HF6:=ab ((aa HF5).below hb6)
  have HY6:=ab ((aa HY5).below hb6)
  have HX6:=ab (ae (aa HX5) hb6)
  have HS6:=ab (HS5.below hb6)
  have HG6:=ab (And.intro (HG0.below hb6) (RG0.below hb6))
  have z56:=hb6.size
  have zX:=ao bX6
  have zY:=ao bY6
  clear hb6 bX5 bY5 HB5 HF5 HY5 HX5 HS5 HG0 RG0
  go_wp2_with fail
  refine wp_region_held_drew (S:=(fun W=>Below w6.heap.size w6 W)) (jK) ?_ (fun hHeld=>?_)
  ·exact aj (Below.refl _ _)
  refine wpAnyH_take (i:=0) (v:= .agg #[.int .i64 x.s,.int .i64 x.t,.int .i64 x.k,.int .i64 x.z,.int .i64 x.p,.int .i64 x.l,.int .i64 x.e,.bool x.b,.int .i64 x.v,.int .i64 x.r,.slice q10 l10 l10,.slice q11 l11 l11,.slice q12 l12 l12,.slice q13 l13 l13,.int .i64 x.n,.bool x.op,.slice q16 l16 l16,.slice q17 l17 l17,.slice q18 l18 l18,.int .i64 x.sfn,.slice q20 l20 l20,.slice q21 l21 l21]) (by simp only[gA,gZ,gS];rfl) (jK) (jK) (jK) (by intro _ _ _ h;exact h) (yieldsIf_load_mid (by rfl) 51 (.tmp 5) rfl (w4.heap.size) 0 rfl [.int .i64 x.s,.int .i64 x.t,.int .i64 x.k,.int .i64 x.z,.int .i64 x.p,.int .i64 x.l,.int .i64 x.e,.bool x.b,.int .i64 x.v,.int .i64 x.r,.slice q10 l10 l10,.slice q11 l11 l11,.slice q12 l12 l12,.slice q13 l13 l13,.int .i64 x.n,.bool x.op,.slice q16 l16 l16,.slice q17 l17 l17,.slice q18 l18 l18,.int .i64 x.sfn,.slice q20 l20 l20,.slice q21 l21 l21] _ (fun w9 hSw=>ir ((hSw.block _ zY).trans bY6)) Tryz.underlying51 rfl (jK)) (by assumption) ?_
  try simp only[Act.put,tA,tZ,tS]
  refine wpAnyH_take (i:=1) (v:= .agg #[.int .i64 x.s,.int .i64 x.t,.int .i64 x.k,.int .i64 x.z,.int .i64 x.p,.int .i64 x.l,.int .i64 x.e,.bool x.b,.int .i64 x.v,.int .i64 x.r,.slice a10 l10 c10,.slice a11 l11 c11,.slice a12 l12 c12,.slice a13 l13 c13,.int .i64 x.n,.bool x.op,.slice a16 l16 c16,.slice a17 l17 c17,.slice a18 l18 c18,.int .i64 x.sfn,.slice a20 l20 c20,.slice a21 l21 c21]) (by simp only[gA,gZ,gS];rfl) (jK) (jK) (jK) (by intro _ _ _ h;exact h) (yieldsIf_load_mid (by rfl) 36 (.tmp 1) rfl (w.heap.size) 0 rfl [.int .i64 x.s,.int .i64 x.t,.int .i64 x.k,.int .i64 x.z,.int .i64 x.p,.int .i64 x.l,.int .i64 x.e,.bool x.b,.int .i64 x.v,.int .i64 x.r,.slice a10 l10 c10,.slice a11 l11 c11,.slice a12 l12 c12,.slice a13 l13 c13,.int .i64 x.n,.bool x.op,.slice a16 l16 c16,.slice a17 l17 c17,.slice a18 l18 c18,.int .i64 x.sfn,.slice a20 l20 c20,.slice a21 l21 c21] _ (fun w9 hSw=>ir ((hSw.block _ zX).trans bX6)) Tryz.underlying36 rfl (jK)) (by assumption) ?_
  try simp only[Act.put,tA,tZ,tS]
  refine rD 2 (fun K hK=>?_)
  go_simp
  (try dsimp only at hHeld)
  (go_at_call 8;refine(toFlA x a10 l10 c10 a11 l11 c11 a12 l12 c12 a13 l13 c13 a16 l16 c16 a17 l17 c17 a18 l18 c18 a20 l20 c20 a21 l21 c21 _ ((aa HF6).below hHeld) hok).mono ?_;rintro e9 w7 ⟨r10,r11,r12,r13,r16,r17,r18,r20,r21,rfl,H6,hbw7⟩)
  (try go_wp2_with fail)
  refine hK.out _ _ (ae hHeld hbw7) (fun jB=>?_)
  clear hK K hHeld
  have hHeld:=jB
  clear jB
  (try dsimp only at hHeld)
  try simp only[Act.put,tA,tZ,tS]
  refine rD 3 (fun K hK=>?_)
  go_simp
  (try dsimp only at hHeld)
  (go_at_call 11;refine(eqFlA _ _ x q10 r10 l10 q11 r11 l11 q12 r12 l12 q13 r13 l13 q16 r16 l16 q17 r17 l17 q18 r18 l18 q20 r20 l20 q21 r21 l21 _ ((aa HY6).below hHeld) H6).mono ?_;rintro e9 w8 ⟨rfl,hbw8⟩)
  (try go_wp2_with fail)
  refine hK.out _ _ (ae hHeld hbw8) (fun jB=>?_)
  clear hK K hHeld
  have hHeld:=jB
  clear jB
  (try dsimp only at hHeld)
  try simp only[Act.put,tA,tZ,tS]
  refine kV 4 ?_
  refine wpAnyH_done (jK) ?_ _
  rename World=>w8
  have hb8:=hHeld
  clear hHeld
  have bX8:=(hb8.block _ (ao bX6)).trans bX6
  have bY8:=(hb8.block _ (ao bY6)).trans bY6
  have HB8:=ab (ae (aa HB6) hb8)
  have HX8:=ab (ae (aa HX6) hb8)
  have HS8:=ab ((aa HS6).below hb8)
  have HG8:=ab (And.intro ((aa HG6).1.below hb8) ((aa HG6).2.below hb8))
  have z68:=hb8.size
  clear hb8 bX6 bY6 HB6 HF6 HY6 HX6 HS6 HG6 zX zY
  have zz8:=(aa HX8).size
  have hL:=cc bY8 51 Tryz.underlying51 rfl (jK)
  go_wp2_with fail
  clear hL
  refine(shmFl w3.heap.size w4 w8 (by omega) 1 (by omega) x q10 l10 l10 q11 l11 l11 q12 l12 l12 q13 l13 l13 q16 l16 l16 q17 l17 l17 q18 l18 l18 q20 l20 l20 q21 l21 l21 w8 (aa H4X) (cE.start (aa HX8)) (aa HCN) (by have h9:=aa HCN;omega)).mono ?_
  rintro e' w9 ⟨⟨kv,rfl,hk0,hk1⟩,hM⟩
  have hbM:Below w3.heap.size w8 w9:=⟨hM.os,hM.tape,hM.output,hM.size,fun q hq=>hM.old q (by omega) (Or.inl hq)⟩
  have bX9:=(hbM.block _ zx3).trans bX8
  have HB9:=ab ((aa HB8).trans (hbM.mono (by omega)))
  have HS9:=(aa HS8).upF (fun g o hp ha=>hbM.block g (lts g o hp ha))
  have HG9:=(aa HG8).1.upF (fun g o hp ha=>hM.old g (by have h8:=ltg g o hp ha;omega) (Or.inr (by have h8:=geg g o hp ha;omega)))
  have RG9:=(aa HG8).2.upF (fun g o hp ha=>hM.old g (by have h8:=ltg g o hp ha;omega) (Or.inr (by have h8:=geg g o hp ha;omega)))
  have z89:=hM.size
  have hkn:¬ kv<0:=by omega
  clear hM hbM bX8 bY8 HB8 HX8 HS8 HG8 H4X hk1
  go_wp2_with fail
  refine(fi _ _ XS.length _ _ XS _ HG9 HS9).mono ?_
  rintro e' w10 ⟨rfl,hb10⟩
  have bX10:=(hb10.block _ (ao bX9)).trans bX9
  have HB10:=ab (ae (aa HB9) hb10)
  have HS10:=HS9.below hb10
  have RG10:=RG9.below hb10
  have z910:=hb10.size
  clear hb10 bX9 HB9 HS9 HG9 RG9
  go_wp2_with fail
  clear hkn hk0
  refine(markIw_any _ XS.length cg _ RG10 hXl).mono ?_
  rintro e' w11 ⟨rfl,MG,hg⟩
  have HS11:=HS10.grown hg (fun g o hp ha=>rowIw_ne (fun g' o' hp' e9=>by have q1:=lts g o hp ha;have q2:=geg g' o' hp' e9;omega) RG10.shape)
  have hbG:Below w3.heap.size w10 w11:=⟨hg.os,hg.tape,hg.output,hg.size,fun q hq=>hg.block q (by omega) (rowIw_ne (fun g' o' hp' e9=>by have q2:=geg g' o' hp' e9;omega) RG10.shape)⟩
  have bX11:=(hbG.block _ zx3).trans bX10
  have HB11:=ab ((aa HB10).trans (hbG.mono (by omega)))
  have z1011:=hg.size
  clear hg hbG bX10 HB10 HS10 RG10
  go_wp2_with fail
  refine(gW _ XS.length cg _ MG hXl).mono ?_
  rintro e' wx ⟨rfl,hw⟩
  obtain rfl:=hw.symm
  clear hw
  have HF11:=ab ((aa HFW).below (aa HB11))
  have hL:=cc bX11 36 Tryz.underlying36 rfl (jK)
  go_wp2_with fail
  clear hL
  refine(toFlA x a10 l10 c10 a11 l11 c11 a12 l12 c12 a13 l13 c13 a16 l16 c16 a17 l17 c17 a18 l18 c18 a20 l20 c20 a21 l21 c21 _ (aa HF11) hok).mono ?_
  rintro e' w12 ⟨t10,t11,t12,t13,t16,t17,t18,t20,t21,rfl,H12,hb12⟩
  go_wp2_with fail
  refine(fK x t10 l10 l10 t11 l11 l11 t12 l12 l12 t13 l13 l13 t16 l16 l16 t17 l17 l17 t18 l18 l18 t20 l20 l20 t21 l21 l21 _ _ H12 hskx HV).mono ?_
  rw[hXS]
  rintro e' w13 ⟨vh,rfl,hOh,hb13⟩
  obtain⟨bh,ch,rfl,HH,_,_⟩:=gV hOh hXl
  clear hOh
  have hb23:=ae hb12 hb13
  have HB13:=ab (ae (aa HB11) hb23)
  have HS13:=HS11.below hb23
  have MG13:=MG.below hb23
  clear hb12 hb13 hb23 bX11 HB11 HS11 MG HF11 H12
  go_wp2_with fail
  refine(fi _ _ XS.length _ _ XS _ HH HS13).mono ?_
  rintro e' w14 ⟨rfl,hb14⟩
  have HB14:=ab (ae (aa HB13) hb14)
  have MG14:=MG13.below hb14
  clear hb14 HB13 HS13 MG13 HH
  go_wp2_with fail
  refine(gW _ XS.length cg _ MG14 hXl).mono ?_
  rintro e' wx ⟨rfl,hw⟩
  obtain rfl:=hw.symm
  clear hw
  go_wp2_with fail
  go_ret
  exact⟨rfl,aa HB14⟩
end Go.Proofs.YtealpjmannopeaaGreat
