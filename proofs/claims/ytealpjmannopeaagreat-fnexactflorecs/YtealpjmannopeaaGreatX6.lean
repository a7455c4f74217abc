/- Laid together: what the claim needs of the texts that were built one by one. -/
import Derived.Test.YtealpjmannopeaaGreatX0
set_option linter.unusedVariables false
namespace Go.Proofs.YtealpjmannopeaaGreat
open Go.ChangeShapes Go.WideShapes Go.ChangeAt Go.RowKit
/-- When a job's step is ok; when a job is. -/
def hU(k z p:Int):Bool:=if k=2 then aP p 1 z&&decide (z≤4*p)else p==0
theorem stepB_2(z p:Int):hU 2 z p=(aP p 1 z&&decide (z≤4*p)):=rfl
theorem stepB_n{k:Int}(h:k≠2)(z p:Int):hU k z p=(p==0):=if_neg h
def aF(s t k z p l e v r:Int):Bool:=aP s 1 3&&aP t 1 2&&aP k 1 3&&aP z 1 20&&hU k z p&&aP l 0 20&&aP e 1 4&&aP v (-9) 9&&aP r 1 4
theorem toJob_any(s t k z p l e:Int)(b:Bool)(v r:Int)(w:World):Calls Tryz.prog 31 #[.agg #[.int .i64 s,.int .i64 t,.int .i64 k,.int .i64 z,.int .i64 p,.int .i64 l,.int .i64 e,.bool b,.int .i64 v,.int .i64 r]] w fun e' w'=>e'= .returned (.agg #[.int .i64 s,.int .i64 t,.int .i64 k,.int .i64 z,.int .i64 p,.int .i64 l,.int .i64 e,.bool b,.int .i64 v,.int .i64 r])∧Below w.heap.size w w':=by
 go_enter Tryz.func31,Tryz.ntmps31
 go_wp2
 refine bodyPost_ret (v:= .agg #[.int .i64 s,.int .i64 t,.int .i64 k,.int .i64 z,.int .i64 p,.int .i64 l,.int .i64 e,.bool b,.int .i64 v,.int .i64 r]) (by simp[results,Tryz.results31,go_sem]) rfl ⟨rfl,?_⟩
 exact(aL)
theorem bT(s t k z p l e:Int)(b:Bool)(v r:Int)(hz:1≤z∧z≤20)(w:World):Calls Tryz.prog 152 #[.agg #[.int .i64 s,.int .i64 t,.int .i64 k,.int .i64 z,.int .i64 p,.int .i64 l,.int .i64 e,.bool b,.int .i64 v,.int .i64 r]] w fun e' w'=>e'= .returned (.bool (hU k z p))∧Below w.heap.size w w':=by
 by_cases h2:k=2
 ·subst h2
  rw[stepB_2]
  cases d0:aP p 1 z
  ·have hq:Hid ((false&&decide (z≤4*p))=false):=ab (by simp)
   go_enter Tryz.func152,Tryz.ntmps152
   go_wp2_with (first
    |(go_at_call 126;refine(ah _ _ _ _).mono ?_;rintro e' w' ⟨rfl,rfl⟩))
   go_ret
   exact⟨af (aa hq).symm,(aL)⟩
  have hp:=aZ.1 d0
  have hq:Hid ((true&&decide (z≤4*p))=decide (z≤4*p)):=ab (by simp)
  go_enter Tryz.func152,Tryz.ntmps152
  go_wp2_with (first
   |(go_at_call 126;refine(ah _ _ _ _).mono ?_;rintro e' w' ⟨rfl,rfl⟩))
  go_ret
  exact⟨af (aa hq).symm,(aL)⟩
 rw[stepB_n h2]
 have g2:(k==2)=false:=by simpa using h2
 clear h2
 go_enter Tryz.func152,Tryz.ntmps152
 go_wp2_with (first
  |(go_at_call 126;refine(ah _ _ _ _).mono ?_;rintro e' w' ⟨rfl,rfl⟩))
 go_ret
 exact⟨rfl,(aL)⟩
set_option maxHeartbeats 1000000 in
theorem aJ(s t k z p l e:Int)(b:Bool)(v r:Int)(w:World):Calls Tryz.prog 104 #[.agg #[.int .i64 s,.int .i64 t,.int .i64 k,.int .i64 z,.int .i64 p,.int .i64 l,.int .i64 e,.bool b,.int .i64 v,.int .i64 r]] w fun e' w'=>e'= .returned (.bool (aF s t k z p l e v r))∧Below w.heap.size w w':=by
 cases c0:aP s 1 3
 ·have hq:Hid (aF s t k z p l e v r=false):=ab (by simp[aF,c0])
  go_enter Tryz.func104,Tryz.ntmps104
  go_wp2_with (first
   |(go_at_call 63;refine(al _ _ _ _).mono ?_;rintro e' w' ⟨rfl,rfl⟩))
  go_ret
  exact⟨af (aa hq).symm,(aL)⟩
 cases c1:aP t 1 2
 ·have hq:Hid (aF s t k z p l e v r=false):=ab (by simp[aF,c0,c1])
  go_enter Tryz.func104,Tryz.ntmps104
  go_wp2_with (first
   |(go_at_call 63;refine(al _ _ _ _).mono ?_;rintro e' w' ⟨rfl,rfl⟩))
  go_ret
  exact⟨af (aa hq).symm,(aL)⟩
 cases c2:aP k 1 3
 ·have hq:Hid (aF s t k z p l e v r=false):=ab (by simp[aF,c0,c1,c2])
  go_enter Tryz.func104,Tryz.ntmps104
  go_wp2_with (first
   |(go_at_call 63;refine(al _ _ _ _).mono ?_;rintro e' w' ⟨rfl,rfl⟩))
  go_ret
  exact⟨af (aa hq).symm,(aL)⟩
 cases c3:aP z 1 20
 ·have hq:Hid (aF s t k z p l e v r=false):=ab (by simp[aF,c0,c1,c2,c3])
  go_enter Tryz.func104,Tryz.ntmps104
  go_wp2_with (first
   |(go_at_call 63;refine(al _ _ _ _).mono ?_;rintro e' w' ⟨rfl,rfl⟩))
  go_ret
  exact⟨af (aa hq).symm,(aL)⟩
 have hz:=aZ.1 c3
 by_cases h2:k=2
 ·subst h2
  have hs:=stepB_2 z p
  cases d0:aP p 1 z
  ·have hq:Hid (aF s t 2 z p l e v r=false):=ab (by simp[aF,hs,d0])
   clear hs
   go_enter Tryz.func104,Tryz.ntmps104
   go_wp2_with (first
    |(go_at_call 63;refine(al _ _ _ _).mono ?_;rintro e' w' ⟨rfl,rfl⟩))
   go_ret
   exact⟨af (aa hq).symm,(aL)⟩
  have hp:=aZ.1 d0
  by_cases d1:z≤4*p
  ·have hs':hU 2 z p=true:=by rw[hs,d0];simp[d1]
   clear hs
   cases x0:aP l 0 20
   ·have hq:Hid (aF s t 2 z p l e v r=false):=ab (by simp[aF,c0,c1,c2,c3,hs',x0])
    clear hs'
    go_enter Tryz.func104,Tryz.ntmps104
    go_wp2_with (first
     |(go_at_call 63;refine(al _ _ _ _).mono ?_;rintro e' w' ⟨rfl,rfl⟩))
    go_ret
    exact⟨af (aa hq).symm,(aL)⟩
   cases x1:aP e 1 4
   ·have hq:Hid (aF s t 2 z p l e v r=false):=ab (by simp[aF,c0,c1,c2,c3,hs',x0,x1])
    clear hs'
    go_enter Tryz.func104,Tryz.ntmps104
    go_wp2_with (first
     |(go_at_call 63;refine(al _ _ _ _).mono ?_;rintro e' w' ⟨rfl,rfl⟩))
    go_ret
    exact⟨af (aa hq).symm,(aL)⟩
   cases x2:aP v (-9) 9
   ·have hq:Hid (aF s t 2 z p l e v r=false):=ab (by simp[aF,c0,c1,c2,c3,hs',x0,x1,x2])
    clear hs'
    go_enter Tryz.func104,Tryz.ntmps104
    go_wp2_with (first
     |(go_at_call 63;refine(al _ _ _ _).mono ?_;rintro e' w' ⟨rfl,rfl⟩))
    go_ret
    exact⟨af (aa hq).symm,(aL)⟩
   have hq:Hid (aF s t 2 z p l e v r=aP r 1 4):=ab (by simp[aF,c0,c1,c2,c3,hs',x0,x1,x2])
   clear hs'
   go_enter Tryz.func104,Tryz.ntmps104
   go_wp2_with (first
    |(go_at_call 63;refine(al _ _ _ _).mono ?_;rintro e' w' ⟨rfl,rfl⟩))
   go_ret
   exact⟨af (aa hq).symm,(aL)⟩
  ·have hs':hU 2 z p=false:=by rw[hs,d0];simp[d1]
   have hq:Hid (aF s t 2 z p l e v r=false):=ab (by simp[aF,hs'])
   clear hs hs'
   go_enter Tryz.func104,Tryz.ntmps104
   go_wp2_with (first
    |(go_at_call 63;refine(al _ _ _ _).mono ?_;rintro e' w' ⟨rfl,rfl⟩))
   go_ret
   exact⟨af (aa hq).symm,(aL)⟩
 have hs:=stepB_n h2 z p
 have g2:(k==2)=false:=by simpa using h2
 have g3:(k != 2)=true:=by simpa using h2
 clear h2
 cases d0:(p==0)
 ·have g4:(p != 0)=true:=by simpa using d0
  have hq:Hid (aF s t k z p l e v r=false):=ab (by simp[aF,hs,d0])
  clear hs
  go_enter Tryz.func104,Tryz.ntmps104
  go_wp2_with (first
   |(go_at_call 63;refine(al _ _ _ _).mono ?_;rintro e' w' ⟨rfl,rfl⟩))
  go_ret
  exact⟨af (aa hq).symm,(aL)⟩
 have g4:(p != 0)=false:=by simpa using d0
 cases x0:aP l 0 20
 ·have hq:Hid (aF s t k z p l e v r=false):=ab (by simp[aF,c0,c1,c2,c3,hs,d0,x0])
  clear hs
  go_enter Tryz.func104,Tryz.ntmps104
  go_wp2_with (first
   |(go_at_call 63;refine(al _ _ _ _).mono ?_;rintro e' w' ⟨rfl,rfl⟩))
  go_ret
  exact⟨af (aa hq).symm,(aL)⟩
 cases x1:aP e 1 4
 ·have hq:Hid (aF s t k z p l e v r=false):=ab (by simp[aF,c0,c1,c2,c3,hs,d0,x0,x1])
  clear hs
  go_enter Tryz.func104,Tryz.ntmps104
  go_wp2_with (first
   |(go_at_call 63;refine(al _ _ _ _).mono ?_;rintro e' w' ⟨rfl,rfl⟩))
  go_ret
  exact⟨af (aa hq).symm,(aL)⟩
 cases x2:aP v (-9) 9
 ·have hq:Hid (aF s t k z p l e v r=false):=ab (by simp[aF,c0,c1,c2,c3,hs,d0,x0,x1,x2])
  clear hs
  go_enter Tryz.func104,Tryz.ntmps104
  go_wp2_with (first
   |(go_at_call 63;refine(al _ _ _ _).mono ?_;rintro e' w' ⟨rfl,rfl⟩))
  go_ret
  exact⟨af (aa hq).symm,(aL)⟩
 have hq:Hid (aF s t k z p l e v r=aP r 1 4):=ab (by simp[aF,c0,c1,c2,c3,hs,d0,x0,x1,x2])
 clear hs
 go_enter Tryz.func104,Tryz.ntmps104
 go_wp2_with (first
  |(go_at_call 63;refine(al _ _ _ _).mono ?_;rintro e' w' ⟨rfl,rfl⟩))
 go_ret
 exact⟨af (aa hq).symm,(aL)⟩
set_option maxHeartbeats 1000000 in
theorem aX(s t k z p l e:Int)(b:Bool)(v r:Int)(w:World):Calls Tryz.prog 123 #[.agg #[.int .i64 s,.int .i64 t,.int .i64 k,.int .i64 z,.int .i64 p,.int .i64 l,.int .i64 e,.bool b,.int .i64 v,.int .i64 r]] w fun e' w'=>e'= .returned (.bool (aF s t k z p l e v r))∧Below w.heap.size w w':=by
 cases c0:aP s 1 3
 ·have hq:Hid (aF s t k z p l e v r=false):=ab (by simp[aF,c0])
  go_enter Tryz.func123,Tryz.ntmps123
  go_wp2_with (first
   |(go_at_call 126;refine(ah _ _ _ _).mono ?_;rintro e' w' ⟨rfl,rfl⟩)
   |(go_at_call 152;refine(bT _ _ _ _ _ _ _ _ _ _ (by omega) _).mono ?_;rintro e' w' ⟨rfl,hb⟩;obtain⟨hc,hf,hsz⟩:=ac hb;(try have hz0:=zA hb w.heap.size)))
  go_ret
  exact⟨af (aa hq).symm,(aL)⟩
 cases c1:aP t 1 2
 ·have hq:Hid (aF s t k z p l e v r=false):=ab (by simp[aF,c0,c1])
  go_enter Tryz.func123,Tryz.ntmps123
  go_wp2_with (first
   |(go_at_call 126;refine(ah _ _ _ _).mono ?_;rintro e' w' ⟨rfl,rfl⟩)
   |(go_at_call 152;refine(bT _ _ _ _ _ _ _ _ _ _ (by omega) _).mono ?_;rintro e' w' ⟨rfl,hb⟩;obtain⟨hc,hf,hsz⟩:=ac hb;(try have hz0:=zA hb w.heap.size)))
  go_ret
  exact⟨af (aa hq).symm,(aL)⟩
 cases c2:aP k 1 3
 ·have hq:Hid (aF s t k z p l e v r=false):=ab (by simp[aF,c0,c1,c2])
  go_enter Tryz.func123,Tryz.ntmps123
  go_wp2_with (first
   |(go_at_call 126;refine(ah _ _ _ _).mono ?_;rintro e' w' ⟨rfl,rfl⟩)
   |(go_at_call 152;refine(bT _ _ _ _ _ _ _ _ _ _ (by omega) _).mono ?_;rintro e' w' ⟨rfl,hb⟩;obtain⟨hc,hf,hsz⟩:=ac hb;(try have hz0:=zA hb w.heap.size)))
  go_ret
  exact⟨af (aa hq).symm,(aL)⟩
 cases c3:aP z 1 20
 ·have hq:Hid (aF s t k z p l e v r=false):=ab (by simp[aF,c0,c1,c2,c3])
  go_enter Tryz.func123,Tryz.ntmps123
  go_wp2_with (first
   |(go_at_call 126;refine(ah _ _ _ _).mono ?_;rintro e' w' ⟨rfl,rfl⟩)
   |(go_at_call 152;refine(bT _ _ _ _ _ _ _ _ _ _ (by omega) _).mono ?_;rintro e' w' ⟨rfl,hb⟩;obtain⟨hc,hf,hsz⟩:=ac hb;(try have hz0:=zA hb w.heap.size)))
  go_ret
  exact⟨af (aa hq).symm,(aL)⟩
 have hz:=aZ.1 c3
 cases d0:hU k z p
 ·have hq:Hid (aF s t k z p l e v r=false):=ab (by simp[aF,c0,c1,c2,c3,d0])
  go_enter Tryz.func123,Tryz.ntmps123
  go_wp2_with (first
   |(go_at_call 126;refine(ah _ _ _ _).mono ?_;rintro e' w' ⟨rfl,rfl⟩)
   |(go_at_call 152;refine(bT _ _ _ _ _ _ _ _ _ _ (by omega) _).mono ?_;rintro e' w' ⟨rfl,hb⟩;obtain⟨hc,hf,hsz⟩:=ac hb;(try have hz0:=zA hb w.heap.size)))
  go_ret
  exact⟨af (aa hq).symm,(aL)⟩
 cases d1:aP l 0 20
 ·have hq:Hid (aF s t k z p l e v r=false):=ab (by simp[aF,c0,c1,c2,c3,d0,d1])
  go_enter Tryz.func123,Tryz.ntmps123
  go_wp2_with (first
   |(go_at_call 126;refine(ah _ _ _ _).mono ?_;rintro e' w' ⟨rfl,rfl⟩)
   |(go_at_call 152;refine(bT _ _ _ _ _ _ _ _ _ _ (by omega) _).mono ?_;rintro e' w' ⟨rfl,hb⟩;obtain⟨hc,hf,hsz⟩:=ac hb;(try have hz0:=zA hb w.heap.size)))
  go_ret
  exact⟨af (aa hq).symm,(aL)⟩
 cases d2:aP e 1 4
 ·have hq:Hid (aF s t k z p l e v r=false):=ab (by simp[aF,c0,c1,c2,c3,d0,d1,d2])
  go_enter Tryz.func123,Tryz.ntmps123
  go_wp2_with (first
   |(go_at_call 126;refine(ah _ _ _ _).mono ?_;rintro e' w' ⟨rfl,rfl⟩)
   |(go_at_call 152;refine(bT _ _ _ _ _ _ _ _ _ _ (by omega) _).mono ?_;rintro e' w' ⟨rfl,hb⟩;obtain⟨hc,hf,hsz⟩:=ac hb;(try have hz0:=zA hb w.heap.size)))
  go_ret
  exact⟨af (aa hq).symm,(aL)⟩
 cases d3:aP v (-9) 9
 ·have hq:Hid (aF s t k z p l e v r=false):=ab (by simp[aF,c0,c1,c2,c3,d0,d1,d2,d3])
  go_enter Tryz.func123,Tryz.ntmps123
  go_wp2_with (first
   |(go_at_call 126;refine(ah _ _ _ _).mono ?_;rintro e' w' ⟨rfl,rfl⟩)
   |(go_at_call 152;refine(bT _ _ _ _ _ _ _ _ _ _ (by omega) _).mono ?_;rintro e' w' ⟨rfl,hb⟩;obtain⟨hc,hf,hsz⟩:=ac hb;(try have hz0:=zA hb w.heap.size)))
  go_ret
  exact⟨af (aa hq).symm,(aL)⟩
 have hq:Hid (aF s t k z p l e v r=aP r 1 4):=ab (by simp[aF,c0,c1,c2,c3,d0,d1,d2,d3])
 go_enter Tryz.func123,Tryz.ntmps123
 go_wp2_with (first
  |(go_at_call 126;refine(ah _ _ _ _).mono ?_;rintro e' w' ⟨rfl,rfl⟩)
  |(go_at_call 152;refine(bT _ _ _ _ _ _ _ _ _ _ (by omega) _).mono ?_;rintro e' w' ⟨rfl,hb⟩;obtain⟨hc,hf,hsz⟩:=ac hb;(try have hz0:=zA hb w.heap.size)))
 go_ret
 exact⟨af (aa hq).symm,(aL)⟩
end Go.Proofs.YtealpjmannopeaaGreat
