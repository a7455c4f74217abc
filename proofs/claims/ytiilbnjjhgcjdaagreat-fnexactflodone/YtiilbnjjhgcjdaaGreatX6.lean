/- Laid together: what the claim needs of the texts that were built one by one. -/
import Derived.Test.YtiilbnjjhgcjdaaGreatX0
set_option linter.unusedVariables false
namespace Go.Proofs.YtiilbnjjhgcjdaaGreat
open Go.ChangeShapes Go.WideShapes Go.ChangeAt Go.RowKit
/-- When a job's step is ok; when a job is. -/
def gn(k z p:Int):Bool:=if k=2 then aO p 1 z&&decide (z≤4*p)else p==0
theorem stepB_2(z p:Int):gn 2 z p=(aO p 1 z&&decide (z≤4*p)):=rfl
theorem stepB_n{k:Int}(h:k≠2)(z p:Int):gn k z p=(p==0):=if_neg h
def aD(s t k z p l e v r:Int):Bool:=aO s 1 3&&aO t 1 2&&aO k 1 3&&aO z 1 20&&gn k z p&&aO l 0 20&&aO e 1 4&&aO v (-9) 9&&aO r 1 4
theorem toJob_any(s t k z p l e:Int)(b:Bool)(v r:Int)(w:World):Calls Tryz.prog 44 #[.agg #[.int .i64 s,.int .i64 t,.int .i64 k,.int .i64 z,.int .i64 p,.int .i64 l,.int .i64 e,.bool b,.int .i64 v,.int .i64 r]] w fun e' w'=>e'= .returned (.agg #[.int .i64 s,.int .i64 t,.int .i64 k,.int .i64 z,.int .i64 p,.int .i64 l,.int .i64 e,.bool b,.int .i64 v,.int .i64 r])∧Below w.heap.size w w':=by
 go_enter Tryz.func44,Tryz.ntmps44
 go_wp2
 refine bodyPost_ret (v:= .agg #[.int .i64 s,.int .i64 t,.int .i64 k,.int .i64 z,.int .i64 p,.int .i64 l,.int .i64 e,.bool b,.int .i64 v,.int .i64 r]) (by simp[results,Tryz.results44,go_sem]) rfl ⟨rfl,?_⟩
 exact(aK)
theorem bI(s t k z p l e:Int)(b:Bool)(v r:Int)(hz:1≤z∧z≤20)(w:World):Calls Tryz.prog 150 #[.agg #[.int .i64 s,.int .i64 t,.int .i64 k,.int .i64 z,.int .i64 p,.int .i64 l,.int .i64 e,.bool b,.int .i64 v,.int .i64 r]] w fun e' w'=>e'= .returned (.bool (gn k z p))∧Below w.heap.size w w':=by
 by_cases h2:k=2
 ·subst h2
  rw[stepB_2]
  cases d0:aO p 1 z
  ·have hq:Hid ((false&&decide (z≤4*p))=false):=ab (by simp)
   go_enter Tryz.func150,Tryz.ntmps150
   go_wp2_with (first
    |(go_at_call 102;refine(ah _ _ _ _).mono ?_;rintro e' w' ⟨rfl,rfl⟩))
   go_ret
   exact⟨ae (aa hq).symm,(aK)⟩
  have hp:=aX.1 d0
  have hq:Hid ((true&&decide (z≤4*p))=decide (z≤4*p)):=ab (by simp)
  go_enter Tryz.func150,Tryz.ntmps150
  go_wp2_with (first
   |(go_at_call 102;refine(ah _ _ _ _).mono ?_;rintro e' w' ⟨rfl,rfl⟩))
  go_ret
  exact⟨ae (aa hq).symm,(aK)⟩
 rw[stepB_n h2]
 have g2:(k==2)=false:=by simpa using h2
 clear h2
 go_enter Tryz.func150,Tryz.ntmps150
 go_wp2_with (first
  |(go_at_call 102;refine(ah _ _ _ _).mono ?_;rintro e' w' ⟨rfl,rfl⟩))
 go_ret
 exact⟨rfl,(aK)⟩
set_option maxHeartbeats 1000000 in
theorem aH(s t k z p l e:Int)(b:Bool)(v r:Int)(w:World):Calls Tryz.prog 80 #[.agg #[.int .i64 s,.int .i64 t,.int .i64 k,.int .i64 z,.int .i64 p,.int .i64 l,.int .i64 e,.bool b,.int .i64 v,.int .i64 r]] w fun e' w'=>e'= .returned (.bool (aD s t k z p l e v r))∧Below w.heap.size w w':=by
 cases c0:aO s 1 3
 ·have hq:Hid (aD s t k z p l e v r=false):=ab (by simp[aD,c0])
  go_enter Tryz.func80,Tryz.ntmps80
  go_wp2_with (first
   |(go_at_call 41;refine(ak _ _ _ _).mono ?_;rintro e' w' ⟨rfl,rfl⟩))
  go_ret
  exact⟨ae (aa hq).symm,(aK)⟩
 cases c1:aO t 1 2
 ·have hq:Hid (aD s t k z p l e v r=false):=ab (by simp[aD,c0,c1])
  go_enter Tryz.func80,Tryz.ntmps80
  go_wp2_with (first
   |(go_at_call 41;refine(ak _ _ _ _).mono ?_;rintro e' w' ⟨rfl,rfl⟩))
  go_ret
  exact⟨ae (aa hq).symm,(aK)⟩
 cases c2:aO k 1 3
 ·have hq:Hid (aD s t k z p l e v r=false):=ab (by simp[aD,c0,c1,c2])
  go_enter Tryz.func80,Tryz.ntmps80
  go_wp2_with (first
   |(go_at_call 41;refine(ak _ _ _ _).mono ?_;rintro e' w' ⟨rfl,rfl⟩))
  go_ret
  exact⟨ae (aa hq).symm,(aK)⟩
 cases c3:aO z 1 20
 ·have hq:Hid (aD s t k z p l e v r=false):=ab (by simp[aD,c0,c1,c2,c3])
  go_enter Tryz.func80,Tryz.ntmps80
  go_wp2_with (first
   |(go_at_call 41;refine(ak _ _ _ _).mono ?_;rintro e' w' ⟨rfl,rfl⟩))
  go_ret
  exact⟨ae (aa hq).symm,(aK)⟩
 have hz:=aX.1 c3
 by_cases h2:k=2
 ·subst h2
  have hs:=stepB_2 z p
  cases d0:aO p 1 z
  ·have hq:Hid (aD s t 2 z p l e v r=false):=ab (by simp[aD,hs,d0])
   clear hs
   go_enter Tryz.func80,Tryz.ntmps80
   go_wp2_with (first
    |(go_at_call 41;refine(ak _ _ _ _).mono ?_;rintro e' w' ⟨rfl,rfl⟩))
   go_ret
   exact⟨ae (aa hq).symm,(aK)⟩
  have hp:=aX.1 d0
  by_cases d1:z≤4*p
  ·have hs':gn 2 z p=true:=by rw[hs,d0];simp[d1]
   clear hs
   cases x0:aO l 0 20
   ·have hq:Hid (aD s t 2 z p l e v r=false):=ab (by simp[aD,c0,c1,c2,c3,hs',x0])
    clear hs'
    go_enter Tryz.func80,Tryz.ntmps80
    go_wp2_with (first
     |(go_at_call 41;refine(ak _ _ _ _).mono ?_;rintro e' w' ⟨rfl,rfl⟩))
    go_ret
    exact⟨ae (aa hq).symm,(aK)⟩
   cases x1:aO e 1 4
   ·have hq:Hid (aD s t 2 z p l e v r=false):=ab (by simp[aD,c0,c1,c2,c3,hs',x0,x1])
    clear hs'
    go_enter Tryz.func80,Tryz.ntmps80
    go_wp2_with (first
     |(go_at_call 41;refine(ak _ _ _ _).mono ?_;rintro e' w' ⟨rfl,rfl⟩))
    go_ret
    exact⟨ae (aa hq).symm,(aK)⟩
   cases x2:aO v (-9) 9
   ·have hq:Hid (aD s t 2 z p l e v r=false):=ab (by simp[aD,c0,c1,c2,c3,hs',x0,x1,x2])
    clear hs'
    go_enter Tryz.func80,Tryz.ntmps80
    go_wp2_with (first
     |(go_at_call 41;refine(ak _ _ _ _).mono ?_;rintro e' w' ⟨rfl,rfl⟩))
    go_ret
    exact⟨ae (aa hq).symm,(aK)⟩
   have hq:Hid (aD s t 2 z p l e v r=aO r 1 4):=ab (by simp[aD,c0,c1,c2,c3,hs',x0,x1,x2])
   clear hs'
   go_enter Tryz.func80,Tryz.ntmps80
   go_wp2_with (first
    |(go_at_call 41;refine(ak _ _ _ _).mono ?_;rintro e' w' ⟨rfl,rfl⟩))
   go_ret
   exact⟨ae (aa hq).symm,(aK)⟩
  ·have hs':gn 2 z p=false:=by rw[hs,d0];simp[d1]
   have hq:Hid (aD s t 2 z p l e v r=false):=ab (by simp[aD,hs'])
   clear hs hs'
   go_enter Tryz.func80,Tryz.ntmps80
   go_wp2_with (first
    |(go_at_call 41;refine(ak _ _ _ _).mono ?_;rintro e' w' ⟨rfl,rfl⟩))
   go_ret
   exact⟨ae (aa hq).symm,(aK)⟩
 have hs:=stepB_n h2 z p
 have g2:(k==2)=false:=by simpa using h2
 have g3:(k != 2)=true:=by simpa using h2
 clear h2
 cases d0:(p==0)
 ·have g4:(p != 0)=true:=by simpa using d0
  have hq:Hid (aD s t k z p l e v r=false):=ab (by simp[aD,hs,d0])
  clear hs
  go_enter Tryz.func80,Tryz.ntmps80
  go_wp2_with (first
   |(go_at_call 41;refine(ak _ _ _ _).mono ?_;rintro e' w' ⟨rfl,rfl⟩))
  go_ret
  exact⟨ae (aa hq).symm,(aK)⟩
 have g4:(p != 0)=false:=by simpa using d0
 cases x0:aO l 0 20
 ·have hq:Hid (aD s t k z p l e v r=false):=ab (by simp[aD,c0,c1,c2,c3,hs,d0,x0])
  clear hs
  go_enter Tryz.func80,Tryz.ntmps80
  go_wp2_with (first
   |(go_at_call 41;refine(ak _ _ _ _).mono ?_;rintro e' w' ⟨rfl,rfl⟩))
  go_ret
  exact⟨ae (aa hq).symm,(aK)⟩
 cases x1:aO e 1 4
 ·have hq:Hid (aD s t k z p l e v r=false):=ab (by simp[aD,c0,c1,c2,c3,hs,d0,x0,x1])
  clear hs
  go_enter Tryz.func80,Tryz.ntmps80
  go_wp2_with (first
   |(go_at_call 41;refine(ak _ _ _ _).mono ?_;rintro e' w' ⟨rfl,rfl⟩))
  go_ret
  exact⟨ae (aa hq).symm,(aK)⟩
 cases x2:aO v (-9) 9
 ·have hq:Hid (aD s t k z p l e v r=false):=ab (by simp[aD,c0,c1,c2,c3,hs,d0,x0,x1,x2])
  clear hs
  go_enter Tryz.func80,Tryz.ntmps80
  go_wp2_with (first
   |(go_at_call 41;refine(ak _ _ _ _).mono ?_;rintro e' w' ⟨rfl,rfl⟩))
  go_ret
  exact⟨ae (aa hq).symm,(aK)⟩
 have hq:Hid (aD s t k z p l e v r=aO r 1 4):=ab (by simp[aD,c0,c1,c2,c3,hs,d0,x0,x1,x2])
 clear hs
 go_enter Tryz.func80,Tryz.ntmps80
 go_wp2_with (first
  |(go_at_call 41;refine(ak _ _ _ _).mono ?_;rintro e' w' ⟨rfl,rfl⟩))
 go_ret
 exact⟨ae (aa hq).symm,(aK)⟩
set_option maxHeartbeats 1000000 in
theorem aW(s t k z p l e:Int)(b:Bool)(v r:Int)(w:World):Calls Tryz.prog 99 #[.agg #[.int .i64 s,.int .i64 t,.int .i64 k,.int .i64 z,.int .i64 p,.int .i64 l,.int .i64 e,.bool b,.int .i64 v,.int .i64 r]] w fun e' w'=>e'= .returned (.bool (aD s t k z p l e v r))∧Below w.heap.size w w':=by
 cases c0:aO s 1 3
 ·have hq:Hid (aD s t k z p l e v r=false):=ab (by simp[aD,c0])
  go_enter Tryz.func99,Tryz.ntmps99
  go_wp2_with (first
   |(go_at_call 102;refine(ah _ _ _ _).mono ?_;rintro e' w' ⟨rfl,rfl⟩)
   |(go_at_call 150;refine(bI _ _ _ _ _ _ _ _ _ _ (by omega) _).mono ?_;rintro e' w' ⟨rfl,hb⟩;obtain⟨hc,hf,hsz⟩:=ac hb;(try have hz0:=zA hb w.heap.size)))
  go_ret
  exact⟨ae (aa hq).symm,(aK)⟩
 cases c1:aO t 1 2
 ·have hq:Hid (aD s t k z p l e v r=false):=ab (by simp[aD,c0,c1])
  go_enter Tryz.func99,Tryz.ntmps99
  go_wp2_with (first
   |(go_at_call 102;refine(ah _ _ _ _).mono ?_;rintro e' w' ⟨rfl,rfl⟩)
   |(go_at_call 150;refine(bI _ _ _ _ _ _ _ _ _ _ (by omega) _).mono ?_;rintro e' w' ⟨rfl,hb⟩;obtain⟨hc,hf,hsz⟩:=ac hb;(try have hz0:=zA hb w.heap.size)))
  go_ret
  exact⟨ae (aa hq).symm,(aK)⟩
 cases c2:aO k 1 3
 ·have hq:Hid (aD s t k z p l e v r=false):=ab (by simp[aD,c0,c1,c2])
  go_enter Tryz.func99,Tryz.ntmps99
  go_wp2_with (first
   |(go_at_call 102;refine(ah _ _ _ _).mono ?_;rintro e' w' ⟨rfl,rfl⟩)
   |(go_at_call 150;refine(bI _ _ _ _ _ _ _ _ _ _ (by omega) _).mono ?_;rintro e' w' ⟨rfl,hb⟩;obtain⟨hc,hf,hsz⟩:=ac hb;(try have hz0:=zA hb w.heap.size)))
  go_ret
  exact⟨ae (aa hq).symm,(aK)⟩
 cases c3:aO z 1 20
 ·have hq:Hid (aD s t k z p l e v r=false):=ab (by simp[aD,c0,c1,c2,c3])
  go_enter Tryz.func99,Tryz.ntmps99
  go_wp2_with (first
   |(go_at_call 102;refine(ah _ _ _ _).mono ?_;rintro e' w' ⟨rfl,rfl⟩)
   |(go_at_call 150;refine(bI _ _ _ _ _ _ _ _ _ _ (by omega) _).mono ?_;rintro e' w' ⟨rfl,hb⟩;obtain⟨hc,hf,hsz⟩:=ac hb;(try have hz0:=zA hb w.heap.size)))
  go_ret
  exact⟨ae (aa hq).symm,(aK)⟩
 have hz:=aX.1 c3
 cases d0:gn k z p
 ·have hq:Hid (aD s t k z p l e v r=false):=ab (by simp[aD,c0,c1,c2,c3,d0])
  go_enter Tryz.func99,Tryz.ntmps99
  go_wp2_with (first
   |(go_at_call 102;refine(ah _ _ _ _).mono ?_;rintro e' w' ⟨rfl,rfl⟩)
   |(go_at_call 150;refine(bI _ _ _ _ _ _ _ _ _ _ (by omega) _).mono ?_;rintro e' w' ⟨rfl,hb⟩;obtain⟨hc,hf,hsz⟩:=ac hb;(try have hz0:=zA hb w.heap.size)))
  go_ret
  exact⟨ae (aa hq).symm,(aK)⟩
 cases d1:aO l 0 20
 ·have hq:Hid (aD s t k z p l e v r=false):=ab (by simp[aD,c0,c1,c2,c3,d0,d1])
  go_enter Tryz.func99,Tryz.ntmps99
  go_wp2_with (first
   |(go_at_call 102;refine(ah _ _ _ _).mono ?_;rintro e' w' ⟨rfl,rfl⟩)
   |(go_at_call 150;refine(bI _ _ _ _ _ _ _ _ _ _ (by omega) _).mono ?_;rintro e' w' ⟨rfl,hb⟩;obtain⟨hc,hf,hsz⟩:=ac hb;(try have hz0:=zA hb w.heap.size)))
  go_ret
  exact⟨ae (aa hq).symm,(aK)⟩
 cases d2:aO e 1 4
 ·have hq:Hid (aD s t k z p l e v r=false):=ab (by simp[aD,c0,c1,c2,c3,d0,d1,d2])
  go_enter Tryz.func99,Tryz.ntmps99
  go_wp2_with (first
   |(go_at_call 102;refine(ah _ _ _ _).mono ?_;rintro e' w' ⟨rfl,rfl⟩)
   |(go_at_call 150;refine(bI _ _ _ _ _ _ _ _ _ _ (by omega) _).mono ?_;rintro e' w' ⟨rfl,hb⟩;obtain⟨hc,hf,hsz⟩:=ac hb;(try have hz0:=zA hb w.heap.size)))
  go_ret
  exact⟨ae (aa hq).symm,(aK)⟩
 cases d3:aO v (-9) 9
 ·have hq:Hid (aD s t k z p l e v r=false):=ab (by simp[aD,c0,c1,c2,c3,d0,d1,d2,d3])
  go_enter Tryz.func99,Tryz.ntmps99
  go_wp2_with (first
   |(go_at_call 102;refine(ah _ _ _ _).mono ?_;rintro e' w' ⟨rfl,rfl⟩)
   |(go_at_call 150;refine(bI _ _ _ _ _ _ _ _ _ _ (by omega) _).mono ?_;rintro e' w' ⟨rfl,hb⟩;obtain⟨hc,hf,hsz⟩:=ac hb;(try have hz0:=zA hb w.heap.size)))
  go_ret
  exact⟨ae (aa hq).symm,(aK)⟩
 have hq:Hid (aD s t k z p l e v r=aO r 1 4):=ab (by simp[aD,c0,c1,c2,c3,d0,d1,d2,d3])
 go_enter Tryz.func99,Tryz.ntmps99
 go_wp2_with (first
  |(go_at_call 102;refine(ah _ _ _ _).mono ?_;rintro e' w' ⟨rfl,rfl⟩)
  |(go_at_call 150;refine(bI _ _ _ _ _ _ _ _ _ _ (by omega) _).mono ?_;rintro e' w' ⟨rfl,hb⟩;obtain⟨hc,hf,hsz⟩:=ac hb;(try have hz0:=zA hb w.heap.size)))
 go_ret
 exact⟨ae (aa hq).symm,(aK)⟩
end Go.Proofs.YtiilbnjjhgcjdaaGreat
