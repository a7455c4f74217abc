/- Laid together: what the claim needs of the texts that were built one by one. -/
import Derived.Test.YtiilbnjjhgcjdaaGreatV0
set_option linter.unusedVariables false
namespace Go.Proofs.YtiilbnjjhgcjdaaGreat
open Go.ChangeShapes Go.WideShapes Go.ChangeAt Go.RowKit
/-- When a job's step is ok; when a job is. -/
def fY(k z p:Int):Bool:=if k=2 then aM p 1 z&&decide (z≤4*p)else p==0
theorem stepB_2(z p:Int):fY 2 z p=(aM p 1 z&&decide (z≤4*p)):=rfl
theorem stepB_n{k:Int}(h:k≠2)(z p:Int):fY k z p=(p==0):=if_neg h
def aC(s t k z p l e v r:Int):Bool:=aM s 1 3&&aM t 1 2&&aM k 1 3&&aM z 1 20&&fY k z p&&aM l 0 20&&aM e 1 4&&aM v (-9) 9&&aM r 1 4
theorem toJob_any(s t k z p l e:Int)(b:Bool)(v r:Int)(w:World):Calls Tryz.prog 44 #[.agg #[.int .i64 s,.int .i64 t,.int .i64 k,.int .i64 z,.int .i64 p,.int .i64 l,.int .i64 e,.bool b,.int .i64 v,.int .i64 r]] w fun e' w'=>e'= .returned (.agg #[.int .i64 s,.int .i64 t,.int .i64 k,.int .i64 z,.int .i64 p,.int .i64 l,.int .i64 e,.bool b,.int .i64 v,.int .i64 r])∧Below w.heap.size w w':=by
 go_enter Tryz.func44,Tryz.ntmps44
 go_wp2
 refine bodyPost_ret (v:= .agg #[.int .i64 s,.int .i64 t,.int .i64 k,.int .i64 z,.int .i64 p,.int .i64 l,.int .i64 e,.bool b,.int .i64 v,.int .i64 r]) (by simp[results,Tryz.results44,go_sem]) rfl ⟨rfl,?_⟩
 exact(aJ)
theorem bx(s t k z p l e:Int)(b:Bool)(v r:Int)(hz:1≤z∧z≤20)(w:World):Calls Tryz.prog 150 #[.agg #[.int .i64 s,.int .i64 t,.int .i64 k,.int .i64 z,.int .i64 p,.int .i64 l,.int .i64 e,.bool b,.int .i64 v,.int .i64 r]] w fun e' w'=>e'= .returned (.bool (fY k z p))∧Below w.heap.size w w':=by
 by_cases h2:k=2
 ·subst h2
  rw[stepB_2]
  cases d0:aM p 1 z
  ·have hq:Hid ((false&&decide (z≤4*p))=false):=ab (by simp)
   go_enter Tryz.func150,Tryz.ntmps150
   go_wp2_with (first
    |(go_at_call 102;refine(ag _ _ _ _).mono ?_;rintro e' w' ⟨rfl,rfl⟩))
   go_ret
   exact⟨ad (aa hq).symm,(aJ)⟩
  have hp:=aW.1 d0
  have hq:Hid ((true&&decide (z≤4*p))=decide (z≤4*p)):=ab (by simp)
  go_enter Tryz.func150,Tryz.ntmps150
  go_wp2_with (first
   |(go_at_call 102;refine(ag _ _ _ _).mono ?_;rintro e' w' ⟨rfl,rfl⟩))
  go_ret
  exact⟨ad (aa hq).symm,(aJ)⟩
 rw[stepB_n h2]
 have g2:(k==2)=false:=by simpa using h2
 clear h2
 go_enter Tryz.func150,Tryz.ntmps150
 go_wp2_with (first
  |(go_at_call 102;refine(ag _ _ _ _).mono ?_;rintro e' w' ⟨rfl,rfl⟩))
 go_ret
 exact⟨rfl,(aJ)⟩
set_option maxHeartbeats 1000000 in
theorem aG(s t k z p l e:Int)(b:Bool)(v r:Int)(w:World):Calls Tryz.prog 80 #[.agg #[.int .i64 s,.int .i64 t,.int .i64 k,.int .i64 z,.int .i64 p,.int .i64 l,.int .i64 e,.bool b,.int .i64 v,.int .i64 r]] w fun e' w'=>e'= .returned (.bool (aC s t k z p l e v r))∧Below w.heap.size w w':=by
 cases c0:aM s 1 3
 ·have hq:Hid (aC s t k z p l e v r=false):=ab (by simp[aC,c0])
  go_enter Tryz.func80,Tryz.ntmps80
  go_wp2_with (first
   |(go_at_call 41;refine(ak _ _ _ _).mono ?_;rintro e' w' ⟨rfl,rfl⟩))
  go_ret
  exact⟨ad (aa hq).symm,(aJ)⟩
 cases c1:aM t 1 2
 ·have hq:Hid (aC s t k z p l e v r=false):=ab (by simp[aC,c0,c1])
  go_enter Tryz.func80,Tryz.ntmps80
  go_wp2_with (first
   |(go_at_call 41;refine(ak _ _ _ _).mono ?_;rintro e' w' ⟨rfl,rfl⟩))
  go_ret
  exact⟨ad (aa hq).symm,(aJ)⟩
 cases c2:aM k 1 3
 ·have hq:Hid (aC s t k z p l e v r=false):=ab (by simp[aC,c0,c1,c2])
  go_enter Tryz.func80,Tryz.ntmps80
  go_wp2_with (first
   |(go_at_call 41;refine(ak _ _ _ _).mono ?_;rintro e' w' ⟨rfl,rfl⟩))
  go_ret
  exact⟨ad (aa hq).symm,(aJ)⟩
 cases c3:aM z 1 20
 ·have hq:Hid (aC s t k z p l e v r=false):=ab (by simp[aC,c0,c1,c2,c3])
  go_enter Tryz.func80,Tryz.ntmps80
  go_wp2_with (first
   |(go_at_call 41;refine(ak _ _ _ _).mono ?_;rintro e' w' ⟨rfl,rfl⟩))
  go_ret
  exact⟨ad (aa hq).symm,(aJ)⟩
 have hz:=aW.1 c3
 by_cases h2:k=2
 ·subst h2
  have hs:=stepB_2 z p
  cases d0:aM p 1 z
  ·have hq:Hid (aC s t 2 z p l e v r=false):=ab (by simp[aC,hs,d0])
   clear hs
   go_enter Tryz.func80,Tryz.ntmps80
   go_wp2_with (first
    |(go_at_call 41;refine(ak _ _ _ _).mono ?_;rintro e' w' ⟨rfl,rfl⟩))
   go_ret
   exact⟨ad (aa hq).symm,(aJ)⟩
  have hp:=aW.1 d0
  by_cases d1:z≤4*p
  ·have hs':fY 2 z p=true:=by rw[hs,d0];simp[d1]
   clear hs
   cases x0:aM l 0 20
   ·have hq:Hid (aC s t 2 z p l e v r=false):=ab (by simp[aC,c0,c1,c2,c3,hs',x0])
    clear hs'
    go_enter Tryz.func80,Tryz.ntmps80
    go_wp2_with (first
     |(go_at_call 41;refine(ak _ _ _ _).mono ?_;rintro e' w' ⟨rfl,rfl⟩))
    go_ret
    exact⟨ad (aa hq).symm,(aJ)⟩
   cases x1:aM e 1 4
   ·have hq:Hid (aC s t 2 z p l e v r=false):=ab (by simp[aC,c0,c1,c2,c3,hs',x0,x1])
    clear hs'
    go_enter Tryz.func80,Tryz.ntmps80
    go_wp2_with (first
     |(go_at_call 41;refine(ak _ _ _ _).mono ?_;rintro e' w' ⟨rfl,rfl⟩))
    go_ret
    exact⟨ad (aa hq).symm,(aJ)⟩
   cases x2:aM v (-9) 9
   ·have hq:Hid (aC s t 2 z p l e v r=false):=ab (by simp[aC,c0,c1,c2,c3,hs',x0,x1,x2])
    clear hs'
    go_enter Tryz.func80,Tryz.ntmps80
    go_wp2_with (first
     |(go_at_call 41;refine(ak _ _ _ _).mono ?_;rintro e' w' ⟨rfl,rfl⟩))
    go_ret
    exact⟨ad (aa hq).symm,(aJ)⟩
   have hq:Hid (aC s t 2 z p l e v r=aM r 1 4):=ab (by simp[aC,c0,c1,c2,c3,hs',x0,x1,x2])
   clear hs'
   go_enter Tryz.func80,Tryz.ntmps80
   go_wp2_with (first
    |(go_at_call 41;refine(ak _ _ _ _).mono ?_;rintro e' w' ⟨rfl,rfl⟩))
   go_ret
   exact⟨ad (aa hq).symm,(aJ)⟩
  ·have hs':fY 2 z p=false:=by rw[hs,d0];simp[d1]
   have hq:Hid (aC s t 2 z p l e v r=false):=ab (by simp[aC,hs'])
   clear hs hs'
   go_enter Tryz.func80,Tryz.ntmps80
   go_wp2_with (first
    |(go_at_call 41;refine(ak _ _ _ _).mono ?_;rintro e' w' ⟨rfl,rfl⟩))
   go_ret
   exact⟨ad (aa hq).symm,(aJ)⟩
 have hs:=stepB_n h2 z p
 have g2:(k==2)=false:=by simpa using h2
 have g3:(k != 2)=true:=by simpa using h2
 clear h2
 cases d0:(p==0)
 ·have g4:(p != 0)=true:=by simpa using d0
  have hq:Hid (aC s t k z p l e v r=false):=ab (by simp[aC,hs,d0])
  clear hs
  go_enter Tryz.func80,Tryz.ntmps80
  go_wp2_with (first
   |(go_at_call 41;refine(ak _ _ _ _).mono ?_;rintro e' w' ⟨rfl,rfl⟩))
  go_ret
  exact⟨ad (aa hq).symm,(aJ)⟩
 have g4:(p != 0)=false:=by simpa using d0
 cases x0:aM l 0 20
 ·have hq:Hid (aC s t k z p l e v r=false):=ab (by simp[aC,c0,c1,c2,c3,hs,d0,x0])
  clear hs
  go_enter Tryz.func80,Tryz.ntmps80
  go_wp2_with (first
   |(go_at_call 41;refine(ak _ _ _ _).mono ?_;rintro e' w' ⟨rfl,rfl⟩))
  go_ret
  exact⟨ad (aa hq).symm,(aJ)⟩
 cases x1:aM e 1 4
 ·have hq:Hid (aC s t k z p l e v r=false):=ab (by simp[aC,c0,c1,c2,c3,hs,d0,x0,x1])
  clear hs
  go_enter Tryz.func80,Tryz.ntmps80
  go_wp2_with (first
   |(go_at_call 41;refine(ak _ _ _ _).mono ?_;rintro e' w' ⟨rfl,rfl⟩))
  go_ret
  exact⟨ad (aa hq).symm,(aJ)⟩
 cases x2:aM v (-9) 9
 ·have hq:Hid (aC s t k z p l e v r=false):=ab (by simp[aC,c0,c1,c2,c3,hs,d0,x0,x1,x2])
  clear hs
  go_enter Tryz.func80,Tryz.ntmps80
  go_wp2_with (first
   |(go_at_call 41;refine(ak _ _ _ _).mono ?_;rintro e' w' ⟨rfl,rfl⟩))
  go_ret
  exact⟨ad (aa hq).symm,(aJ)⟩
 have hq:Hid (aC s t k z p l e v r=aM r 1 4):=ab (by simp[aC,c0,c1,c2,c3,hs,d0,x0,x1,x2])
 clear hs
 go_enter Tryz.func80,Tryz.ntmps80
 go_wp2_with (first
  |(go_at_call 41;refine(ak _ _ _ _).mono ?_;rintro e' w' ⟨rfl,rfl⟩))
 go_ret
 exact⟨ad (aa hq).symm,(aJ)⟩
set_option maxHeartbeats 1000000 in
theorem aU(s t k z p l e:Int)(b:Bool)(v r:Int)(w:World):Calls Tryz.prog 99 #[.agg #[.int .i64 s,.int .i64 t,.int .i64 k,.int .i64 z,.int .i64 p,.int .i64 l,.int .i64 e,.bool b,.int .i64 v,.int .i64 r]] w fun e' w'=>e'= .returned (.bool (aC s t k z p l e v r))∧Below w.heap.size w w':=by
 cases c0:aM s 1 3
 ·have hq:Hid (aC s t k z p l e v r=false):=ab (by simp[aC,c0])
  go_enter Tryz.func99,Tryz.ntmps99
  go_wp2_with (first
   |(go_at_call 102;refine(ag _ _ _ _).mono ?_;rintro e' w' ⟨rfl,rfl⟩)
   |(go_at_call 150;refine(bx _ _ _ _ _ _ _ _ _ _ (by omega) _).mono ?_;rintro e' w' ⟨rfl,hb⟩;obtain⟨hc,hf,hsz⟩:=ac hb;(try have hz0:=zA hb w.heap.size)))
  go_ret
  exact⟨ad (aa hq).symm,(aJ)⟩
 cases c1:aM t 1 2
 ·have hq:Hid (aC s t k z p l e v r=false):=ab (by simp[aC,c0,c1])
  go_enter Tryz.func99,Tryz.ntmps99
  go_wp2_with (first
   |(go_at_call 102;refine(ag _ _ _ _).mono ?_;rintro e' w' ⟨rfl,rfl⟩)
   |(go_at_call 150;refine(bx _ _ _ _ _ _ _ _ _ _ (by omega) _).mono ?_;rintro e' w' ⟨rfl,hb⟩;obtain⟨hc,hf,hsz⟩:=ac hb;(try have hz0:=zA hb w.heap.size)))
  go_ret
  exact⟨ad (aa hq).symm,(aJ)⟩
 cases c2:aM k 1 3
 ·have hq:Hid (aC s t k z p l e v r=false):=ab (by simp[aC,c0,c1,c2])
  go_enter Tryz.func99,Tryz.ntmps99
  go_wp2_with (first
   |(go_at_call 102;refine(ag _ _ _ _).mono ?_;rintro e' w' ⟨rfl,rfl⟩)
   |(go_at_call 150;refine(bx _ _ _ _ _ _ _ _ _ _ (by omega) _).mono ?_;rintro e' w' ⟨rfl,hb⟩;obtain⟨hc,hf,hsz⟩:=ac hb;(try have hz0:=zA hb w.heap.size)))
  go_ret
  exact⟨ad (aa hq).symm,(aJ)⟩
 cases c3:aM z 1 20
 ·have hq:Hid (aC s t k z p l e v r=false):=ab (by simp[aC,c0,c1,c2,c3])
  go_enter Tryz.func99,Tryz.ntmps99
  go_wp2_with (first
   |(go_at_call 102;refine(ag _ _ _ _).mono ?_;rintro e' w' ⟨rfl,rfl⟩)
   |(go_at_call 150;refine(bx _ _ _ _ _ _ _ _ _ _ (by omega) _).mono ?_;rintro e' w' ⟨rfl,hb⟩;obtain⟨hc,hf,hsz⟩:=ac hb;(try have hz0:=zA hb w.heap.size)))
  go_ret
  exact⟨ad (aa hq).symm,(aJ)⟩
 have hz:=aW.1 c3
 cases d0:fY k z p
 ·have hq:Hid (aC s t k z p l e v r=false):=ab (by simp[aC,c0,c1,c2,c3,d0])
  go_enter Tryz.func99,Tryz.ntmps99
  go_wp2_with (first
   |(go_at_call 102;refine(ag _ _ _ _).mono ?_;rintro e' w' ⟨rfl,rfl⟩)
   |(go_at_call 150;refine(bx _ _ _ _ _ _ _ _ _ _ (by omega) _).mono ?_;rintro e' w' ⟨rfl,hb⟩;obtain⟨hc,hf,hsz⟩:=ac hb;(try have hz0:=zA hb w.heap.size)))
  go_ret
  exact⟨ad (aa hq).symm,(aJ)⟩
 cases d1:aM l 0 20
 ·have hq:Hid (aC s t k z p l e v r=false):=ab (by simp[aC,c0,c1,c2,c3,d0,d1])
  go_enter Tryz.func99,Tryz.ntmps99
  go_wp2_with (first
   |(go_at_call 102;refine(ag _ _ _ _).mono ?_;rintro e' w' ⟨rfl,rfl⟩)
   |(go_at_call 150;refine(bx _ _ _ _ _ _ _ _ _ _ (by omega) _).mono ?_;rintro e' w' ⟨rfl,hb⟩;obtain⟨hc,hf,hsz⟩:=ac hb;(try have hz0:=zA hb w.heap.size)))
  go_ret
  exact⟨ad (aa hq).symm,(aJ)⟩
 cases d2:aM e 1 4
 ·have hq:Hid (aC s t k z p l e v r=false):=ab (by simp[aC,c0,c1,c2,c3,d0,d1,d2])
  go_enter Tryz.func99,Tryz.ntmps99
  go_wp2_with (first
   |(go_at_call 102;refine(ag _ _ _ _).mono ?_;rintro e' w' ⟨rfl,rfl⟩)
   |(go_at_call 150;refine(bx _ _ _ _ _ _ _ _ _ _ (by omega) _).mono ?_;rintro e' w' ⟨rfl,hb⟩;obtain⟨hc,hf,hsz⟩:=ac hb;(try have hz0:=zA hb w.heap.size)))
  go_ret
  exact⟨ad (aa hq).symm,(aJ)⟩
 cases d3:aM v (-9) 9
 ·have hq:Hid (aC s t k z p l e v r=false):=ab (by simp[aC,c0,c1,c2,c3,d0,d1,d2,d3])
  go_enter Tryz.func99,Tryz.ntmps99
  go_wp2_with (first
   |(go_at_call 102;refine(ag _ _ _ _).mono ?_;rintro e' w' ⟨rfl,rfl⟩)
   |(go_at_call 150;refine(bx _ _ _ _ _ _ _ _ _ _ (by omega) _).mono ?_;rintro e' w' ⟨rfl,hb⟩;obtain⟨hc,hf,hsz⟩:=ac hb;(try have hz0:=zA hb w.heap.size)))
  go_ret
  exact⟨ad (aa hq).symm,(aJ)⟩
 have hq:Hid (aC s t k z p l e v r=aM r 1 4):=ab (by simp[aC,c0,c1,c2,c3,d0,d1,d2,d3])
 go_enter Tryz.func99,Tryz.ntmps99
 go_wp2_with (first
  |(go_at_call 102;refine(ag _ _ _ _).mono ?_;rintro e' w' ⟨rfl,rfl⟩)
  |(go_at_call 150;refine(bx _ _ _ _ _ _ _ _ _ _ (by omega) _).mono ?_;rintro e' w' ⟨rfl,hb⟩;obtain⟨hc,hf,hsz⟩:=ac hb;(try have hz0:=zA hb w.heap.size)))
 go_ret
 exact⟨ad (aa hq).symm,(aJ)⟩
end Go.Proofs.YtiilbnjjhgcjdaaGreat
