/- Laid together: what the claim needs of the texts that were built one by one. -/
import Derived.Test.YtiilbnjjhgcjdaaGreatX1
import Derived.Test.YtiilbnjjhgcjdaaGreatX0
import Derived.Deep.Slices
import Derived.Lib.SmallJoins
import Derived.WalkSpells
import Derived.Deep.RegionHeld3
import Derived.Test.YtiilbnjjhgcjdaaGreatX2
import Derived.Test.YtiilbnjjhgcjdaaGreatX9
import Derived.Test.YtiilbnjjhgcjdaaGreatX8
set_option linter.unusedVariables false
namespace Go.Proofs.YtiilbnjjhgcjdaaGreat
open Go.ChangeShapes Go.WideShapes Go.ChangeAt Go.RowKit
/-- When a record, a mark, a wall, an item is ok. -/
def bG(t k v n:Int):Bool:=aO t 0 60&&aO k 0 3&&aO v (-9) 9&&(n==0)
def aR(t k v n:Int):Bool:=(aO t 1 60||t==1000)&&(k==0)&&(v==0)&&(n==0)
def cL(t k v n:Int):Bool:=aO n 1 900&&(t==0)&&(k==0)&&(v==0)
def cR(t k v n:Int):Bool:=(t==0)&&(k==0)&&(v==0)&&aO n 1 900
def cC(q t k v n:Int):Bool:=if q=1 then bG t k v n else if q=2 then aR t k v n else if q=3 then cL t k v n else false
theorem okWall_eq(t k v n:Int):cR t k v n=cL t k v n:=by
 unfold cR cL
 cases aO n 1 900<;>cases (t==0)<;>cases (k==0)<;>cases (v==0)<;>rfl
theorem iz(t k v n:Int):cC 1 t k v n=bG t k v n:=rfl
theorem iA(t k v n:Int):cC 2 t k v n=aR t k v n:=rfl
theorem okItm_3(t k v n:Int):cC 3 t k v n=cL t k v n:=rfl
theorem iB{q:Int}(h1:q≠1)(h2:q≠2)(h3:q≠3)(t k v n:Int):cC q t k v n=false:=by unfold cC;rw[if_neg h1,if_neg h2,if_neg h3]
theorem gV(q t k v n:Int)(w:World):Calls Tryz.prog 192 #[.agg #[.int .i64 q,.int .i64 t,.int .i64 k,.int .i64 v,.int .i64 n]] w fun e w'=>e= .returned (.bool (bG t k v n))∧Below w.heap.size w w':=by
 cases c0:aO t 0 60
 ·have hq:Hid (bG t k v n=false):=ab (by simp[bG,c0])
  go_enter Tryz.func192,Tryz.ntmps192
  go_wp2_with (go_at_call 102;refine(ah _ _ _ _).mono ?_;rintro e w' ⟨rfl,rfl⟩)
  go_ret
  exact⟨ae (aa hq).symm,(aK)⟩
 ·cases c1:aO k 0 3
  ·have hq:Hid (bG t k v n=false):=ab (by simp[bG,c0,c1])
   go_enter Tryz.func192,Tryz.ntmps192
   go_wp2_with (go_at_call 102;refine(ah _ _ _ _).mono ?_;rintro e w' ⟨rfl,rfl⟩)
   go_ret
   exact⟨ae (aa hq).symm,(aK)⟩
  ·cases c2:aO v (-9) 9
   ·have hq:Hid (bG t k v n=false):=ab (by simp[bG,c0,c1,c2])
    go_enter Tryz.func192,Tryz.ntmps192
    go_wp2_with (go_at_call 102;refine(ah _ _ _ _).mono ?_;rintro e w' ⟨rfl,rfl⟩)
    go_ret
    exact⟨ae (aa hq).symm,(aK)⟩
   ·have hq:Hid (bG t k v n=(n==0)):=ab (by simp[bG,c0,c1,c2])
    go_enter Tryz.func192,Tryz.ntmps192
    go_wp2_with (go_at_call 102;refine(ah _ _ _ _).mono ?_;rintro e w' ⟨rfl,rfl⟩)
    go_ret
    exact⟨ae (aa hq).symm,(aK)⟩
theorem fj(q t k v n:Int)(w:World):Calls Tryz.prog 193 #[.agg #[.int .i64 q,.int .i64 t,.int .i64 k,.int .i64 v,.int .i64 n]] w fun e w'=>e= .returned (.bool (aR t k v n))∧Below w.heap.size w w':=by
 cases m0:aO t 1 60
 ·cases m1:(t==1000)
  ·have hq:Hid (aR t k v n=false):=ab (by simp[aR,m0,m1])
   go_enter Tryz.func193,Tryz.ntmps193
   go_wp2_with (go_at_call 102;refine(ah _ _ _ _).mono ?_;rintro e w' ⟨rfl,rfl⟩)
   go_ret
   exact⟨ae (aa hq).symm,(aK)⟩
  ·cases c0:(k==0)
   ·have hq:Hid (aR t k v n=false):=ab (by simp[aR,m0,m1,c0])
    go_enter Tryz.func193,Tryz.ntmps193
    go_wp2_with (go_at_call 102;refine(ah _ _ _ _).mono ?_;rintro e w' ⟨rfl,rfl⟩)
    go_ret
    exact⟨ae (aa hq).symm,(aK)⟩
   ·cases c1:(v==0)
    ·have hq:Hid (aR t k v n=false):=ab (by simp[aR,m0,m1,c0,c1])
     go_enter Tryz.func193,Tryz.ntmps193
     go_wp2_with (go_at_call 102;refine(ah _ _ _ _).mono ?_;rintro e w' ⟨rfl,rfl⟩)
     go_ret
     exact⟨ae (aa hq).symm,(aK)⟩
    ·have hq:Hid (aR t k v n=(n==0)):=ab (by simp[aR,m0,m1,c0,c1])
     go_enter Tryz.func193,Tryz.ntmps193
     go_wp2_with (go_at_call 102;refine(ah _ _ _ _).mono ?_;rintro e w' ⟨rfl,rfl⟩)
     go_ret
     exact⟨ae (aa hq).symm,(aK)⟩
 ·cases c0:(k==0)
  ·have hq:Hid (aR t k v n=false):=ab (by simp[aR,m0,c0])
   go_enter Tryz.func193,Tryz.ntmps193
   go_wp2_with (go_at_call 102;refine(ah _ _ _ _).mono ?_;rintro e w' ⟨rfl,rfl⟩)
   go_ret
   exact⟨ae (aa hq).symm,(aK)⟩
  ·cases c1:(v==0)
   ·have hq:Hid (aR t k v n=false):=ab (by simp[aR,m0,c0,c1])
    go_enter Tryz.func193,Tryz.ntmps193
    go_wp2_with (go_at_call 102;refine(ah _ _ _ _).mono ?_;rintro e w' ⟨rfl,rfl⟩)
    go_ret
    exact⟨ae (aa hq).symm,(aK)⟩
   ·have hq:Hid (aR t k v n=(n==0)):=ab (by simp[aR,m0,c0,c1])
    go_enter Tryz.func193,Tryz.ntmps193
    go_wp2_with (go_at_call 102;refine(ah _ _ _ _).mono ?_;rintro e w' ⟨rfl,rfl⟩)
    go_ret
    exact⟨ae (aa hq).symm,(aK)⟩
theorem wallok_any(q t k v n:Int)(w:World):Calls Tryz.prog 239 #[.agg #[.int .i64 q,.int .i64 t,.int .i64 k,.int .i64 v,.int .i64 n]] w fun e w'=>e= .returned (.bool (cL t k v n))∧Below w.heap.size w w':=by
 cases c0:aO n 1 900
 ·have hq:Hid (cL t k v n=false):=ab (by simp[cL,c0])
  go_enter Tryz.func239,Tryz.ntmps239
  go_wp2_with (go_at_call 102;refine(ah _ _ _ _).mono ?_;rintro e w' ⟨rfl,rfl⟩)
  go_ret
  exact⟨ae (aa hq).symm,(aK)⟩
 ·cases c1:(t==0)
  ·have hq:Hid (cL t k v n=false):=ab (by simp[cL,c0,c1])
   go_enter Tryz.func239,Tryz.ntmps239
   go_wp2_with (go_at_call 102;refine(ah _ _ _ _).mono ?_;rintro e w' ⟨rfl,rfl⟩)
   go_ret
   exact⟨ae (aa hq).symm,(aK)⟩
  ·cases c2:(k==0)
   ·have hq:Hid (cL t k v n=false):=ab (by simp[cL,c0,c1,c2])
    go_enter Tryz.func239,Tryz.ntmps239
    go_wp2_with (go_at_call 102;refine(ah _ _ _ _).mono ?_;rintro e w' ⟨rfl,rfl⟩)
    go_ret
    exact⟨ae (aa hq).symm,(aK)⟩
   ·have hq:Hid (cL t k v n=(v==0)):=ab (by simp[cL,c0,c1,c2])
    go_enter Tryz.func239,Tryz.ntmps239
    go_wp2_with (go_at_call 102;refine(ah _ _ _ _).mono ?_;rintro e w' ⟨rfl,rfl⟩)
    go_ret
    exact⟨ae (aa hq).symm,(aK)⟩
theorem noneok_any(q t k v n:Int)(w:World):Calls Tryz.prog 241 #[.agg #[.int .i64 q,.int .i64 t,.int .i64 k,.int .i64 v,.int .i64 n]] w fun e w'=>e= .returned (.bool false)∧Below w.heap.size w w':=by
 go_enter Tryz.func241,Tryz.ntmps241
 go_wp2
 go_ret
 exact⟨rfl,(aK)⟩
set_option maxHeartbeats 1000000 in
theorem bd(q t k v n:Int)(w:World):Calls Tryz.prog 83 #[.agg #[.int .i64 q,.int .i64 t,.int .i64 k,.int .i64 v,.int .i64 n]] w fun e w'=>e= .returned (.bool (cC q t k v n))∧Below w.heap.size w w':=by
 by_cases h1:q=1
 ·subst h1
  rw[iz]
  cases c0:aO t 0 60
  ·have hq:Hid (bG t k v n=false):=ab (by simp[bG,c0])
   go_enter Tryz.func83,Tryz.ntmps83
   go_wp2_with (go_at_call 41;refine(ak _ _ _ _).mono ?_;rintro e w' ⟨rfl,rfl⟩)
   go_ret
   exact⟨ae (aa hq).symm,(aK)⟩
  ·cases c1:aO k 0 3
   ·have hq:Hid (bG t k v n=false):=ab (by simp[bG,c0,c1])
    go_enter Tryz.func83,Tryz.ntmps83
    go_wp2_with (go_at_call 41;refine(ak _ _ _ _).mono ?_;rintro e w' ⟨rfl,rfl⟩)
    go_ret
    exact⟨ae (aa hq).symm,(aK)⟩
   ·cases c2:aO v (-9) 9
    ·have hq:Hid (bG t k v n=false):=ab (by simp[bG,c0,c1,c2])
     go_enter Tryz.func83,Tryz.ntmps83
     go_wp2_with (go_at_call 41;refine(ak _ _ _ _).mono ?_;rintro e w' ⟨rfl,rfl⟩)
     go_ret
     exact⟨ae (aa hq).symm,(aK)⟩
    ·have hq:Hid (bG t k v n=(n==0)):=ab (by simp[bG,c0,c1,c2])
     go_enter Tryz.func83,Tryz.ntmps83
     go_wp2_with (go_at_call 41;refine(ak _ _ _ _).mono ?_;rintro e w' ⟨rfl,rfl⟩)
     go_ret
     exact⟨ae (aa hq).symm,(aK)⟩
 by_cases h2:q=2
 ·subst h2
  rw[iA]
  cases m0:aO t 1 60
  ·cases m1:(t==1000)
   ·have hq:Hid (aR t k v n=false):=ab (by simp[aR,m0,m1])
    go_enter Tryz.func83,Tryz.ntmps83
    go_wp2_with (go_at_call 41;refine(ak _ _ _ _).mono ?_;rintro e w' ⟨rfl,rfl⟩)
    go_ret
    exact⟨ae (aa hq).symm,(aK)⟩
   ·cases c0:(k==0)
    ·have hq:Hid (aR t k v n=false):=ab (by simp[aR,m0,m1,c0])
     go_enter Tryz.func83,Tryz.ntmps83
     go_wp2_with (go_at_call 41;refine(ak _ _ _ _).mono ?_;rintro e w' ⟨rfl,rfl⟩)
     go_ret
     exact⟨ae (aa hq).symm,(aK)⟩
    ·cases c1:(v==0)
     ·have hq:Hid (aR t k v n=false):=ab (by simp[aR,m0,m1,c0,c1])
      go_enter Tryz.func83,Tryz.ntmps83
      go_wp2_with (go_at_call 41;refine(ak _ _ _ _).mono ?_;rintro e w' ⟨rfl,rfl⟩)
      go_ret
      exact⟨ae (aa hq).symm,(aK)⟩
     ·have hq:Hid (aR t k v n=(n==0)):=ab (by simp[aR,m0,m1,c0,c1])
      go_enter Tryz.func83,Tryz.ntmps83
      go_wp2_with (go_at_call 41;refine(ak _ _ _ _).mono ?_;rintro e w' ⟨rfl,rfl⟩)
      go_ret
      exact⟨ae (aa hq).symm,(aK)⟩
  ·cases c0:(k==0)
   ·have hq:Hid (aR t k v n=false):=ab (by simp[aR,m0,c0])
    go_enter Tryz.func83,Tryz.ntmps83
    go_wp2_with (go_at_call 41;refine(ak _ _ _ _).mono ?_;rintro e w' ⟨rfl,rfl⟩)
    go_ret
    exact⟨ae (aa hq).symm,(aK)⟩
   ·cases c1:(v==0)
    ·have hq:Hid (aR t k v n=false):=ab (by simp[aR,m0,c0,c1])
     go_enter Tryz.func83,Tryz.ntmps83
     go_wp2_with (go_at_call 41;refine(ak _ _ _ _).mono ?_;rintro e w' ⟨rfl,rfl⟩)
     go_ret
     exact⟨ae (aa hq).symm,(aK)⟩
    ·have hq:Hid (aR t k v n=(n==0)):=ab (by simp[aR,m0,c0,c1])
     go_enter Tryz.func83,Tryz.ntmps83
     go_wp2_with (go_at_call 41;refine(ak _ _ _ _).mono ?_;rintro e w' ⟨rfl,rfl⟩)
     go_ret
     exact⟨ae (aa hq).symm,(aK)⟩
 have g1:(q==1)=false:=by simpa using h1
 have g2:(q==2)=false:=by simpa using h2
 by_cases h3:q=3
 ·subst h3
  rw[okItm_3,←okWall_eq]
  clear g1 g2
  cases c0:(t==0)
  ·have hq:Hid (cR t k v n=false):=ab (by simp[cR,c0])
   go_enter Tryz.func83,Tryz.ntmps83
   go_wp2_with (go_at_call 41;refine(ak _ _ _ _).mono ?_;rintro e w' ⟨rfl,rfl⟩)
   go_ret
   exact⟨ae (aa hq).symm,(aK)⟩
  ·cases c1:(k==0)
   ·have hq:Hid (cR t k v n=false):=ab (by simp[cR,c0,c1])
    go_enter Tryz.func83,Tryz.ntmps83
    go_wp2_with (go_at_call 41;refine(ak _ _ _ _).mono ?_;rintro e w' ⟨rfl,rfl⟩)
    go_ret
    exact⟨ae (aa hq).symm,(aK)⟩
   ·cases c2:(v==0)
    ·have hq:Hid (cR t k v n=false):=ab (by simp[cR,c0,c1,c2])
     go_enter Tryz.func83,Tryz.ntmps83
     go_wp2_with (go_at_call 41;refine(ak _ _ _ _).mono ?_;rintro e w' ⟨rfl,rfl⟩)
     go_ret
     exact⟨ae (aa hq).symm,(aK)⟩
    ·have hq:Hid (cR t k v n=aO n 1 900):=ab (by simp[cR,c0,c1,c2])
     go_enter Tryz.func83,Tryz.ntmps83
     go_wp2_with (go_at_call 41;refine(ak _ _ _ _).mono ?_;rintro e w' ⟨rfl,rfl⟩)
     go_ret
     exact⟨ae (aa hq).symm,(aK)⟩
 have g3:(q==3)=false:=by simpa using h3
 have hq:Hid (cC q t k v n=false):=ab (iB h1 h2 h3 t k v n)
 clear h1 h2 h3
 go_enter Tryz.func83,Tryz.ntmps83
 go_wp2_with (go_at_call 41;refine(ak _ _ _ _).mono ?_;rintro e w' ⟨rfl,rfl⟩)
 go_ret
 exact⟨ae (aa hq).symm,(aK)⟩
/-- The interface value that an item is, by its kind. -/
def ct(q t k v n:Int):Value:= .iface (if q=1 then 236 else if q=2 then 252 else if q=3 then 261 else 262) (.agg #[.int .i64 q,.int .i64 t,.int .i64 k,.int .i64 v,.int .i64 n])
theorem cx(q t k v n:Int)(w:World):Calls Tryz.prog 180 #[.agg #[.int .i64 q,.int .i64 t,.int .i64 k,.int .i64 v,.int .i64 n]] w fun e w'=>e= .returned (ct q t k v n)∧Below w.heap.size w w':=by
 by_cases h1:q=1
 ·subst h1
  go_enter Tryz.func180,Tryz.ntmps180
  go_wp2
  go_ret
  exact⟨rfl,(aK)⟩
 by_cases h2:q=2
 ·subst h2
  go_enter Tryz.func180,Tryz.ntmps180
  go_wp2
  go_ret
  exact⟨rfl,(aK)⟩
 by_cases h3:q=3
 ·subst h3
  go_enter Tryz.func180,Tryz.ntmps180
  go_wp2
  go_ret
  exact⟨rfl,(aK)⟩
 have hq:Hid (ct q t k v n= .iface 262 (.agg #[.int .i64 q,.int .i64 t,.int .i64 k,.int .i64 v,.int .i64 n])):=ab (by unfold ct;rw[if_neg h1,if_neg h2,if_neg h3])
 have g1:(q==1)=false:=by simpa using h1
 have g2:(q==2)=false:=by simpa using h2
 have g3:(q==3)=false:=by simpa using h3
 clear h1 h2 h3
 go_enter Tryz.func180,Tryz.ntmps180
 go_wp2
 go_ret
 exact⟨by rw[aa hq];rfl,(aK)⟩
theorem dD(q t k v n:Int)(w:World):Calls Tryz.prog 197 #[.agg #[.int .i64 q,.int .i64 t,.int .i64 k,.int .i64 v,.int .i64 n]] w fun e w'=>e= .returned (.bool (cC q t k v n))∧Below w.heap.size w w':=by
 by_cases h1:q=1
 ·subst h1
  rw[iz]
  have hp:ct 1 t k v n= .iface 236 (.agg #[.int .i64 1,.int .i64 t,.int .i64 k,.int .i64 v,.int .i64 n]):=rfl
  have hm : ∀ w : World, (method 392 236 (.agg #[.int .i64 1, .int .i64 t, .int .i64 k, .int .i64 v, .int .i64 n]) "loop.example/freshet/impl.ok").run Tryz.prog w = .ok (192, .agg #[.int .i64 1, .int .i64 t, .int .i64 k, .int .i64 v, .int .i64 n]) w := fun _ => by kernel_rfl
  go_enter Tryz.func197,Tryz.ntmps197
  go_wp2_with (first
   |(go_at_call 180;refine(cx _ _ _ _ _ _).mono ?_;rintro e w' ⟨rfl,hb⟩)
   |(go_at_call 192;refine(gV _ _ _ _ _ _).mono ?_;rintro e w' ⟨rfl,hb⟩))
  go_ret
  exact⟨rfl,(aK)⟩
 by_cases h2:q=2
 ·subst h2
  rw[iA]
  have hp:ct 2 t k v n= .iface 252 (.agg #[.int .i64 2,.int .i64 t,.int .i64 k,.int .i64 v,.int .i64 n]):=rfl
  have hm : ∀ w : World, (method 392 252 (.agg #[.int .i64 2, .int .i64 t, .int .i64 k, .int .i64 v, .int .i64 n]) "loop.example/freshet/impl.ok").run Tryz.prog w = .ok (193, .agg #[.int .i64 2, .int .i64 t, .int .i64 k, .int .i64 v, .int .i64 n]) w := fun _ => by kernel_rfl
  go_enter Tryz.func197,Tryz.ntmps197
  go_wp2_with (first
   |(go_at_call 180;refine(cx _ _ _ _ _ _).mono ?_;rintro e w' ⟨rfl,hb⟩)
   |(go_at_call 193;refine(fj _ _ _ _ _ _).mono ?_;rintro e w' ⟨rfl,hb⟩))
  go_ret
  exact⟨rfl,(aK)⟩
 by_cases h3:q=3
 ·subst h3
  rw[okItm_3]
  have hp:ct 3 t k v n= .iface 261 (.agg #[.int .i64 3,.int .i64 t,.int .i64 k,.int .i64 v,.int .i64 n]):=rfl
  have hm : ∀ w : World, (method 392 261 (.agg #[.int .i64 3, .int .i64 t, .int .i64 k, .int .i64 v, .int .i64 n]) "loop.example/freshet/impl.ok").run Tryz.prog w = .ok (239, .agg #[.int .i64 3, .int .i64 t, .int .i64 k, .int .i64 v, .int .i64 n]) w := fun _ => by kernel_rfl
  go_enter Tryz.func197,Tryz.ntmps197
  go_wp2_with (first
   |(go_at_call 180;refine(cx _ _ _ _ _ _).mono ?_;rintro e w' ⟨rfl,hb⟩)
   |(go_at_call 239;refine(wallok_any _ _ _ _ _ _).mono ?_;rintro e w' ⟨rfl,hb⟩))
  go_ret
  exact⟨rfl,(aK)⟩
 have hq:Hid (cC q t k v n=false):=ab (iB h1 h2 h3 t k v n)
 have hr:ct q t k v n= .iface 262 (.agg #[.int .i64 q,.int .i64 t,.int .i64 k,.int .i64 v,.int .i64 n]):=by unfold ct;rw[if_neg h1,if_neg h2,if_neg h3]
 clear h1 h2 h3
 have hp:ct q t k v n= .iface 262 (.agg #[.int .i64 q,.int .i64 t,.int .i64 k,.int .i64 v,.int .i64 n]):=hr
 have hm : ∀ w : World, (method 392 262 (.agg #[.int .i64 q, .int .i64 t, .int .i64 k, .int .i64 v, .int .i64 n]) "loop.example/freshet/impl.ok").run Tryz.prog w = .ok (241, .agg #[.int .i64 q, .int .i64 t, .int .i64 k, .int .i64 v, .int .i64 n]) w := fun _ => by kernel_rfl
 go_enter Tryz.func197,Tryz.ntmps197
 go_wp2_with (first
  |(go_at_call 180;refine(cx _ _ _ _ _ _).mono ?_;rintro e w' ⟨rfl,hb⟩)
  |(go_at_call 241;refine(noneok_any _ _ _ _ _ _).mono ?_;rintro e w' ⟨rfl,hb⟩))
 go_ret
 exact⟨ae (aa hq).symm,(aK)⟩
end Go.Proofs.YtiilbnjjhgcjdaaGreat
namespace Go.Proofs.YtiilbnjjhgcjdaaGreat
open Go.ChangeShapes Go.WideShapes Go.ChangeAt Go.RowKit Go.Deep
/-- An item as five numbers. -/
structure It where
 q:Int
 t:Int
 k:Int
 v:Int
 n:Int
/-- An item lies in five cells. -/
def ItAt(W:World)(g o:Nat)(x:It):Prop:=
 W.cell? ⟨g,o,none⟩=some (.int .i64 x.q)∧W.cell? ⟨g,o+1,none⟩=some (.int .i64 x.t)∧W.cell? ⟨g,o+2,none⟩=some (.int .i64 x.k)∧W.cell? ⟨g,o+3,none⟩=some (.int .i64 x.v)∧W.cell? ⟨g,o+4,none⟩=some (.int .i64 x.n)
theorem ItAt.get{W:World}{g o:Nat}{q t k v n:Int}(h:ItAt W g o ⟨q,t,k,v,n⟩):
  W.cell? ⟨g,o,none⟩=some (.int .i64 q)∧W.cell? ⟨g,o+1,none⟩=some (.int .i64 t)∧W.cell? ⟨g,o+2,none⟩=some (.int .i64 k)∧W.cell? ⟨g,o+3,none⟩=some (.int .i64 v)∧W.cell? ⟨g,o+4,none⟩=some (.int .i64 n):=h
/-- Items lie one behind the other. -/
def gW(W:World)(g o:Nat)(xs:List It):Prop:=∀i x,xs[i]? =some x→ItAt W g (o+i*5) x
/-- A slice's value holds items. -/
def Its(W:World)(a:Option Addr)(len:Nat)(xs:List It):Prop:=
 xs.length=len∧len≤maxLen∧(len=0∨∃g o,a=some ⟨g,o,none⟩∧gW W g o xs)
theorem gW.lt{W:World}{g o:Nat}{xs:List It}(h:gW W g o xs)(hp:0<xs.length):g<W.heap.size:=by
 obtain⟨h0,_⟩:=h 0 xs[0] (List.getElem?_eq_getElem hp)
 rcases Nat.lt_or_ge g W.heap.size with hl|hg
 ·exact hl
 ·simp[World.cell?,Array.getElem?_eq_none hg]at h0
theorem ItAt.below{W W':World}{B g o:Nat}{x:It}(h:ItAt W g o x)(hb:Below B W W')(hg:g<B):ItAt W' g o x:=by
 obtain⟨h0,h1,h2,h3,h4⟩:=h
 exact⟨(hb.cell (p:=⟨g,_,none⟩) hg).trans h0,(hb.cell (p:=⟨g,_,none⟩) hg).trans h1,(hb.cell (p:=⟨g,_,none⟩) hg).trans h2,(hb.cell (p:=⟨g,_,none⟩) hg).trans h3,(hb.cell (p:=⟨g,_,none⟩) hg).trans h4⟩
theorem gW.below{W W':World}{B g o:Nat}{xs:List It}(h:gW W g o xs)(hb:Below B W W')(hg:0<xs.length→g<B):gW W' g o xs:=by
 intro i x hx
 have hlt:i<xs.length:=(List.getElem?_eq_some_iff.1 hx).1
 exact(h i x hx).below hb (hg (by omega))
theorem Its.below{W W':World}{a:Option Addr}{len:Nat}{xs:List It}(h:Its W a len xs)(hb:Below W.heap.size W W'):Its W' a len xs:=by
 obtain⟨h1,h2,h3⟩:=h
 refine⟨h1,h2,?_⟩
 rcases h3 with h3|⟨g,o,ha,hr⟩
 ·exact Or.inl h3
 ·exact Or.inr ⟨g,o,ha,hr.below hb (fun hp=>hr.lt hp)⟩
end Go.Proofs.YtiilbnjjhgcjdaaGreat
namespace Go.Proofs.YtiilbnjjhgcjdaaGreat
open Go.ChangeShapes Go.WideShapes Go.ChangeAt Go.RowKit
/-- Whether an item is ok. -/
def It.okB(x:It):Bool:=cC x.q x.t x.k x.v x.n
/-- Whether the end of a log is one, behind a mark. -/
def cD:List It→Int→Bool
 | [],_=>true
 |x :: r,m=>x.okB&& !(x.q==3)&&(if x.q=2 then decide (m<x.t)&&cD r x.t else cD r m)
/-- Whether an item is the mark of the end. -/
def It.endB(x:It):Bool:=x.q==2&&x.t==1000&&x.k==0&&x.v==0&&x.n==0
/-- Whether items are a log. -/
def bn(xs:List It):Bool:=aO xs.length 1 40&&(match xs.getLast? with|some x=>x.endB|none=>false)&&cD xs 0
theorem logGo_drop{xs:List It}{k:Nat}{q t kk v nn:Int}(h:xs[k]? =some ⟨q,t,kk,v,nn⟩)(m:Int):cD (xs.drop k) m=(cC q t kk v nn&& !(q==3)&&(if q=2 then decide (m<t)&&cD (xs.drop (k+1)) t else cD (xs.drop (k+1)) m)):=by
 obtain⟨hk,he⟩:=List.getElem?_eq_some_iff.1 h
 rw[List.drop_eq_getElem_cons hk,he]
 rfl
set_option maxHeartbeats 1000000 in
theorem speclog_any(a:Option Addr)(len cap:Nat)(xs:List It)(w:World)(h:Its w a len xs):Calls Tryz.prog 40 #[.slice a len cap] w fun e w'=>e= .returned (.bool (bn xs))∧Below w.heap.size w w':=by
 have hm:=h.2.1
 unfold maxLen at hm
 cases hin:aO (len:Int) 1 40
 ·have hq:Hid (bn xs=false):=ab (by have:=h.1;subst this;simp[bn,hin])
  go_enter Tryz.func40,Tryz.ntmps40
  go_wp2_with (go_at_call 41;refine(ak _ _ _ _).mono ?_;rintro e w' ⟨rfl,hw⟩;obtain rfl:=hw.symm)
  go_ret
  exact⟨ae (aa hq).symm,Below.refl _ _⟩
 ·obtain⟨hb1,hb2⟩:=aX.1 hin
  obtain⟨n,rfl⟩:∃n,len=n+1:=⟨len - 1,by omega⟩
  obtain⟨hxl,_,hx⟩:=h
  obtain⟨g,o,rfl,hr⟩:=hx.resolve_left (by omega)
  obtain⟨y,hy⟩:∃y,xs[n]? =some y:=⟨_,List.getElem?_eq_getElem (by omega)⟩
  have hg:g<w.heap.size:=hr.lt (by omega)
  obtain⟨c0,c1,c2,c3,c4⟩:=hr n _ hy
  clear hx
  have hlast:xs.getLast? =some y:=by rw[List.getLast?_eq_getElem?];simpa[hxl]using hy
  have H0:Hid (bn xs=(y.endB&&cD xs 0)):=ab (by unfold bn;rw[hlast,hxl,hin];rfl)
  have H1:Hid (aO ((n:Int)+1) 1 40=true):=ab (by have:=hin;simpa using this)
  clear hlast hy hin
  by_cases e0:y.q=2
  case neg=>
   have hq:Hid (bn xs=false):=ab (by rw[aa H0];simp[It.endB,e0])
   have h7:=aa H1
   go_enter Tryz.func40,Tryz.ntmps40
   go_wp2_with (go_at_call 41;refine(ak _ _ _ _).mono ?_;rintro e w' ⟨rfl,hw⟩;obtain rfl:=hw.symm)
   go_ret
   exact⟨ae (aa hq).symm,Below.refl _ _⟩
  by_cases e1:y.t=1000
  case neg=>
   have hq:Hid (bn xs=false):=ab (by rw[aa H0];simp[It.endB,e0,e1])
   have h7:=aa H1
   go_enter Tryz.func40,Tryz.ntmps40
   go_wp2_with (go_at_call 41;refine(ak _ _ _ _).mono ?_;rintro e w' ⟨rfl,hw⟩;obtain rfl:=hw.symm)
   go_ret
   exact⟨ae (aa hq).symm,Below.refl _ _⟩
  by_cases e2:y.k=0
  case neg=>
   have hq:Hid (bn xs=false):=ab (by rw[aa H0];simp[It.endB,e0,e1,e2])
   have h7:=aa H1
   go_enter Tryz.func40,Tryz.ntmps40
   go_wp2_with (go_at_call 41;refine(ak _ _ _ _).mono ?_;rintro e w' ⟨rfl,hw⟩;obtain rfl:=hw.symm)
   go_ret
   exact⟨ae (aa hq).symm,Below.refl _ _⟩
  by_cases e3:y.v=0
  case neg=>
   have hq:Hid (bn xs=false):=ab (by rw[aa H0];simp[It.endB,e0,e1,e2,e3])
   have h7:=aa H1
   go_enter Tryz.func40,Tryz.ntmps40
   go_wp2_with (go_at_call 41;refine(ak _ _ _ _).mono ?_;rintro e w' ⟨rfl,hw⟩;obtain rfl:=hw.symm)
   go_ret
   exact⟨ae (aa hq).symm,Below.refl _ _⟩
  by_cases e4:y.n=0
  case neg=>
   have hq:Hid (bn xs=false):=ab (by rw[aa H0];simp[It.endB,e0,e1,e2,e3,e4])
   have h7:=aa H1
   go_enter Tryz.func40,Tryz.ntmps40
   go_wp2_with (go_at_call 41;refine(ak _ _ _ _).mono ?_;rintro e w' ⟨rfl,hw⟩;obtain rfl:=hw.symm)
   go_ret
   exact⟨ae (aa hq).symm,Below.refl _ _⟩
  have HL:Hid (bn xs=cD xs 0):=ab (by rw[aa H0];simp[It.endB,e0,e1,e2,e3,e4])
  have h7:=aa H1
  go_enter Tryz.func40,Tryz.ntmps40
  go_wp2_with (go_at_call 41;refine(ak _ _ _ _).mono ?_;rintro e w' ⟨rfl,hw⟩;obtain rfl:=hw.symm)
  go_loopw [3,4] (fun m i wr=>∃(k:Nat) (mk:Int),k≤n+1∧i= .int .i64 k∧m= .int .i64 mk∧Hid (cD xs 0=cD (xs.drop k) mk)∧Below w.heap.size w wr) (fun _ i _=>n+1 - (intOf i).toNat)
  case atStart=>exact⟨0,0,Nat.zero_le _,rfl,rfl,ab (by rw[List.drop_zero]),Below.refl _ _⟩
  case round=>
   obtain⟨k,mk,hk,rfl,rfl,hlg,hbw⟩:=hrel
   by_cases hlt:k<n+1
   ·obtain⟨x,hxk⟩:∃x,xs[k]? =some x:=⟨_,List.getElem?_eq_getElem (by omega)⟩
    obtain⟨q,t,kk,v,nn⟩:=x
    obtain⟨d0,d1,d2,d3,d4⟩:=((hr k _ hxk).below hbw hg).get
    have hgr:g<wr.heap.size:=Nat.lt_of_lt_of_le hg hbw.size
    have hst:=ab (logGo_drop hxk mk)
    clear hxk c0 c1 c2 c3 c4 e0 e1 e2 e3 e4
    cases ho:cC q t kk v nn
    ·have hq:Hid (bn xs=false):=ab (by rw[aa HL,aa hlg,aa hst,ho];rfl)
     go_wp2_with (go_at_call 83;refine(bd _ _ _ _ _ _).mono ?_;rintro e w' ⟨rfl,hb⟩;obtain⟨hc,hf,hs⟩:=ac hb)
     go_ret
     exact⟨ae (aa hq).symm,ad hbw hb⟩
    by_cases h3:q=3
    ·subst h3
     have hq:Hid (bn xs=false):=ab (by rw[aa HL,aa hlg,aa hst,ho];rfl)
     go_wp2_with (go_at_call 83;refine(bd _ _ _ _ _ _).mono ?_;rintro e w' ⟨rfl,hb⟩;obtain⟨hc,hf,hs⟩:=ac hb)
     go_ret
     exact⟨ae (aa hq).symm,ad hbw hb⟩
    have g3:(q==3)=false:=by simpa using h3
    by_cases h2:q=2
    ·subst h2
     clear h3 g3
     by_cases h4:t≤mk
     ·have hq:Hid (bn xs=false):=ab (by rw[aa HL,aa hlg,aa hst,ho,if_pos rfl,decide_eq_false (by omega)];rfl)
      go_wp2_with (go_at_call 83;refine(bd _ _ _ _ _ _).mono ?_;rintro e w' ⟨rfl,hb⟩;obtain⟨hc,hf,hs⟩:=ac hb)
      go_ret
      exact⟨ae (aa hq).symm,ad hbw hb⟩
     ·have hq:Hid (cD xs 0=cD (xs.drop (k+1)) t):=ab (by rw[aa hlg,aa hst,ho,if_pos rfl,decide_eq_true (by omega)];rfl)
      go_wp2_with (go_at_call 83;refine(bd _ _ _ _ _ _).mono ?_;rintro e w' ⟨rfl,hb⟩;obtain⟨hc,hf,hs⟩:=ac hb)
      go_roundw
      case rel=>exact⟨k+1,t,by omega,by go_num,rfl,hq,ad hbw hb⟩
      case measure=>simp[intOf];omega
    ·have hq:Hid (cD xs 0=cD (xs.drop (k+1)) mk):=ab (by rw[aa hlg,aa hst,ho,g3,if_neg h2];rfl)
     have g2:(q==2)=false:=by simpa using h2
     clear h2 h3
     go_wp2_with (go_at_call 83;refine(bd _ _ _ _ _ _).mono ?_;rintro e w' ⟨rfl,hb⟩;obtain⟨hc,hf,hs⟩:=ac hb)
     go_roundw
     case rel=>exact⟨k+1,mk,by omega,by go_num,rfl,hq,ad hbw hb⟩
     case measure=>simp[intOf];omega
   ·have hq:Hid (bn xs=true):=ab (by rw[aa HL,aa hlg,List.drop_of_length_le (by omega)];rfl)
    go_wp2
    go_ret
    exact⟨ae (aa hq).symm,hbw⟩
/-- A task. -/
structure TkD where
 ins:List bK
 rows:List bz
 panes:List cl
 lates:List ch
/-- A task lies in memory, all of it in blocks that are not below B. -/
structure TkIs(W:World)(B:Nat)(ia:Option Addr)(il:Nat)(oa:Option Addr)(ol:Nat)(pa:Option Addr)(pl:Nat)(la:Option Addr)(ll:Nat)(d:TkD):Prop where
 ins:cT W B ia il d.ins
 rows:dC W B oa ol d.rows
 panes:cG W B pa pl d.panes
 lates:cJ W B la ll d.lates
/-- The least mark; how many are held. -/
def bZ(l:List bK):Int:=l.foldl (fun m x=>if x.ma<m then x.ma else m) 1000
def aY(l:List bK):Int:=l.foldl (fun n x=>if x.hd then n+1 else n) 0
theorem eX{xs:List bK}{k:Nat}{x:bK}(h:xs[k]? =some x):bZ (xs.take (k+1))=if x.ma<bZ (xs.take k)then x.ma else bZ (xs.take k):=by
 rw[List.take_add_one,h]
 unfold bZ
 rw[List.foldl_append]
 rfl
theorem gr{xs:List bK}{k:Nat}{x:bK}(h:xs[k]? =some x):aY (xs.take (k+1))=if x.hd then aY (xs.take k)+1 else aY (xs.take k):=by
 rw[List.take_add_one,h]
 unfold aY
 rw[List.foldl_append]
 rfl
theorem gt(l:List bK):0≤aY l∧aY l≤l.length:=by
 have:∀(l:List bK) (n:Int),n≤l.foldl (fun n x=>if x.hd then n+1 else n) n∧l.foldl (fun n x=>if x.hd then n+1 else n) n≤n+l.length:=by
  intro l
  induction l with
  |nil=>intro n;simp
  |cons x r ih=>
   intro n
   rw[List.foldl_cons,List.length_cons]
   cases hx:x.hd
   ·have:=ih n
    simp only[Bool.false_eq_true,if_false]
    omega
   ·have:=ih (n+1)
    simp only[if_true]
    omega
 have:=this l 0
 simp only[aY]
 omega
set_option maxRecDepth 20000 in
set_option maxHeartbeats 1000000 in
theorem fQ(ia:Option Addr)(il ic:Nat)(om:Int)(oa:Option Addr)(ol oc:Nat)(wl pn:Int)(pa:Option Addr)(pl pc:Nat)(la:Option Addr)(ll lc:Nat)(B:Nat)(d:List bK)(w:World)(h:cT w B ia il d):Calls Tryz.prog 88 #[.agg #[.slice ia il ic,.int .i64 om,.slice oa ol oc,.int .i64 wl,.int .i64 pn,.slice pa pl pc,.slice la ll lc]] w fun e w'=>e= .returned (.int .i64 (bZ d))∧Below w.heap.size w w':=by
 have hm:=h.2.1
 unfold maxLen at hm
 have h0:=h.below (ai w (.cells #[.slice ia il ic,.int .i64 om,.slice oa ol oc,.int .i64 wl,.int .i64 pn,.slice pa pl pc,.slice la ll lc] 86))
 go_enter Tryz.func88,Tryz.ntmps88
 go_wp2
 go_loop [3,4] (fun m i=>∃k:Nat,k≤il∧i= .int .i64 k∧m= .int .i64 (bZ (d.take k))) (fun _ i=>il - (intOf i).toNat)
 case atStart=>exact⟨0,Nat.zero_le _,rfl,rfl⟩
 case round=>
  obtain⟨k,hk,rfl,rfl⟩:=hrel
  by_cases hlt:k<il
  ·obtain⟨hxl,hml,hx⟩:=h0
   obtain⟨g,o,rfl,_,hr⟩:=hx.resolve_left (by omega)
   obtain⟨x,hxk⟩:∃x,d[k]? =some x:=⟨_,List.getElem?_eq_getElem (by omega)⟩
   obtain⟨qa,ql,qc,c0,c1,c2,hqi,_⟩:=hr k _ hxk
   clear hx hr hqi h
   by_cases hq:x.ma<bZ (d.take k)
   ·have HS:Hid (bZ (d.take (k+1))=x.ma):=(eX hxk).trans (if_pos hq)
    clear hxk
    generalize bZ (d.take k)=lo at*
    go_wp2
    go_round
    case rel=>exact⟨k+1,by omega,by go_num,by first|(rw[HS.out];done)|(rw[HS.out];go_num)⟩
    case measure=>simp[intOf];omega
   ·have HS:Hid (bZ (d.take (k+1))=bZ (d.take k)):=(eX hxk).trans (if_neg hq)
    clear hxk
    generalize bZ (d.take k)=lo at*
    go_wp2
    go_round
    case rel=>exact⟨k+1,by omega,by go_num,by first|(rw[HS.out];done)|(rw[HS.out];go_num)⟩
    case measure=>simp[intOf];omega
  ·obtain rfl:k=il:=by omega
   have HE:Hid (bZ (d.take k)=bZ d):=by rw[List.take_of_length_le (by have:=h.1;omega)];exact rfl
   generalize bZ (d.take k)=lo at*
   go_wp2
   go_ret
   exact⟨cS HE.out,(aj)⟩
set_option maxRecDepth 20000 in
set_option maxHeartbeats 1000000 in
theorem dE(ia:Option Addr)(il ic:Nat)(om:Int)(oa:Option Addr)(ol oc:Nat)(wl pn:Int)(pa:Option Addr)(pl pc:Nat)(la:Option Addr)(ll lc:Nat)(B:Nat)(d:List bK)(w:World)(h:cT w B ia il d):Calls Tryz.prog 166 #[.agg #[.slice ia il ic,.int .i64 om,.slice oa ol oc,.int .i64 wl,.int .i64 pn,.slice pa pl pc,.slice la ll lc]] w fun e w'=>e= .returned (.int .i64 (bZ d))∧Below w.heap.size w w':=by
 have hm:=h.2.1
 unfold maxLen at hm
 have h0:=h.below (ai w (.cells #[.slice ia il ic,.int .i64 om,.slice oa ol oc,.int .i64 wl,.int .i64 pn,.slice pa pl pc,.slice la ll lc] 86))
 go_enter Tryz.func166,Tryz.ntmps166
 go_wp2
 go_loopw [3,9] (fun m i wr=>∃k:Nat,k≤il∧i= .int .i64 k∧m= .int .i64 (bZ (d.take k))∧Below (w.alloc (.cells #[.slice ia il ic,.int .i64 om,.slice oa ol oc,.int .i64 wl,.int .i64 pn,.slice pa pl pc,.slice la ll lc] 86)).heap.size (w.alloc (.cells #[.slice ia il ic,.int .i64 om,.slice oa ol oc,.int .i64 wl,.int .i64 pn,.slice pa pl pc,.slice la ll lc] 86)) wr) (fun _ i _=>il - (intOf i).toNat)
 case atStart=>exact⟨0,Nat.zero_le _,rfl,rfl,Below.refl _ _⟩
 case round=>
  obtain⟨k,hk,rfl,rfl,hbw⟩:=hrel
  by_cases hlt:k<il
  ·obtain⟨hxl,hml,hx⟩:=h0
   obtain⟨g,o,rfl,_,hr⟩:=hx.resolve_left (by omega)
   obtain⟨x,hxk⟩:∃x,d[k]? =some x:=⟨_,List.getElem?_eq_getElem (by omega)⟩
   obtain⟨qa,ql,qc,c0,c1,c2,hqi,_⟩:=(hr k _ hxk).below hbw
   clear hx hr hqi h
   by_cases hq:x.ma<bZ (d.take k)
   ·have HS:Hid (bZ (d.take (k+1))=x.ma):=(eX hxk).trans (if_pos hq)
    clear hxk
    generalize bZ (d.take k)=lo at*
    go_wp2
    go_roundw
    case rel=>exact⟨k+1,by omega,by go_num,by first|(rw[HS.out];done)|(rw[HS.out];go_num),(aj)⟩
    case measure=>simp[intOf];omega
   ·have HS:Hid (bZ (d.take (k+1))=bZ (d.take k)):=(eX hxk).trans (if_neg hq)
    clear hxk
    generalize bZ (d.take k)=lo at*
    go_wp2
    go_roundw
    case rel=>exact⟨k+1,by omega,by go_num,by first|(rw[HS.out];done)|(rw[HS.out];go_num),(aj)⟩
    case measure=>simp[intOf];omega
  ·obtain rfl:k=il:=by omega
   have HE:Hid (bZ (d.take k)=bZ d):=by rw[List.take_of_length_le (by have:=h.1;omega)];exact rfl
   generalize bZ (d.take k)=lo at*
   go_wp2
   go_ret
   exact⟨cS HE.out,(aj)⟩
set_option maxRecDepth 20000 in
set_option maxHeartbeats 1000000 in
theorem dS(ia:Option Addr)(il ic:Nat)(om:Int)(oa:Option Addr)(ol oc:Nat)(wl pn:Int)(pa:Option Addr)(pl pc:Nat)(la:Option Addr)(ll lc:Nat)(B:Nat)(d:List bK)(w:World)(h:cT w B ia il d):Calls Tryz.prog 87 #[.agg #[.slice ia il ic,.int .i64 om,.slice oa ol oc,.int .i64 wl,.int .i64 pn,.slice pa pl pc,.slice la ll lc]] w fun e w'=>e= .returned (.int .i64 (aY d))∧Below w.heap.size w w':=by
 have hm:=h.2.1
 unfold maxLen at hm
 have h0:=h.below (ai w (.cells #[.slice ia il ic,.int .i64 om,.slice oa ol oc,.int .i64 wl,.int .i64 pn,.slice pa pl pc,.slice la ll lc] 86))
 go_enter Tryz.func87,Tryz.ntmps87
 go_wp2
 go_loop [3,4] (fun m i=>∃k:Nat,k≤il∧i= .int .i64 k∧m= .int .i64 (aY (d.take k))) (fun _ i=>il - (intOf i).toNat)
 case atStart=>exact⟨0,Nat.zero_le _,rfl,rfl⟩
 case round=>
  obtain⟨k,hk,rfl,rfl⟩:=hrel
  by_cases hlt:k<il
  ·obtain⟨hxl,hml,hx⟩:=h0
   obtain⟨g,o,rfl,_,hr⟩:=hx.resolve_left (by omega)
   obtain⟨x,hxk⟩:∃x,d[k]? =some x:=⟨_,List.getElem?_eq_getElem (by omega)⟩
   obtain⟨qa,ql,qc,c0,c1,c2,hqi,_⟩:=hr k _ hxk
   clear hx hr hqi h
   have hbd:=gt (d.take k)
   have hbl:(d.take k).length≤k:=List.length_take_le _ _
   have hsn:=gr hxk
   clear hxk
   obtain⟨q,ma,hd⟩:=x
   cases hd
   ·have HS:Hid (aY (d.take (k+1))=aY (d.take k)):=ab (by simpa using hsn)
    clear hsn
    generalize aY (d.take k)=lo at*
    go_wp2
    go_round
    case rel=>exact⟨k+1,by omega,by go_num,by first|(rw[HS.out];done)|(rw[HS.out];go_num)⟩
    case measure=>simp[intOf];omega
   ·have HS:Hid (aY (d.take (k+1))=aY (d.take k)+1):=ab (by simpa using hsn)
    clear hsn
    generalize aY (d.take k)=lo at*
    go_wp2
    go_round
    case rel=>exact⟨k+1,by omega,by go_num,by first|(rw[HS.out];done)|(rw[HS.out];go_num)⟩
    case measure=>simp[intOf];omega
  ·obtain rfl:k=il:=by omega
   have HE:Hid (aY (d.take k)=aY d):=by rw[List.take_of_length_le (by have:=h.1;omega)];exact rfl
   generalize aY (d.take k)=lo at*
   go_wp2
   go_ret
   exact⟨cS HE.out,(aj)⟩
set_option maxRecDepth 20000 in
set_option maxHeartbeats 1000000 in
theorem fe(ia:Option Addr)(il ic:Nat)(om:Int)(oa:Option Addr)(ol oc:Nat)(wl pn:Int)(pa:Option Addr)(pl pc:Nat)(la:Option Addr)(ll lc:Nat)(B:Nat)(d:List bK)(w:World)(h:cT w B ia il d):Calls Tryz.prog 164 #[.agg #[.slice ia il ic,.int .i64 om,.slice oa ol oc,.int .i64 wl,.int .i64 pn,.slice pa pl pc,.slice la ll lc]] w fun e w'=>e= .returned (.int .i64 (aY d))∧Below w.heap.size w w':=by
 have hm:=h.2.1
 unfold maxLen at hm
 have h0:=h.below (ai w (.cells #[.slice ia il ic,.int .i64 om,.slice oa ol oc,.int .i64 wl,.int .i64 pn,.slice pa pl pc,.slice la ll lc] 86))
 go_enter Tryz.func164,Tryz.ntmps164
 go_wp2
 go_loopw [3,9] (fun m i wr=>∃k:Nat,k≤il∧i= .int .i64 k∧m= .int .i64 (aY (d.take k))∧Below (w.alloc (.cells #[.slice ia il ic,.int .i64 om,.slice oa ol oc,.int .i64 wl,.int .i64 pn,.slice pa pl pc,.slice la ll lc] 86)).heap.size (w.alloc (.cells #[.slice ia il ic,.int .i64 om,.slice oa ol oc,.int .i64 wl,.int .i64 pn,.slice pa pl pc,.slice la ll lc] 86)) wr) (fun _ i _=>il - (intOf i).toNat)
 case atStart=>exact⟨0,Nat.zero_le _,rfl,rfl,Below.refl _ _⟩
 case round=>
  obtain⟨k,hk,rfl,rfl,hbw⟩:=hrel
  by_cases hlt:k<il
  ·obtain⟨hxl,hml,hx⟩:=h0
   obtain⟨g,o,rfl,_,hr⟩:=hx.resolve_left (by omega)
   obtain⟨x,hxk⟩:∃x,d[k]? =some x:=⟨_,List.getElem?_eq_getElem (by omega)⟩
   obtain⟨qa,ql,qc,c0,c1,c2,hqi,_⟩:=(hr k _ hxk).below hbw
   clear hx hr hqi h
   have hbd:=gt (d.take k)
   have hbl:(d.take k).length≤k:=List.length_take_le _ _
   have hsn:=gr hxk
   clear hxk
   obtain⟨q,ma,hd⟩:=x
   cases hd
   ·have HS:Hid (aY (d.take (k+1))=aY (d.take k)):=ab (by simpa using hsn)
    clear hsn
    generalize aY (d.take k)=lo at*
    go_wp2
    go_roundw
    case rel=>exact⟨k+1,by omega,by go_num,by first|(rw[HS.out];done)|(rw[HS.out];go_num),(aj)⟩
    case measure=>simp[intOf];omega
   ·have HS:Hid (aY (d.take (k+1))=aY (d.take k)+1):=ab (by simpa using hsn)
    clear hsn
    generalize aY (d.take k)=lo at*
    go_wp2
    go_roundw
    case rel=>exact⟨k+1,by omega,by go_num,by first|(rw[HS.out];done)|(rw[HS.out];go_num),(aj)⟩
    case measure=>simp[intOf];omega
  ·obtain rfl:k=il:=by omega
   have HE:Hid (aY (d.take k)=aY d):=by rw[List.take_of_length_le (by have:=h.1;omega)];exact rfl
   generalize aY (d.take k)=lo at*
   go_wp2
   go_ret
   exact⟨cS HE.out,(aj)⟩
theorem iC(t k v n:Int):ct 1 t k v n= .iface 236 (.agg #[.int .i64 1,.int .i64 t,.int .i64 k,.int .i64 v,.int .i64 n]):=rfl
theorem iD(t k v n:Int):ct 2 t k v n= .iface 252 (.agg #[.int .i64 2,.int .i64 t,.int .i64 k,.int .i64 v,.int .i64 n]):=rfl
theorem iE(t k v n:Int):ct 3 t k v n= .iface 261 (.agg #[.int .i64 3,.int .i64 t,.int .i64 k,.int .i64 v,.int .i64 n]):=rfl
theorem iF{q:Int}(h1:q≠1)(h2:q≠2)(h3:q≠3)(t k v n:Int):ct q t k v n= .iface 262 (.agg #[.int .i64 q,.int .i64 t,.int .i64 k,.int .i64 v,.int .i64 n]):=by unfold ct;rw[if_neg h1,if_neg h2,if_neg h3]
theorem taRR(x:Value)(w:World):(Instr.typeAssert (.iface 236 x) 189 236 true).run Tryz.prog w= .ok (.tuple #[x,.bool true]) w:=by kernel_rfl
theorem taRM(x:Value)(w:World):(Instr.typeAssert (.iface 236 x) 189 252 true).run Tryz.prog w= .ok (.tuple #[.agg #[.int .i64 0,.int .i64 0,.int .i64 0,.int .i64 0,.int .i64 0],.bool false]) w:=by kernel_rfl
theorem taMR(x:Value)(w:World):(Instr.typeAssert (.iface 252 x) 189 236 true).run Tryz.prog w= .ok (.tuple #[.agg #[.int .i64 0,.int .i64 0,.int .i64 0,.int .i64 0,.int .i64 0],.bool false]) w:=by kernel_rfl
theorem taMM(x:Value)(w:World):(Instr.typeAssert (.iface 252 x) 189 252 true).run Tryz.prog w= .ok (.tuple #[x,.bool true]) w:=by kernel_rfl
theorem taWR(x:Value)(w:World):(Instr.typeAssert (.iface 261 x) 189 236 true).run Tryz.prog w= .ok (.tuple #[.agg #[.int .i64 0,.int .i64 0,.int .i64 0,.int .i64 0,.int .i64 0],.bool false]) w:=by kernel_rfl
theorem taWM(x:Value)(w:World):(Instr.typeAssert (.iface 261 x) 189 252 true).run Tryz.prog w= .ok (.tuple #[.agg #[.int .i64 0,.int .i64 0,.int .i64 0,.int .i64 0,.int .i64 0],.bool false]) w:=by kernel_rfl
theorem taNR(x:Value)(w:World):(Instr.typeAssert (.iface 262 x) 189 236 true).run Tryz.prog w= .ok (.tuple #[.agg #[.int .i64 0,.int .i64 0,.int .i64 0,.int .i64 0,.int .i64 0],.bool false]) w:=by kernel_rfl
theorem taNM(x:Value)(w:World):(Instr.typeAssert (.iface 262 x) 189 252 true).run Tryz.prog w= .ok (.tuple #[.agg #[.int .i64 0,.int .i64 0,.int .i64 0,.int .i64 0,.int .i64 0],.bool false]) w:=by kernel_rfl
/-- What recordOf tells. -/
def recIt(q t k v n:Int):Value:=if q=1 then .agg #[.int .i64 1,.int .i64 t,.int .i64 k,.int .i64 v,.int .i64 n]else .agg #[.int .i64 0,.int .i64 0,.int .i64 0,.int .i64 0,.int .i64 0]
theorem recIt_1(t k v n:Int):recIt 1 t k v n= .agg #[.int .i64 1,.int .i64 t,.int .i64 k,.int .i64 v,.int .i64 n]:=rfl
theorem recIt_n{q:Int}(h:q≠1)(t k v n:Int):recIt q t k v n= .agg #[.int .i64 0,.int .i64 0,.int .i64 0,.int .i64 0,.int .i64 0]:=if_neg h
theorem iG{a b:Value}{c d:Bool}(h:a=b)(k:c=d):Ending.returned (.tuple #[a,.bool c])= .returned (.tuple #[b,.bool d]):=by rw[h,k]
theorem gu(q t k v n:Int)(w:World):Calls Tryz.prog 127 #[ct q t k v n] w fun e w'=>e= .returned (.tuple #[recIt q t k v n,.bool (q==1)])∧Below w.heap.size w w':=by
 by_cases h1:q=1
 ·subst h1
  rw[iC]
  have rR:=taRR
  have mR:=taRM
  go_enter Tryz.func127,Tryz.ntmps127
  go_wp2
  refine bodyPost_ret (v:= .tuple #[.agg #[.int .i64 1,.int .i64 t,.int .i64 k,.int .i64 v,.int .i64 n],.bool true]) (iO) rfl ⟨rfl,?_⟩
  exact(aK)
 have hq:=ab (recIt_n h1 t k v n)
 have hp:Hid ((q==1)=false):=ab (by simpa using h1)
 by_cases h2:q=2
 ·subst h2
  rw[iD]
  have rM:=taMR
  have mM:=taMM
  go_enter Tryz.func127,Tryz.ntmps127
  go_wp2
  refine bodyPost_ret (v:= .tuple #[.agg #[.int .i64 0,.int .i64 0,.int .i64 0,.int .i64 0,.int .i64 0],.bool false]) (iO) rfl ⟨iG (aa hq).symm (aa hp).symm,?_⟩
  exact(aK)
 by_cases h3:q=3
 ·subst h3
  rw[iE]
  have rW:=taWR
  have mW:=taWM
  go_enter Tryz.func127,Tryz.ntmps127
  go_wp2
  refine bodyPost_ret (v:= .tuple #[.agg #[.int .i64 0,.int .i64 0,.int .i64 0,.int .i64 0,.int .i64 0],.bool false]) (iO) rfl ⟨iG (aa hq).symm (aa hp).symm,?_⟩
  exact(aK)
 ·rw[iF h1 h2 h3]
  have rN:=taNR
  have mN:=taNM
  clear h1 h2 h3
  go_enter Tryz.func127,Tryz.ntmps127
  go_wp2
  refine bodyPost_ret (v:= .tuple #[.agg #[.int .i64 0,.int .i64 0,.int .i64 0,.int .i64 0,.int .i64 0],.bool false]) (iO) rfl ⟨iG (aa hq).symm (aa hp).symm,?_⟩
  exact(aK)
/-- Whether a time lies in a window; whether an item is a record that is ok; when a pair is ok. -/
def hasW(st en t:Int):Bool:=aO t st (en - 1)
def fk(q t k v n:Int):Bool:=(q==1)&&bG t k v n
def cI(q t k v n st en:Int):Bool:=fk q t k v n&&bP st en&&hasW st en t
theorem isRecB_n{q:Int}(h:q≠1)(t k v n:Int):fk q t k v n=false:=by simp[fk,h]
theorem isRecB_1(t k v n:Int):fk 1 t k v n=bG t k v n:=by simp[fk]
theorem gX(t k v n:Int):cC 1 t k v n=bG t k v n:=rfl
theorem iH(st en t:Int)(w:World):Calls Tryz.prog 203 #[.agg #[.int .i64 st,.int .i64 en],.int .i64 t] w fun e' w'=>e'= .returned (.bool (hasW st en t))∧Below w.heap.size w w':=by
 by_cases h1:st≤t
 ·by_cases h2:t<en
  ·have hq:Hid (hasW st en t=true):=ab (fD h1 (by omega))
   go_enter Tryz.func203,Tryz.ntmps203
   go_wp2
   go_ret
   exact⟨ae (aa hq).symm,(ar)⟩
  ·have hq:Hid (hasW st en t=false):=ab (dM (by omega))
   go_enter Tryz.func203,Tryz.ntmps203
   go_wp2
   go_ret
   exact⟨ae (aa hq).symm,(ar)⟩
 ·have hq:Hid (hasW st en t=false):=ab (dM (by omega))
  go_enter Tryz.func203,Tryz.ntmps203
  go_wp2
  go_ret
  exact⟨ae (aa hq).symm,(ar)⟩
set_option maxHeartbeats 1000000 in
theorem fI(q t k v n:Int)(w:World):Calls Tryz.prog 201 #[.agg #[.int .i64 q,.int .i64 t,.int .i64 k,.int .i64 v,.int .i64 n]] w fun e' w'=>e'= .returned (.bool (fk q t k v n))∧Below w.heap.size w w':=by
 by_cases h1:q=1
 ·subst h1
  have hq:=ab ((isRecB_1 t k v n).trans (gX t k v n).symm)
  have hr:=recIt_1 t k v n
  go_enter Tryz.func201,Tryz.ntmps201
  go_wp2_with (first
   |(go_at_call 180;refine(cx _ _ _ _ _ _).mono ?_;rintro e w' ⟨rfl,hb⟩;obtain⟨hc,hf,hs⟩:=ac hb;(try have hz0:=zA hb w.heap.size);(try have hz1:=zA hb (w.heap.size+1)))
   |(go_at_call 127;refine(gu _ _ _ _ _ _).mono ?_;rintro e w' ⟨rfl,hb⟩;obtain⟨hc,hf,hs⟩:=ac hb;(try have hz0:=zA hb w.heap.size);(try have hz1:=zA hb (w.heap.size+1)))
   |(go_at_call 197;refine(dD _ _ _ _ _ _).mono ?_;rintro e w' ⟨rfl,hb⟩;obtain⟨hc,hf,hs⟩:=ac hb;(try have hz0:=zA hb w.heap.size);(try have hz1:=zA hb (w.heap.size+1))))
  go_ret
  exact⟨ae (aa hq).symm,(ar)⟩
 ·have hq:=ab (isRecB_n h1 t k v n)
  have hr:=recIt_n h1 t k v n
  have h1':(q==1)=false:=by simpa using h1
  clear h1
  go_enter Tryz.func201,Tryz.ntmps201
  go_wp2_with (first
   |(go_at_call 180;refine(cx _ _ _ _ _ _).mono ?_;rintro e w' ⟨rfl,hb⟩;obtain⟨hc,hf,hs⟩:=ac hb;(try have hz0:=zA hb w.heap.size);(try have hz1:=zA hb (w.heap.size+1)))
   |(go_at_call 127;refine(gu _ _ _ _ _ _).mono ?_;rintro e w' ⟨rfl,hb⟩;obtain⟨hc,hf,hs⟩:=ac hb;(try have hz0:=zA hb w.heap.size);(try have hz1:=zA hb (w.heap.size+1)))
   |(go_at_call 197;refine(dD _ _ _ _ _ _).mono ?_;rintro e w' ⟨rfl,hb⟩;obtain⟨hc,hf,hs⟩:=ac hb;(try have hz0:=zA hb w.heap.size);(try have hz1:=zA hb (w.heap.size+1))))
  go_ret
  exact⟨ae (aa hq).symm,(ar)⟩
set_option maxHeartbeats 1000000 in
theorem ff(q t k v n st en:Int)(w:World):Calls Tryz.prog 173 #[.agg #[.int .i64 q,.int .i64 t,.int .i64 k,.int .i64 v,.int .i64 n,.int .i64 st,.int .i64 en]] w fun e' w'=>e'= .returned (.bool (cI q t k v n st en))∧Below w.heap.size w w':=by
 cases c0:fk q t k v n
 ·have hq:Hid (cI q t k v n st en=false):=ab (by simp[cI,c0])
  go_enter Tryz.func173,Tryz.ntmps173
  go_wp2_with (first
   |(go_at_call 201;refine(fI _ _ _ _ _ _).mono ?_;rintro e w' ⟨rfl,hb⟩;obtain⟨hc,hf,hs⟩:=ac hb;(try have hz0:=zA hb w.heap.size))
   |(go_at_call 202;refine(dW _ _ _).mono ?_;rintro e w' ⟨rfl,hb⟩;obtain⟨hc,hf,hs⟩:=ac hb;(try have hz0:=zA hb w.heap.size))
   |(go_at_call 203;refine(iH _ _ _ _).mono ?_;rintro e w' ⟨rfl,hb⟩;obtain⟨hc,hf,hs⟩:=ac hb;(try have hz0:=zA hb w.heap.size)))
  go_ret
  exact⟨ae (aa hq).symm,(ar)⟩
 cases c1:bP st en
 ·have hq:Hid (cI q t k v n st en=false):=ab (by simp[cI,c0,c1])
  go_enter Tryz.func173,Tryz.ntmps173
  go_wp2_with (first
   |(go_at_call 201;refine(fI _ _ _ _ _ _).mono ?_;rintro e w' ⟨rfl,hb⟩;obtain⟨hc,hf,hs⟩:=ac hb;(try have hz0:=zA hb w.heap.size))
   |(go_at_call 202;refine(dW _ _ _).mono ?_;rintro e w' ⟨rfl,hb⟩;obtain⟨hc,hf,hs⟩:=ac hb;(try have hz0:=zA hb w.heap.size))
   |(go_at_call 203;refine(iH _ _ _ _).mono ?_;rintro e w' ⟨rfl,hb⟩;obtain⟨hc,hf,hs⟩:=ac hb;(try have hz0:=zA hb w.heap.size)))
  go_ret
  exact⟨ae (aa hq).symm,(ar)⟩
 have hq:Hid (cI q t k v n st en=hasW st en t):=ab (by simp[cI,c0,c1])
 go_enter Tryz.func173,Tryz.ntmps173
 go_wp2_with (first
  |(go_at_call 201;refine(fI _ _ _ _ _ _).mono ?_;rintro e w' ⟨rfl,hb⟩;obtain⟨hc,hf,hs⟩:=ac hb;(try have hz0:=zA hb w.heap.size))
  |(go_at_call 202;refine(dW _ _ _).mono ?_;rintro e w' ⟨rfl,hb⟩;obtain⟨hc,hf,hs⟩:=ac hb;(try have hz0:=zA hb w.heap.size))
  |(go_at_call 203;refine(iH _ _ _ _).mono ?_;rintro e w' ⟨rfl,hb⟩;obtain⟨hc,hf,hs⟩:=ac hb;(try have hz0:=zA hb w.heap.size)))
 go_ret
 exact⟨ae (aa hq).symm,(ar)⟩
set_option maxHeartbeats 1000000 in
theorem dT(q t k v n st en:Int)(w:World):Calls Tryz.prog 90 #[.agg #[.int .i64 q,.int .i64 t,.int .i64 k,.int .i64 v,.int .i64 n,.int .i64 st,.int .i64 en]] w fun e' w'=>e'= .returned (.bool (cI q t k v n st en))∧Below w.heap.size w w':=by
 by_cases h1:q=1
 ·subst h1
  have e1:=gX t k v n
  have hq1:Hid (cI 1 t k v n st en=(cC 1 t k v n&&bP st en&&hasW st en t)):=ab (by rw[cI,isRecB_1,e1])
  cases c0:cC 1 t k v n
  ·have hq:Hid (cI 1 t k v n st en=false):=ab ((aa hq1).trans (by simp[c0]))
   clear e1
   go_enter Tryz.func90,Tryz.ntmps90
   go_wp2_with (first
    |(go_at_call 83;refine(bd _ _ _ _ _ _).mono ?_;rintro e w' ⟨rfl,hb⟩;obtain⟨hc,hf,hs⟩:=ac hb;(try have hz0:=zA hb w.heap.size))
    |(go_at_call 140;refine(au _ _ _).mono ?_;rintro e w' ⟨rfl,hb⟩;obtain⟨hc,hf,hs⟩:=ac hb;(try have hz0:=zA hb w.heap.size))
    |(go_at_call 41;refine(ak _ _ _ _).mono ?_;rintro e' w' ⟨rfl,rfl⟩))
   go_ret
   exact⟨ae (aa hq).symm,(ar)⟩
  cases c1:bP st en
  ·have hq:Hid (cI 1 t k v n st en=false):=ab ((aa hq1).trans (by simp[c0,c1]))
   clear e1
   go_enter Tryz.func90,Tryz.ntmps90
   go_wp2_with (first
    |(go_at_call 83;refine(bd _ _ _ _ _ _).mono ?_;rintro e w' ⟨rfl,hb⟩;obtain⟨hc,hf,hs⟩:=ac hb;(try have hz0:=zA hb w.heap.size))
    |(go_at_call 140;refine(au _ _ _).mono ?_;rintro e w' ⟨rfl,hb⟩;obtain⟨hc,hf,hs⟩:=ac hb;(try have hz0:=zA hb w.heap.size))
    |(go_at_call 41;refine(ak _ _ _ _).mono ?_;rintro e' w' ⟨rfl,rfl⟩))
   go_ret
   exact⟨ae (aa hq).symm,(ar)⟩
  have hq:Hid (cI 1 t k v n st en=aO t st (en - 1)):=ab ((aa hq1).trans (by simp[c0,c1,hasW]))
  have hw:=c1
  simp only[bP,Bool.and_eq_true]at hw
  have hw1:=aX.1 hw.1
  have hw2:=aX.1 hw.2
  clear e1 hw
  go_enter Tryz.func90,Tryz.ntmps90
  go_wp2_with (first
   |(go_at_call 83;refine(bd _ _ _ _ _ _).mono ?_;rintro e w' ⟨rfl,hb⟩;obtain⟨hc,hf,hs⟩:=ac hb;(try have hz0:=zA hb w.heap.size))
   |(go_at_call 140;refine(au _ _ _).mono ?_;rintro e w' ⟨rfl,hb⟩;obtain⟨hc,hf,hs⟩:=ac hb;(try have hz0:=zA hb w.heap.size))
   |(go_at_call 41;refine(ak _ _ _ _).mono ?_;rintro e' w' ⟨rfl,rfl⟩))
  go_ret
  exact⟨ae (aa hq).symm,(ar)⟩
 ·have hq:Hid (cI q t k v n st en=false):=ab (by simp[cI,isRecB_n h1])
  have h1':(q==1)=false:=by simpa using h1
  clear h1
  go_enter Tryz.func90,Tryz.ntmps90
  go_wp2_with (first
   |(go_at_call 83;refine(bd _ _ _ _ _ _).mono ?_;rintro e w' ⟨rfl,hb⟩;obtain⟨hc,hf,hs⟩:=ac hb;(try have hz0:=zA hb w.heap.size))
   |(go_at_call 140;refine(au _ _ _).mono ?_;rintro e w' ⟨rfl,hb⟩;obtain⟨hc,hf,hs⟩:=ac hb;(try have hz0:=zA hb w.heap.size))
   |(go_at_call 41;refine(ak _ _ _ _).mono ?_;rintro e' w' ⟨rfl,rfl⟩))
  go_ret
  exact⟨ae (aa hq).symm,(ar)⟩
theorem all_tt{α:Type}{xs:List α}{p:α→Bool}{k:Nat}{x:α}(h:(xs.take k).all p=true)(hx:xs[k]? =some x)(hp:p x=true):(xs.take (k+1)).all p=true:=by
 rw[List.take_add_one,hx,List.all_append,h]
 simp[hp]
theorem all_ff{α:Type}{xs:List α}{p:α→Bool}{k:Nat}{x:α}(hx:xs[k]? =some x)(hp:p x=false):xs.all p=false:=by
 rw[List.all_eq_false]
 exact⟨x,List.mem_of_getElem? hx,by simp[hp]⟩
/-- Whether one is ok. -/
def cl.okB(x:cl):Bool:=bQ x.ky x.st x.en x.no x.kd x.n x.su x.le x.mo
set_option maxRecDepth 20000 in
set_option maxHeartbeats 1000000 in
theorem bq(a:Option Addr)(len cap:Nat)(xs:List cl)(w:World)(h:eE w a len xs):Calls Tryz.prog 170 #[.slice a len cap,.func (.func 171) #[] #[]] w fun e w'=>e= .returned (.bool (xs.all cl.okB))∧Below w.heap.size w w':=by
 have hm:=h.2.1
 unfold maxLen at hm
 go_enter Tryz.func170,Tryz.ntmps170
 go_wp2
 go_loopw [9] (fun i wr=>∃k:Nat,k≤len∧i= .int .i64 k∧Hid ((xs.take k).all cl.okB=true)∧Below w.heap.size w wr) (fun i _=>len - (intOf i).toNat)
 case atStart=>exact⟨0,Nat.zero_le _,rfl,ab (by simp),Below.refl _ _⟩
 case round=>
  obtain⟨k,hk,rfl,hA,hbw⟩:=hrel
  by_cases hlt:k<len
  ·obtain⟨hxl,_,hx⟩:=h
   obtain⟨g,o,rfl,hr⟩:=hx.resolve_left (by omega)
   obtain⟨x,hxk⟩:∃x,xs[k]? =some x:=⟨_,List.getElem?_eq_getElem (by omega)⟩
   have hg:g<w.heap.size:=hr.lt (by omega)
   have hX:=ab hxk
   obtain⟨d0,d1,d2,d3,d4,d5,d6,d7,d8⟩:=(hr k _ hxk).below hbw hg
   clear hx hxk hr
   cases hB:bQ x.ky x.st x.en x.no x.kd x.n x.su x.le x.mo
   ·have HE:Hid (xs.all cl.okB=false):=ab (all_ff (aa hX) hB)
    go_wp2_with (go_at_call 171;refine(fd _ _ _ _ _ _ _ _ _ _).mono ?_;rintro e wf ⟨rfl,hb⟩;obtain⟨hc,hf,hsz⟩:=ac hb)
    go_ret
    exact⟨ae (aa HE).symm,(aj)⟩
   ·have HE:Hid ((xs.take (k+1)).all cl.okB=true):=ab (all_tt (aa hA) (aa hX) hB)
    go_wp2_with (go_at_call 171;refine(fd _ _ _ _ _ _ _ _ _ _).mono ?_;rintro e wf ⟨rfl,hb⟩;obtain⟨hc,hf,hsz⟩:=ac hb)
    go_roundw
    case rel=>exact⟨k+1,by omega,by go_num,HE,(aj)⟩
    case measure=>simp[intOf];omega
  ·have HE:Hid (xs.all cl.okB=true):=ab (by have h1:=aa hA;rwa [List.take_of_length_le (by have:=h.1;omega)]at h1)
   go_wp2
   go_ret
   exact⟨ae (aa HE).symm,hbw⟩
/-- Whether one is ok. -/
def ch.okB(x:ch):Bool:=cI x.kd x.tm x.ke x.va x.nn x.st x.en
set_option maxRecDepth 20000 in
set_option maxHeartbeats 1000000 in
theorem bH(a:Option Addr)(len cap:Nat)(xs:List ch)(w:World)(h:eF w a len xs):Calls Tryz.prog 172 #[.slice a len cap,.func (.func 173) #[] #[]] w fun e w'=>e= .returned (.bool (xs.all ch.okB))∧Below w.heap.size w w':=by
 have hm:=h.2.1
 unfold maxLen at hm
 go_enter Tryz.func172,Tryz.ntmps172
 go_wp2
 go_loopw [9] (fun i wr=>∃k:Nat,k≤len∧i= .int .i64 k∧Hid ((xs.take k).all ch.okB=true)∧Below w.heap.size w wr) (fun i _=>len - (intOf i).toNat)
 case atStart=>exact⟨0,Nat.zero_le _,rfl,ab (by simp),Below.refl _ _⟩
 case round=>
  obtain⟨k,hk,rfl,hA,hbw⟩:=hrel
  by_cases hlt:k<len
  ·obtain⟨hxl,_,hx⟩:=h
   obtain⟨g,o,rfl,hr⟩:=hx.resolve_left (by omega)
   obtain⟨x,hxk⟩:∃x,xs[k]? =some x:=⟨_,List.getElem?_eq_getElem (by omega)⟩
   have hg:g<w.heap.size:=hr.lt (by omega)
   have hX:=ab hxk
   obtain⟨d0,d1,d2,d3,d4,d5,d6⟩:=(hr k _ hxk).below hbw hg
   clear hx hxk hr
   cases hB:cI x.kd x.tm x.ke x.va x.nn x.st x.en
   ·have HE:Hid (xs.all ch.okB=false):=ab (all_ff (aa hX) hB)
    go_wp2_with (go_at_call 173;refine(ff _ _ _ _ _ _ _ _).mono ?_;rintro e wf ⟨rfl,hb⟩;obtain⟨hc,hf,hsz⟩:=ac hb)
    go_ret
    exact⟨ae (aa HE).symm,(aj)⟩
   ·have HE:Hid ((xs.take (k+1)).all ch.okB=true):=ab (all_tt (aa hA) (aa hX) hB)
    go_wp2_with (go_at_call 173;refine(ff _ _ _ _ _ _ _ _).mono ?_;rintro e wf ⟨rfl,hb⟩;obtain⟨hc,hf,hsz⟩:=ac hb)
    go_roundw
    case rel=>exact⟨k+1,by omega,by go_num,HE,(aj)⟩
    case measure=>simp[intOf];omega
  ·have HE:Hid (xs.all ch.okB=true):=ab (by have h1:=aa hA;rwa [List.take_of_length_le (by have:=h.1;omega)]at h1)
   go_wp2
   go_ret
   exact⟨ae (aa HE).symm,hbw⟩
/-- Whether one is ok. -/
def cH.okB(x:cH):Bool:=cC x.kd x.tm x.ke x.va x.nn
set_option maxRecDepth 20000 in
set_option maxHeartbeats 1000000 in
theorem dF(a:Option Addr)(len cap:Nat)(xs:List cH)(w:World)(h:cw w a len xs):Calls Tryz.prog 196 #[.slice a len cap,.func (.func 197) #[] #[]] w fun e w'=>e= .returned (.bool (xs.all cH.okB))∧Below w.heap.size w w':=by
 have hm:=h.2.1
 unfold maxLen at hm
 go_enter Tryz.func196,Tryz.ntmps196
 go_wp2
 go_loopw [9] (fun i wr=>∃k:Nat,k≤len∧i= .int .i64 k∧Hid ((xs.take k).all cH.okB=true)∧Below w.heap.size w wr) (fun i _=>len - (intOf i).toNat)
 case atStart=>exact⟨0,Nat.zero_le _,rfl,ab (by simp),Below.refl _ _⟩
 case round=>
  obtain⟨k,hk,rfl,hA,hbw⟩:=hrel
  by_cases hlt:k<len
  ·obtain⟨hxl,_,hx⟩:=h
   obtain⟨g,o,rfl,hr⟩:=hx.resolve_left (by omega)
   obtain⟨x,hxk⟩:∃x,xs[k]? =some x:=⟨_,List.getElem?_eq_getElem (by omega)⟩
   have hg:g<w.heap.size:=hr.lt (by omega)
   have hX:=ab hxk
   obtain⟨d0,d1,d2,d3,d4⟩:=(hr k _ hxk).below hbw hg
   clear hx hxk hr
   cases hB:cC x.kd x.tm x.ke x.va x.nn
   ·have HE:Hid (xs.all cH.okB=false):=ab (all_ff (aa hX) hB)
    go_wp2_with (go_at_call 197;refine(dD _ _ _ _ _ _).mono ?_;rintro e wf ⟨rfl,hb⟩;obtain⟨hc,hf,hsz⟩:=ac hb)
    go_ret
    exact⟨ae (aa HE).symm,(aj)⟩
   ·have HE:Hid ((xs.take (k+1)).all cH.okB=true):=ab (all_tt (aa hA) (aa hX) hB)
    go_wp2_with (go_at_call 197;refine(dD _ _ _ _ _ _).mono ?_;rintro e wf ⟨rfl,hb⟩;obtain⟨hc,hf,hsz⟩:=ac hb)
    go_roundw
    case rel=>exact⟨k+1,by omega,by go_num,HE,(aj)⟩
    case measure=>simp[intOf];omega
  ·have HE:Hid (xs.all cH.okB=true):=ab (by have h1:=aa hA;rwa [List.take_of_length_le (by have:=h.1;omega)]at h1)
   go_wp2
   go_ret
   exact⟨ae (aa HE).symm,hbw⟩
/-- Whether a transaction is ok; whether a channel is; whether a task is. -/
def bf(n:Int)(ps:List cl)(ls:List ch):Bool:=aO n 0 900&&decide (ps.length≤1500)&&decide (ls.length≤1500)&&ps.all cl.okB&&ls.all ch.okB
def bK.okB(r:Int)(x:bK):Bool:=decide ((x.q.length:Int)≤r)&&aO x.ma 0 1000&&x.q.all cH.okB
def aZ(s t k z p l e v r om wl pn:Int)(d:TkD):Bool:=bW s t k z p l e v r om d.rows&&decide ((d.ins.length:Int)=s)&&aO wl 0 900&&bf pn d.panes d.lates&&(pn==0)&&d.ins.all (bK.okB r)&&decide (aY d.ins<d.ins.length)&&(om==bZ d.ins)
theorem ap{b0 b1 a0 a1 a2 a3 a4 a5 a6 a7 a8 a9 c0 c1 c2 c3 c4 c5 c6:Nat}{k0 k1 k2 k3 k4 k5 k6 k7 k8 k9 l0 l1 l2 l3 l4 l5 l6:Value}{W W':World}(h:((W.cell? ⟨b0,a0,none⟩=some k0∧W.cell? ⟨b0,a1,none⟩=some k1∧W.cell? ⟨b0,a2,none⟩=some k2∧W.cell? ⟨b0,a3,none⟩=some k3∧W.cell? ⟨b0,a4,none⟩=some k4∧W.cell? ⟨b0,a5,none⟩=some k5∧W.cell? ⟨b0,a6,none⟩=some k6∧W.cell? ⟨b0,a7,none⟩=some k7∧W.cell? ⟨b0,a8,none⟩=some k8∧W.cell? ⟨b0,a9,none⟩=some k9∧W.cell? ⟨b1,c0,none⟩=some l0∧W.cell? ⟨b1,c1,none⟩=some l1∧W.cell? ⟨b1,c2,none⟩=some l2∧W.cell? ⟨b1,c3,none⟩=some l3∧W.cell? ⟨b1,c4,none⟩=some l4∧W.cell? ⟨b1,c5,none⟩=some l5∧W.cell? ⟨b1,c6,none⟩=some l6)∧b0<W.heap.size∧b1<W.heap.size))(hb:Below W.heap.size W W'):((W'.cell? ⟨b0,a0,none⟩=some k0∧W'.cell? ⟨b0,a1,none⟩=some k1∧W'.cell? ⟨b0,a2,none⟩=some k2∧W'.cell? ⟨b0,a3,none⟩=some k3∧W'.cell? ⟨b0,a4,none⟩=some k4∧W'.cell? ⟨b0,a5,none⟩=some k5∧W'.cell? ⟨b0,a6,none⟩=some k6∧W'.cell? ⟨b0,a7,none⟩=some k7∧W'.cell? ⟨b0,a8,none⟩=some k8∧W'.cell? ⟨b0,a9,none⟩=some k9∧W'.cell? ⟨b1,c0,none⟩=some l0∧W'.cell? ⟨b1,c1,none⟩=some l1∧W'.cell? ⟨b1,c2,none⟩=some l2∧W'.cell? ⟨b1,c3,none⟩=some l3∧W'.cell? ⟨b1,c4,none⟩=some l4∧W'.cell? ⟨b1,c5,none⟩=some l5∧W'.cell? ⟨b1,c6,none⟩=some l6)∧b0<W'.heap.size∧b1<W'.heap.size):=by
 obtain⟨h99,s0,s1⟩:=h
 have e0:∀z,W'.cell? ⟨b0,z,none⟩=W.cell? ⟨b0,z,none⟩:=fun z=>hb.cell s0
 have e1:∀z,W'.cell? ⟨b1,z,none⟩=W.cell? ⟨b1,z,none⟩:=fun z=>hb.cell s1
 refine⟨?_,Nat.lt_of_lt_of_le s0 hb.size,Nat.lt_of_lt_of_le s1 hb.size⟩
 simp only[e0,e1]
 exact h99
end Go.Proofs.YtiilbnjjhgcjdaaGreat
