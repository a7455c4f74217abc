/- Laid together: what the claim needs of the texts that were built one by one. -/
import Derived.Test.YtealpjmannopeaaGreatX1
import Derived.Test.YtealpjmannopeaaGreatX0
import Derived.Deep.Slices
import Derived.Lib.SmallJoins
import Derived.WalkSpells
import Derived.Deep.RegionHeld3
import Derived.Test.YtealpjmannopeaaGreatX2
import Derived.Test.YtealpjmannopeaaGreatX9
import Derived.Test.YtealpjmannopeaaGreatX8
set_option linter.unusedVariables false
namespace Go.Proofs.YtealpjmannopeaaGreat
open Go.ChangeShapes Go.WideShapes Go.ChangeAt Go.RowKit
/-- When a record, a mark, a wall, an item is ok. -/
def bP(t k v n:Int):Bool:=aP t 0 60&&aP k 0 3&&aP v (-9) 9&&(n==0)
def aS(t k v n:Int):Bool:=(aP t 1 60||t==1000)&&(k==0)&&(v==0)&&(n==0)
def cU(t k v n:Int):Bool:=aP n 1 900&&(t==0)&&(k==0)&&(v==0)
def da(t k v n:Int):Bool:=(t==0)&&(k==0)&&(v==0)&&aP n 1 900
def cN(q t k v n:Int):Bool:=if q=1 then bP t k v n else if q=2 then aS t k v n else if q=3 then cU t k v n else false
theorem okWall_eq(t k v n:Int):da t k v n=cU t k v n:=by
 unfold da cU
 cases aP n 1 900<;>cases (t==0)<;>cases (k==0)<;>cases (v==0)<;>rfl
theorem jj(t k v n:Int):cN 1 t k v n=bP t k v n:=rfl
theorem jk(t k v n:Int):cN 2 t k v n=aS t k v n:=rfl
theorem okItm_3(t k v n:Int):cN 3 t k v n=cU t k v n:=rfl
theorem jl{q:Int}(h1:q≠1)(h2:q≠2)(h3:q≠3)(t k v n:Int):cN q t k v n=false:=by unfold cN;rw[if_neg h1,if_neg h2,if_neg h3]
theorem iV(q t k v n:Int)(w:World):Calls Tryz.prog 185 #[.agg #[.int .i64 q,.int .i64 t,.int .i64 k,.int .i64 v,.int .i64 n]] w fun e w'=>e= .returned (.bool (bP t k v n))∧Below w.heap.size w w':=by
 cases c0:aP t 0 60
 ·have hq:Hid (bP t k v n=false):=ab (by simp[bP,c0])
  go_enter Tryz.func185,Tryz.ntmps185
  go_wp2_with (go_at_call 126;refine(ah _ _ _ _).mono ?_;rintro e w' ⟨rfl,rfl⟩)
  go_ret
  exact⟨af (aa hq).symm,(aL)⟩
 ·cases c1:aP k 0 3
  ·have hq:Hid (bP t k v n=false):=ab (by simp[bP,c0,c1])
   go_enter Tryz.func185,Tryz.ntmps185
   go_wp2_with (go_at_call 126;refine(ah _ _ _ _).mono ?_;rintro e w' ⟨rfl,rfl⟩)
   go_ret
   exact⟨af (aa hq).symm,(aL)⟩
  ·cases c2:aP v (-9) 9
   ·have hq:Hid (bP t k v n=false):=ab (by simp[bP,c0,c1,c2])
    go_enter Tryz.func185,Tryz.ntmps185
    go_wp2_with (go_at_call 126;refine(ah _ _ _ _).mono ?_;rintro e w' ⟨rfl,rfl⟩)
    go_ret
    exact⟨af (aa hq).symm,(aL)⟩
   ·have hq:Hid (bP t k v n=(n==0)):=ab (by simp[bP,c0,c1,c2])
    go_enter Tryz.func185,Tryz.ntmps185
    go_wp2_with (go_at_call 126;refine(ah _ _ _ _).mono ?_;rintro e w' ⟨rfl,rfl⟩)
    go_ret
    exact⟨af (aa hq).symm,(aL)⟩
theorem fO(q t k v n:Int)(w:World):Calls Tryz.prog 186 #[.agg #[.int .i64 q,.int .i64 t,.int .i64 k,.int .i64 v,.int .i64 n]] w fun e w'=>e= .returned (.bool (aS t k v n))∧Below w.heap.size w w':=by
 cases m0:aP t 1 60
 ·cases m1:(t==1000)
  ·have hq:Hid (aS t k v n=false):=ab (by simp[aS,m0,m1])
   go_enter Tryz.func186,Tryz.ntmps186
   go_wp2_with (go_at_call 126;refine(ah _ _ _ _).mono ?_;rintro e w' ⟨rfl,rfl⟩)
   go_ret
   exact⟨af (aa hq).symm,(aL)⟩
  ·cases c0:(k==0)
   ·have hq:Hid (aS t k v n=false):=ab (by simp[aS,m0,m1,c0])
    go_enter Tryz.func186,Tryz.ntmps186
    go_wp2_with (go_at_call 126;refine(ah _ _ _ _).mono ?_;rintro e w' ⟨rfl,rfl⟩)
    go_ret
    exact⟨af (aa hq).symm,(aL)⟩
   ·cases c1:(v==0)
    ·have hq:Hid (aS t k v n=false):=ab (by simp[aS,m0,m1,c0,c1])
     go_enter Tryz.func186,Tryz.ntmps186
     go_wp2_with (go_at_call 126;refine(ah _ _ _ _).mono ?_;rintro e w' ⟨rfl,rfl⟩)
     go_ret
     exact⟨af (aa hq).symm,(aL)⟩
    ·have hq:Hid (aS t k v n=(n==0)):=ab (by simp[aS,m0,m1,c0,c1])
     go_enter Tryz.func186,Tryz.ntmps186
     go_wp2_with (go_at_call 126;refine(ah _ _ _ _).mono ?_;rintro e w' ⟨rfl,rfl⟩)
     go_ret
     exact⟨af (aa hq).symm,(aL)⟩
 ·cases c0:(k==0)
  ·have hq:Hid (aS t k v n=false):=ab (by simp[aS,m0,c0])
   go_enter Tryz.func186,Tryz.ntmps186
   go_wp2_with (go_at_call 126;refine(ah _ _ _ _).mono ?_;rintro e w' ⟨rfl,rfl⟩)
   go_ret
   exact⟨af (aa hq).symm,(aL)⟩
  ·cases c1:(v==0)
   ·have hq:Hid (aS t k v n=false):=ab (by simp[aS,m0,c0,c1])
    go_enter Tryz.func186,Tryz.ntmps186
    go_wp2_with (go_at_call 126;refine(ah _ _ _ _).mono ?_;rintro e w' ⟨rfl,rfl⟩)
    go_ret
    exact⟨af (aa hq).symm,(aL)⟩
   ·have hq:Hid (aS t k v n=(n==0)):=ab (by simp[aS,m0,c0,c1])
    go_enter Tryz.func186,Tryz.ntmps186
    go_wp2_with (go_at_call 126;refine(ah _ _ _ _).mono ?_;rintro e w' ⟨rfl,rfl⟩)
    go_ret
    exact⟨af (aa hq).symm,(aL)⟩
theorem wallok_any(q t k v n:Int)(w:World):Calls Tryz.prog 226 #[.agg #[.int .i64 q,.int .i64 t,.int .i64 k,.int .i64 v,.int .i64 n]] w fun e w'=>e= .returned (.bool (cU t k v n))∧Below w.heap.size w w':=by
 cases c0:aP n 1 900
 ·have hq:Hid (cU t k v n=false):=ab (by simp[cU,c0])
  go_enter Tryz.func226,Tryz.ntmps226
  go_wp2_with (go_at_call 126;refine(ah _ _ _ _).mono ?_;rintro e w' ⟨rfl,rfl⟩)
  go_ret
  exact⟨af (aa hq).symm,(aL)⟩
 ·cases c1:(t==0)
  ·have hq:Hid (cU t k v n=false):=ab (by simp[cU,c0,c1])
   go_enter Tryz.func226,Tryz.ntmps226
   go_wp2_with (go_at_call 126;refine(ah _ _ _ _).mono ?_;rintro e w' ⟨rfl,rfl⟩)
   go_ret
   exact⟨af (aa hq).symm,(aL)⟩
  ·cases c2:(k==0)
   ·have hq:Hid (cU t k v n=false):=ab (by simp[cU,c0,c1,c2])
    go_enter Tryz.func226,Tryz.ntmps226
    go_wp2_with (go_at_call 126;refine(ah _ _ _ _).mono ?_;rintro e w' ⟨rfl,rfl⟩)
    go_ret
    exact⟨af (aa hq).symm,(aL)⟩
   ·have hq:Hid (cU t k v n=(v==0)):=ab (by simp[cU,c0,c1,c2])
    go_enter Tryz.func226,Tryz.ntmps226
    go_wp2_with (go_at_call 126;refine(ah _ _ _ _).mono ?_;rintro e w' ⟨rfl,rfl⟩)
    go_ret
    exact⟨af (aa hq).symm,(aL)⟩
theorem noneok_any(q t k v n:Int)(w:World):Calls Tryz.prog 228 #[.agg #[.int .i64 q,.int .i64 t,.int .i64 k,.int .i64 v,.int .i64 n]] w fun e w'=>e= .returned (.bool false)∧Below w.heap.size w w':=by
 go_enter Tryz.func228,Tryz.ntmps228
 go_wp2
 go_ret
 exact⟨rfl,(aL)⟩
set_option maxHeartbeats 1000000 in
theorem bi(q t k v n:Int)(w:World):Calls Tryz.prog 107 #[.agg #[.int .i64 q,.int .i64 t,.int .i64 k,.int .i64 v,.int .i64 n]] w fun e w'=>e= .returned (.bool (cN q t k v n))∧Below w.heap.size w w':=by
 by_cases h1:q=1
 ·subst h1
  rw[jj]
  cases c0:aP t 0 60
  ·have hq:Hid (bP t k v n=false):=ab (by simp[bP,c0])
   go_enter Tryz.func107,Tryz.ntmps107
   go_wp2_with (go_at_call 63;refine(al _ _ _ _).mono ?_;rintro e w' ⟨rfl,rfl⟩)
   go_ret
   exact⟨af (aa hq).symm,(aL)⟩
  ·cases c1:aP k 0 3
   ·have hq:Hid (bP t k v n=false):=ab (by simp[bP,c0,c1])
    go_enter Tryz.func107,Tryz.ntmps107
    go_wp2_with (go_at_call 63;refine(al _ _ _ _).mono ?_;rintro e w' ⟨rfl,rfl⟩)
    go_ret
    exact⟨af (aa hq).symm,(aL)⟩
   ·cases c2:aP v (-9) 9
    ·have hq:Hid (bP t k v n=false):=ab (by simp[bP,c0,c1,c2])
     go_enter Tryz.func107,Tryz.ntmps107
     go_wp2_with (go_at_call 63;refine(al _ _ _ _).mono ?_;rintro e w' ⟨rfl,rfl⟩)
     go_ret
     exact⟨af (aa hq).symm,(aL)⟩
    ·have hq:Hid (bP t k v n=(n==0)):=ab (by simp[bP,c0,c1,c2])
     go_enter Tryz.func107,Tryz.ntmps107
     go_wp2_with (go_at_call 63;refine(al _ _ _ _).mono ?_;rintro e w' ⟨rfl,rfl⟩)
     go_ret
     exact⟨af (aa hq).symm,(aL)⟩
 by_cases h2:q=2
 ·subst h2
  rw[jk]
  cases m0:aP t 1 60
  ·cases m1:(t==1000)
   ·have hq:Hid (aS t k v n=false):=ab (by simp[aS,m0,m1])
    go_enter Tryz.func107,Tryz.ntmps107
    go_wp2_with (go_at_call 63;refine(al _ _ _ _).mono ?_;rintro e w' ⟨rfl,rfl⟩)
    go_ret
    exact⟨af (aa hq).symm,(aL)⟩
   ·cases c0:(k==0)
    ·have hq:Hid (aS t k v n=false):=ab (by simp[aS,m0,m1,c0])
     go_enter Tryz.func107,Tryz.ntmps107
     go_wp2_with (go_at_call 63;refine(al _ _ _ _).mono ?_;rintro e w' ⟨rfl,rfl⟩)
     go_ret
     exact⟨af (aa hq).symm,(aL)⟩
    ·cases c1:(v==0)
     ·have hq:Hid (aS t k v n=false):=ab (by simp[aS,m0,m1,c0,c1])
      go_enter Tryz.func107,Tryz.ntmps107
      go_wp2_with (go_at_call 63;refine(al _ _ _ _).mono ?_;rintro e w' ⟨rfl,rfl⟩)
      go_ret
      exact⟨af (aa hq).symm,(aL)⟩
     ·have hq:Hid (aS t k v n=(n==0)):=ab (by simp[aS,m0,m1,c0,c1])
      go_enter Tryz.func107,Tryz.ntmps107
      go_wp2_with (go_at_call 63;refine(al _ _ _ _).mono ?_;rintro e w' ⟨rfl,rfl⟩)
      go_ret
      exact⟨af (aa hq).symm,(aL)⟩
  ·cases c0:(k==0)
   ·have hq:Hid (aS t k v n=false):=ab (by simp[aS,m0,c0])
    go_enter Tryz.func107,Tryz.ntmps107
    go_wp2_with (go_at_call 63;refine(al _ _ _ _).mono ?_;rintro e w' ⟨rfl,rfl⟩)
    go_ret
    exact⟨af (aa hq).symm,(aL)⟩
   ·cases c1:(v==0)
    ·have hq:Hid (aS t k v n=false):=ab (by simp[aS,m0,c0,c1])
     go_enter Tryz.func107,Tryz.ntmps107
     go_wp2_with (go_at_call 63;refine(al _ _ _ _).mono ?_;rintro e w' ⟨rfl,rfl⟩)
     go_ret
     exact⟨af (aa hq).symm,(aL)⟩
    ·have hq:Hid (aS t k v n=(n==0)):=ab (by simp[aS,m0,c0,c1])
     go_enter Tryz.func107,Tryz.ntmps107
     go_wp2_with (go_at_call 63;refine(al _ _ _ _).mono ?_;rintro e w' ⟨rfl,rfl⟩)
     go_ret
     exact⟨af (aa hq).symm,(aL)⟩
 have g1:(q==1)=false:=by simpa using h1
 have g2:(q==2)=false:=by simpa using h2
 by_cases h3:q=3
 ·subst h3
  rw[okItm_3,←okWall_eq]
  clear g1 g2
  cases c0:(t==0)
  ·have hq:Hid (da t k v n=false):=ab (by simp[da,c0])
   go_enter Tryz.func107,Tryz.ntmps107
   go_wp2_with (go_at_call 63;refine(al _ _ _ _).mono ?_;rintro e w' ⟨rfl,rfl⟩)
   go_ret
   exact⟨af (aa hq).symm,(aL)⟩
  ·cases c1:(k==0)
   ·have hq:Hid (da t k v n=false):=ab (by simp[da,c0,c1])
    go_enter Tryz.func107,Tryz.ntmps107
    go_wp2_with (go_at_call 63;refine(al _ _ _ _).mono ?_;rintro e w' ⟨rfl,rfl⟩)
    go_ret
    exact⟨af (aa hq).symm,(aL)⟩
   ·cases c2:(v==0)
    ·have hq:Hid (da t k v n=false):=ab (by simp[da,c0,c1,c2])
     go_enter Tryz.func107,Tryz.ntmps107
     go_wp2_with (go_at_call 63;refine(al _ _ _ _).mono ?_;rintro e w' ⟨rfl,rfl⟩)
     go_ret
     exact⟨af (aa hq).symm,(aL)⟩
    ·have hq:Hid (da t k v n=aP n 1 900):=ab (by simp[da,c0,c1,c2])
     go_enter Tryz.func107,Tryz.ntmps107
     go_wp2_with (go_at_call 63;refine(al _ _ _ _).mono ?_;rintro e w' ⟨rfl,rfl⟩)
     go_ret
     exact⟨af (aa hq).symm,(aL)⟩
 have g3:(q==3)=false:=by simpa using h3
 have hq:Hid (cN q t k v n=false):=ab (jl h1 h2 h3 t k v n)
 clear h1 h2 h3
 go_enter Tryz.func107,Tryz.ntmps107
 go_wp2_with (go_at_call 63;refine(al _ _ _ _).mono ?_;rintro e w' ⟨rfl,rfl⟩)
 go_ret
 exact⟨af (aa hq).symm,(aL)⟩
/-- The interface value that an item is, by its kind. -/
def cm(q t k v n:Int):Value:= .iface (if q=1 then 218 else if q=2 then 252 else if q=3 then 253 else 254) (.agg #[.int .i64 q,.int .i64 t,.int .i64 k,.int .i64 v,.int .i64 n])
theorem cJ(q t k v n:Int)(w:World):Calls Tryz.prog 140 #[.agg #[.int .i64 q,.int .i64 t,.int .i64 k,.int .i64 v,.int .i64 n]] w fun e w'=>e= .returned (cm q t k v n)∧Below w.heap.size w w':=by
 by_cases h1:q=1
 ·subst h1
  go_enter Tryz.func140,Tryz.ntmps140
  go_wp2
  go_ret
  exact⟨rfl,(aL)⟩
 by_cases h2:q=2
 ·subst h2
  go_enter Tryz.func140,Tryz.ntmps140
  go_wp2
  go_ret
  exact⟨rfl,(aL)⟩
 by_cases h3:q=3
 ·subst h3
  go_enter Tryz.func140,Tryz.ntmps140
  go_wp2
  go_ret
  exact⟨rfl,(aL)⟩
 have hq:Hid (cm q t k v n= .iface 254 (.agg #[.int .i64 q,.int .i64 t,.int .i64 k,.int .i64 v,.int .i64 n])):=ab (by unfold cm;rw[if_neg h1,if_neg h2,if_neg h3])
 have g1:(q==1)=false:=by simpa using h1
 have g2:(q==2)=false:=by simpa using h2
 have g3:(q==3)=false:=by simpa using h3
 clear h1 h2 h3
 go_enter Tryz.func140,Tryz.ntmps140
 go_wp2
 go_ret
 exact⟨by rw[aa hq];rfl,(aL)⟩
theorem dP(q t k v n:Int)(w:World):Calls Tryz.prog 190 #[.agg #[.int .i64 q,.int .i64 t,.int .i64 k,.int .i64 v,.int .i64 n]] w fun e w'=>e= .returned (.bool (cN q t k v n))∧Below w.heap.size w w':=by
 by_cases h1:q=1
 ·subst h1
  rw[jj]
  have hp:cm 1 t k v n= .iface 218 (.agg #[.int .i64 1,.int .i64 t,.int .i64 k,.int .i64 v,.int .i64 n]):=rfl
  have hm : ∀ w : World, (method 389 218 (.agg #[.int .i64 1, .int .i64 t, .int .i64 k, .int .i64 v, .int .i64 n]) "loop.example/freshet/impl.ok").run Tryz.prog w = .ok (185, .agg #[.int .i64 1, .int .i64 t, .int .i64 k, .int .i64 v, .int .i64 n]) w := fun _ => by kernel_rfl
  go_enter Tryz.func190,Tryz.ntmps190
  go_wp2_with (first
   |(go_at_call 140;refine(cJ _ _ _ _ _ _).mono ?_;rintro e w' ⟨rfl,hb⟩)
   |(go_at_call 185;refine(iV _ _ _ _ _ _).mono ?_;rintro e w' ⟨rfl,hb⟩))
  go_ret
  exact⟨rfl,(aL)⟩
 by_cases h2:q=2
 ·subst h2
  rw[jk]
  have hp:cm 2 t k v n= .iface 252 (.agg #[.int .i64 2,.int .i64 t,.int .i64 k,.int .i64 v,.int .i64 n]):=rfl
  have hm : ∀ w : World, (method 389 252 (.agg #[.int .i64 2, .int .i64 t, .int .i64 k, .int .i64 v, .int .i64 n]) "loop.example/freshet/impl.ok").run Tryz.prog w = .ok (186, .agg #[.int .i64 2, .int .i64 t, .int .i64 k, .int .i64 v, .int .i64 n]) w := fun _ => by kernel_rfl
  go_enter Tryz.func190,Tryz.ntmps190
  go_wp2_with (first
   |(go_at_call 140;refine(cJ _ _ _ _ _ _).mono ?_;rintro e w' ⟨rfl,hb⟩)
   |(go_at_call 186;refine(fO _ _ _ _ _ _).mono ?_;rintro e w' ⟨rfl,hb⟩))
  go_ret
  exact⟨rfl,(aL)⟩
 by_cases h3:q=3
 ·subst h3
  rw[okItm_3]
  have hp:cm 3 t k v n= .iface 253 (.agg #[.int .i64 3,.int .i64 t,.int .i64 k,.int .i64 v,.int .i64 n]):=rfl
  have hm : ∀ w : World, (method 389 253 (.agg #[.int .i64 3, .int .i64 t, .int .i64 k, .int .i64 v, .int .i64 n]) "loop.example/freshet/impl.ok").run Tryz.prog w = .ok (226, .agg #[.int .i64 3, .int .i64 t, .int .i64 k, .int .i64 v, .int .i64 n]) w := fun _ => by kernel_rfl
  go_enter Tryz.func190,Tryz.ntmps190
  go_wp2_with (first
   |(go_at_call 140;refine(cJ _ _ _ _ _ _).mono ?_;rintro e w' ⟨rfl,hb⟩)
   |(go_at_call 226;refine(wallok_any _ _ _ _ _ _).mono ?_;rintro e w' ⟨rfl,hb⟩))
  go_ret
  exact⟨rfl,(aL)⟩
 have hq:Hid (cN q t k v n=false):=ab (jl h1 h2 h3 t k v n)
 have hr:cm q t k v n= .iface 254 (.agg #[.int .i64 q,.int .i64 t,.int .i64 k,.int .i64 v,.int .i64 n]):=by unfold cm;rw[if_neg h1,if_neg h2,if_neg h3]
 clear h1 h2 h3
 have hp:cm q t k v n= .iface 254 (.agg #[.int .i64 q,.int .i64 t,.int .i64 k,.int .i64 v,.int .i64 n]):=hr
 have hm : ∀ w : World, (method 389 254 (.agg #[.int .i64 q, .int .i64 t, .int .i64 k, .int .i64 v, .int .i64 n]) "loop.example/freshet/impl.ok").run Tryz.prog w = .ok (228, .agg #[.int .i64 q, .int .i64 t, .int .i64 k, .int .i64 v, .int .i64 n]) w := fun _ => by kernel_rfl
 go_enter Tryz.func190,Tryz.ntmps190
 go_wp2_with (first
  |(go_at_call 140;refine(cJ _ _ _ _ _ _).mono ?_;rintro e w' ⟨rfl,hb⟩)
  |(go_at_call 228;refine(noneok_any _ _ _ _ _ _).mono ?_;rintro e w' ⟨rfl,hb⟩))
 go_ret
 exact⟨af (aa hq).symm,(aL)⟩
end Go.Proofs.YtealpjmannopeaaGreat
namespace Go.Proofs.YtealpjmannopeaaGreat
open Go.ChangeShapes Go.WideShapes Go.ChangeAt Go.RowKit Go.Deep
/-- An item as five numbers. -/
structure It where
 q:Int
 t:Int
 k:Int
 v:Int
 n:Int
/-- An item lies in five cells. -/
def ItAt(W:World)(g o:Nat)(x:It):Prop:=
 W.cell? ⟨g,o,none⟩=some (.int .i64 x.q)∧W.cell? ⟨g,o+1,none⟩=some (.int .i64 x.t)∧W.cell? ⟨g,o+2,none⟩=some (.int .i64 x.k)∧W.cell? ⟨g,o+3,none⟩=some (.int .i64 x.v)∧W.cell? ⟨g,o+4,none⟩=some (.int .i64 x.n)
theorem ItAt.get{W:World}{g o:Nat}{q t k v n:Int}(h:ItAt W g o ⟨q,t,k,v,n⟩):
  W.cell? ⟨g,o,none⟩=some (.int .i64 q)∧W.cell? ⟨g,o+1,none⟩=some (.int .i64 t)∧W.cell? ⟨g,o+2,none⟩=some (.int .i64 k)∧W.cell? ⟨g,o+3,none⟩=some (.int .i64 v)∧W.cell? ⟨g,o+4,none⟩=some (.int .i64 n):=h
/-- Items lie one behind the other. -/
def iW(W:World)(g o:Nat)(xs:List It):Prop:=∀i x,xs[i]? =some x→ItAt W g (o+i*5) x
/-- A slice's value holds items. -/
def Its(W:World)(a:Option Addr)(len:Nat)(xs:List It):Prop:=
 xs.length=len∧len≤maxLen∧(len=0∨∃g o,a=some ⟨g,o,none⟩∧iW W g o xs)
theorem iW.lt{W:World}{g o:Nat}{xs:List It}(h:iW W g o xs)(hp:0<xs.length):g<W.heap.size:=by
 obtain⟨h0,_⟩:=h 0 xs[0] (List.getElem?_eq_getElem hp)
 rcases Nat.lt_or_ge g W.heap.size with hl|hg
 ·exact hl
 ·simp[World.cell?,Array.getElem?_eq_none hg]at h0
theorem ItAt.below{W W':World}{B g o:Nat}{x:It}(h:ItAt W g o x)(hb:Below B W W')(hg:g<B):ItAt W' g o x:=by
 obtain⟨h0,h1,h2,h3,h4⟩:=h
 exact⟨(hb.cell (p:=⟨g,_,none⟩) hg).trans h0,(hb.cell (p:=⟨g,_,none⟩) hg).trans h1,(hb.cell (p:=⟨g,_,none⟩) hg).trans h2,(hb.cell (p:=⟨g,_,none⟩) hg).trans h3,(hb.cell (p:=⟨g,_,none⟩) hg).trans h4⟩
theorem iW.below{W W':World}{B g o:Nat}{xs:List It}(h:iW W g o xs)(hb:Below B W W')(hg:0<xs.length→g<B):iW W' g o xs:=by
 intro i x hx
 have hlt:i<xs.length:=(List.getElem?_eq_some_iff.1 hx).1
 exact(h i x hx).below hb (hg (by omega))
theorem Its.below{W W':World}{a:Option Addr}{len:Nat}{xs:List It}(h:Its W a len xs)(hb:Below W.heap.size W W'):Its W' a len xs:=by
 obtain⟨h1,h2,h3⟩:=h
 refine⟨h1,h2,?_⟩
 rcases h3 with h3|⟨g,o,ha,hr⟩
 ·exact Or.inl h3
 ·exact Or.inr ⟨g,o,ha,hr.below hb (fun hp=>hr.lt hp)⟩
end Go.Proofs.YtealpjmannopeaaGreat
namespace Go.Proofs.YtealpjmannopeaaGreat
open Go.ChangeShapes Go.WideShapes Go.ChangeAt Go.RowKit
theorem Tryz.infoItm:(Tryz.prog.info? 101).map (fun i=>(i.zero,i.size,i.bytes))=some (some (.agg #[.int .i64 0,.int .i64 0,.int .i64 0,.int .i64 0,.int .i64 0]),5,40):=by kernel_rfl
/-- Whether an item is ok. -/
def It.okB(x:It):Bool:=cN x.q x.t x.k x.v x.n
/-- Whether the end of a log is one, behind a mark. -/
def cO:List It→Int→Bool
 | [],_=>true
 |x :: r,m=>x.okB&& !(x.q==3)&&(if x.q=2 then decide (m<x.t)&&cO r x.t else cO r m)
/-- Whether an item is the mark of the end. -/
def It.endB(x:It):Bool:=x.q==2&&x.t==1000&&x.k==0&&x.v==0&&x.n==0
/-- Whether items are a log. -/
def bu(xs:List It):Bool:=aP xs.length 1 40&&(match xs.getLast? with|some x=>x.endB|none=>false)&&cO xs 0
theorem logGo_drop{xs:List It}{k:Nat}{q t kk v nn:Int}(h:xs[k]? =some ⟨q,t,kk,v,nn⟩)(m:Int):cO (xs.drop k) m=(cN q t kk v nn&& !(q==3)&&(if q=2 then decide (m<t)&&cO (xs.drop (k+1)) t else cO (xs.drop (k+1)) m)):=by
 obtain⟨hk,he⟩:=List.getElem?_eq_some_iff.1 h
 rw[List.drop_eq_getElem_cons hk,he]
 rfl
set_option maxHeartbeats 1000000 in
theorem speclog_any(a:Option Addr)(len cap:Nat)(xs:List It)(w:World)(h:Its w a len xs):Calls Tryz.prog 62 #[.slice a len cap] w fun e w'=>e= .returned (.bool (bu xs))∧Below w.heap.size w w':=by
 have hm:=h.2.1
 unfold maxLen at hm
 cases hin:aP (len:Int) 1 40
 ·have hq:Hid (bu xs=false):=ab (by have:=h.1;subst this;simp[bu,hin])
  go_enter Tryz.func62,Tryz.ntmps62
  go_wp2_with (go_at_call 63;refine(al _ _ _ _).mono ?_;rintro e w' ⟨rfl,hw⟩;obtain rfl:=hw.symm)
  go_ret
  exact⟨af (aa hq).symm,Below.refl _ _⟩
 ·obtain⟨hb1,hb2⟩:=aZ.1 hin
  obtain⟨n,rfl⟩:∃n,len=n+1:=⟨len - 1,by omega⟩
  obtain⟨hxl,_,hx⟩:=h
  obtain⟨g,o,rfl,hr⟩:=hx.resolve_left (by omega)
  obtain⟨y,hy⟩:∃y,xs[n]? =some y:=⟨_,List.getElem?_eq_getElem (by omega)⟩
  have hg:g<w.heap.size:=hr.lt (by omega)
  obtain⟨c0,c1,c2,c3,c4⟩:=hr n _ hy
  clear hx
  have hlast:xs.getLast? =some y:=by rw[List.getLast?_eq_getElem?];simpa[hxl]using hy
  have H0:Hid (bu xs=(y.endB&&cO xs 0)):=ab (by unfold bu;rw[hlast,hxl,hin];rfl)
  have H1:Hid (aP ((n:Int)+1) 1 40=true):=ab (by have:=hin;simpa using this)
  clear hlast hy hin
  by_cases e0:y.q=2
  case neg=>
   have hq:Hid (bu xs=false):=ab (by rw[aa H0];simp[It.endB,e0])
   have h7:=aa H1
   go_enter Tryz.func62,Tryz.ntmps62
   go_wp2_with (go_at_call 63;refine(al _ _ _ _).mono ?_;rintro e w' ⟨rfl,hw⟩;obtain rfl:=hw.symm)
   go_ret
   exact⟨af (aa hq).symm,Below.refl _ _⟩
  by_cases e1:y.t=1000
  case neg=>
   have hq:Hid (bu xs=false):=ab (by rw[aa H0];simp[It.endB,e0,e1])
   have h7:=aa H1
   go_enter Tryz.func62,Tryz.ntmps62
   go_wp2_with (go_at_call 63;refine(al _ _ _ _).mono ?_;rintro e w' ⟨rfl,hw⟩;obtain rfl:=hw.symm)
   go_ret
   exact⟨af (aa hq).symm,Below.refl _ _⟩
  by_cases e2:y.k=0
  case neg=>
   have hq:Hid (bu xs=false):=ab (by rw[aa H0];simp[It.endB,e0,e1,e2])
   have h7:=aa H1
   go_enter Tryz.func62,Tryz.ntmps62
   go_wp2_with (go_at_call 63;refine(al _ _ _ _).mono ?_;rintro e w' ⟨rfl,hw⟩;obtain rfl:=hw.symm)
   go_ret
   exact⟨af (aa hq).symm,Below.refl _ _⟩
  by_cases e3:y.v=0
  case neg=>
   have hq:Hid (bu xs=false):=ab (by rw[aa H0];simp[It.endB,e0,e1,e2,e3])
   have h7:=aa H1
   go_enter Tryz.func62,Tryz.ntmps62
   go_wp2_with (go_at_call 63;refine(al _ _ _ _).mono ?_;rintro e w' ⟨rfl,hw⟩;obtain rfl:=hw.symm)
   go_ret
   exact⟨af (aa hq).symm,Below.refl _ _⟩
  by_cases e4:y.n=0
  case neg=>
   have hq:Hid (bu xs=false):=ab (by rw[aa H0];simp[It.endB,e0,e1,e2,e3,e4])
   have h7:=aa H1
   go_enter Tryz.func62,Tryz.ntmps62
   go_wp2_with (go_at_call 63;refine(al _ _ _ _).mono ?_;rintro e w' ⟨rfl,hw⟩;obtain rfl:=hw.symm)
   go_ret
   exact⟨af (aa hq).symm,Below.refl _ _⟩
  have HL:Hid (bu xs=cO xs 0):=ab (by rw[aa H0];simp[It.endB,e0,e1,e2,e3,e4])
  have h7:=aa H1
  go_enter Tryz.func62,Tryz.ntmps62
  go_wp2_with (go_at_call 63;refine(al _ _ _ _).mono ?_;rintro e w' ⟨rfl,hw⟩;obtain rfl:=hw.symm)
  go_loopw [3,4] (fun m i wr=>∃(k:Nat) (mk:Int),k≤n+1∧i= .int .i64 k∧m= .int .i64 mk∧Hid (cO xs 0=cO (xs.drop k) mk)∧Below w.heap.size w wr) (fun _ i _=>n+1 - (intOf i).toNat)
  case atStart=>exact⟨0,0,Nat.zero_le _,rfl,rfl,ab (by rw[List.drop_zero]),Below.refl _ _⟩
  case round=>
   obtain⟨k,mk,hk,rfl,rfl,hlg,hbw⟩:=hrel
   by_cases hlt:k<n+1
   ·obtain⟨x,hxk⟩:∃x,xs[k]? =some x:=⟨_,List.getElem?_eq_getElem (by omega)⟩
    obtain⟨q,t,kk,v,nn⟩:=x
    obtain⟨d0,d1,d2,d3,d4⟩:=((hr k _ hxk).below hbw hg).get
    have hgr:g<wr.heap.size:=Nat.lt_of_lt_of_le hg hbw.size
    have hst:=ab (logGo_drop hxk mk)
    clear hxk c0 c1 c2 c3 c4 e0 e1 e2 e3 e4
    cases ho:cN q t kk v nn
    ·have hq:Hid (bu xs=false):=ab (by rw[aa HL,aa hlg,aa hst,ho];rfl)
     go_wp2_with (go_at_call 107;refine(bi _ _ _ _ _ _).mono ?_;rintro e w' ⟨rfl,hb⟩;obtain⟨hc,hf,hs⟩:=ac hb)
     go_ret
     exact⟨af (aa hq).symm,ae hbw hb⟩
    by_cases h3:q=3
    ·subst h3
     have hq:Hid (bu xs=false):=ab (by rw[aa HL,aa hlg,aa hst,ho];rfl)
     go_wp2_with (go_at_call 107;refine(bi _ _ _ _ _ _).mono ?_;rintro e w' ⟨rfl,hb⟩;obtain⟨hc,hf,hs⟩:=ac hb)
     go_ret
     exact⟨af (aa hq).symm,ae hbw hb⟩
    have g3:(q==3)=false:=by simpa using h3
    by_cases h2:q=2
    ·subst h2
     clear h3 g3
     by_cases h4:t≤mk
     ·have hq:Hid (bu xs=false):=ab (by rw[aa HL,aa hlg,aa hst,ho,if_pos rfl,decide_eq_false (by omega)];rfl)
      go_wp2_with (go_at_call 107;refine(bi _ _ _ _ _ _).mono ?_;rintro e w' ⟨rfl,hb⟩;obtain⟨hc,hf,hs⟩:=ac hb)
      go_ret
      exact⟨af (aa hq).symm,ae hbw hb⟩
     ·have hq:Hid (cO xs 0=cO (xs.drop (k+1)) t):=ab (by rw[aa hlg,aa hst,ho,if_pos rfl,decide_eq_true (by omega)];rfl)
      go_wp2_with (go_at_call 107;refine(bi _ _ _ _ _ _).mono ?_;rintro e w' ⟨rfl,hb⟩;obtain⟨hc,hf,hs⟩:=ac hb)
      go_roundw
      case rel=>exact⟨k+1,t,by omega,by go_num,rfl,hq,ae hbw hb⟩
      case measure=>simp[intOf];omega
    ·have hq:Hid (cO xs 0=cO (xs.drop (k+1)) mk):=ab (by rw[aa hlg,aa hst,ho,g3,if_neg h2];rfl)
     have g2:(q==2)=false:=by simpa using h2
     clear h2 h3
     go_wp2_with (go_at_call 107;refine(bi _ _ _ _ _ _).mono ?_;rintro e w' ⟨rfl,hb⟩;obtain⟨hc,hf,hs⟩:=ac hb)
     go_roundw
     case rel=>exact⟨k+1,mk,by omega,by go_num,rfl,hq,ae hbw hb⟩
     case measure=>simp[intOf];omega
   ·have hq:Hid (bu xs=true):=ab (by rw[aa HL,aa hlg,List.drop_of_length_le (by omega)];rfl)
    go_wp2
    go_ret
    exact⟨af (aa hq).symm,hbw⟩
/-- A task. -/
structure TkD where
 ins:List bH
 rows:List bK
 panes:List cx
 lates:List cq
/-- A task lies in memory, all of it in blocks that are not below B. -/
structure TkIs(W:World)(B:Nat)(ia:Option Addr)(il:Nat)(oa:Option Addr)(ol:Nat)(pa:Option Addr)(pl:Nat)(la:Option Addr)(ll:Nat)(d:TkD):Prop where
 ins:dc W B ia il d.ins
 rows:dN W B oa ol d.rows
 panes:cQ W B pa pl d.panes
 lates:cS W B la ll d.lates
/-- The least mark; how many are held. -/
def ci(l:List bH):Int:=l.foldl (fun m x=>if x.ma<m then x.ma else m) 1000
def aY(l:List bH):Int:=l.foldl (fun n x=>if x.hd then n+1 else n) 0
theorem fu{xs:List bH}{k:Nat}{x:bH}(h:xs[k]? =some x):ci (xs.take (k+1))=if x.ma<ci (xs.take k)then x.ma else ci (xs.take k):=by
 rw[List.take_add_one,h]
 unfold ci
 rw[List.foldl_append]
 rfl
theorem ij{xs:List bH}{k:Nat}{x:bH}(h:xs[k]? =some x):aY (xs.take (k+1))=if x.hd then aY (xs.take k)+1 else aY (xs.take k):=by
 rw[List.take_add_one,h]
 unfold aY
 rw[List.foldl_append]
 rfl
theorem ik(l:List bH):0≤aY l∧aY l≤l.length:=by
 have:∀(l:List bH) (n:Int),n≤l.foldl (fun n x=>if x.hd then n+1 else n) n∧l.foldl (fun n x=>if x.hd then n+1 else n) n≤n+l.length:=by
  intro l
  induction l with
  |nil=>intro n;simp
  |cons x r ih=>
   intro n
   rw[List.foldl_cons,List.length_cons]
   cases hx:x.hd
   ·have:=ih n
    simp only[Bool.false_eq_true,if_false]
    omega
   ·have:=ih (n+1)
    simp only[if_true]
    omega
 have:=this l 0
 simp only[aY]
 omega
set_option maxRecDepth 20000 in
set_option maxHeartbeats 1000000 in
theorem gz(ia:Option Addr)(il ic:Nat)(om:Int)(oa:Option Addr)(ol oc:Nat)(wl pn:Int)(pa:Option Addr)(pl pc:Nat)(la:Option Addr)(ll lc:Nat)(B:Nat)(d:List bH)(w:World)(h:dc w B ia il d):Calls Tryz.prog 112 #[.agg #[.slice ia il ic,.int .i64 om,.slice oa ol oc,.int .i64 wl,.int .i64 pn,.slice pa pl pc,.slice la ll lc]] w fun e w'=>e= .returned (.int .i64 (ci d))∧Below w.heap.size w w':=by
 have hm:=h.2.1
 unfold maxLen at hm
 have h0:=h.below (ai w (.cells #[.slice ia il ic,.int .i64 om,.slice oa ol oc,.int .i64 wl,.int .i64 pn,.slice pa pl pc,.slice la ll lc] 140))
 go_enter Tryz.func112,Tryz.ntmps112
 go_wp2
 go_loop [3,4] (fun m i=>∃k:Nat,k≤il∧i= .int .i64 k∧m= .int .i64 (ci (d.take k))) (fun _ i=>il - (intOf i).toNat)
 case atStart=>exact⟨0,Nat.zero_le _,rfl,rfl⟩
 case round=>
  obtain⟨k,hk,rfl,rfl⟩:=hrel
  by_cases hlt:k<il
  ·obtain⟨hxl,hml,hx⟩:=h0
   obtain⟨g,o,rfl,_,hr⟩:=hx.resolve_left (by omega)
   obtain⟨x,hxk⟩:∃x,d[k]? =some x:=⟨_,List.getElem?_eq_getElem (by omega)⟩
   obtain⟨qa,ql,qc,c0,c1,c2,hqi,_⟩:=hr k _ hxk
   clear hx hr hqi h
   by_cases hq:x.ma<ci (d.take k)
   ·have HS:Hid (ci (d.take (k+1))=x.ma):=(fu hxk).trans (if_pos hq)
    clear hxk
    generalize ci (d.take k)=lo at*
    go_wp2
    go_round
    case rel=>exact⟨k+1,by omega,by go_num,by first|(rw[HS.out];done)|(rw[HS.out];go_num)⟩
    case measure=>simp[intOf];omega
   ·have HS:Hid (ci (d.take (k+1))=ci (d.take k)):=(fu hxk).trans (if_neg hq)
    clear hxk
    generalize ci (d.take k)=lo at*
    go_wp2
    go_round
    case rel=>exact⟨k+1,by omega,by go_num,by first|(rw[HS.out];done)|(rw[HS.out];go_num)⟩
    case measure=>simp[intOf];omega
  ·obtain rfl:k=il:=by omega
   have HE:Hid (ci (d.take k)=ci d):=by rw[List.take_of_length_le (by have:=h.1;omega)];exact rfl
   generalize ci (d.take k)=lo at*
   go_wp2
   go_ret
   exact⟨db HE.out,(ak)⟩
set_option maxRecDepth 20000 in
set_option maxHeartbeats 1000000 in
theorem dQ(ia:Option Addr)(il ic:Nat)(om:Int)(oa:Option Addr)(ol oc:Nat)(wl pn:Int)(pa:Option Addr)(pl pc:Nat)(la:Option Addr)(ll lc:Nat)(B:Nat)(d:List bH)(w:World)(h:dc w B ia il d):Calls Tryz.prog 168 #[.agg #[.slice ia il ic,.int .i64 om,.slice oa ol oc,.int .i64 wl,.int .i64 pn,.slice pa pl pc,.slice la ll lc]] w fun e w'=>e= .returned (.int .i64 (ci d))∧Below w.heap.size w w':=by
 have hm:=h.2.1
 unfold maxLen at hm
 have h0:=h.below (ai w (.cells #[.slice ia il ic,.int .i64 om,.slice oa ol oc,.int .i64 wl,.int .i64 pn,.slice pa pl pc,.slice la ll lc] 140))
 go_enter Tryz.func168,Tryz.ntmps168
 go_wp2
 go_loopw [3,9] (fun m i wr=>∃k:Nat,k≤il∧i= .int .i64 k∧m= .int .i64 (ci (d.take k))∧Below (w.alloc (.cells #[.slice ia il ic,.int .i64 om,.slice oa ol oc,.int .i64 wl,.int .i64 pn,.slice pa pl pc,.slice la ll lc] 140)).heap.size (w.alloc (.cells #[.slice ia il ic,.int .i64 om,.slice oa ol oc,.int .i64 wl,.int .i64 pn,.slice pa pl pc,.slice la ll lc] 140)) wr) (fun _ i _=>il - (intOf i).toNat)
 case atStart=>exact⟨0,Nat.zero_le _,rfl,rfl,Below.refl _ _⟩
 case round=>
  obtain⟨k,hk,rfl,rfl,hbw⟩:=hrel
  by_cases hlt:k<il
  ·obtain⟨hxl,hml,hx⟩:=h0
   obtain⟨g,o,rfl,_,hr⟩:=hx.resolve_left (by omega)
   obtain⟨x,hxk⟩:∃x,d[k]? =some x:=⟨_,List.getElem?_eq_getElem (by omega)⟩
   obtain⟨qa,ql,qc,c0,c1,c2,hqi,_⟩:=(hr k _ hxk).below hbw
   clear hx hr hqi h
   by_cases hq:x.ma<ci (d.take k)
   ·have HS:Hid (ci (d.take (k+1))=x.ma):=(fu hxk).trans (if_pos hq)
    clear hxk
    generalize ci (d.take k)=lo at*
    go_wp2
    go_roundw
    case rel=>exact⟨k+1,by omega,by go_num,by first|(rw[HS.out];done)|(rw[HS.out];go_num),(ak)⟩
    case measure=>simp[intOf];omega
   ·have HS:Hid (ci (d.take (k+1))=ci (d.take k)):=(fu hxk).trans (if_neg hq)
    clear hxk
    generalize ci (d.take k)=lo at*
    go_wp2
    go_roundw
    case rel=>exact⟨k+1,by omega,by go_num,by first|(rw[HS.out];done)|(rw[HS.out];go_num),(ak)⟩
    case measure=>simp[intOf];omega
  ·obtain rfl:k=il:=by omega
   have HE:Hid (ci (d.take k)=ci d):=by rw[List.take_of_length_le (by have:=h.1;omega)];exact rfl
   generalize ci (d.take k)=lo at*
   go_wp2
   go_ret
   exact⟨db HE.out,(ak)⟩
set_option maxRecDepth 20000 in
set_option maxHeartbeats 1000000 in
theorem ec(ia:Option Addr)(il ic:Nat)(om:Int)(oa:Option Addr)(ol oc:Nat)(wl pn:Int)(pa:Option Addr)(pl pc:Nat)(la:Option Addr)(ll lc:Nat)(B:Nat)(d:List bH)(w:World)(h:dc w B ia il d):Calls Tryz.prog 111 #[.agg #[.slice ia il ic,.int .i64 om,.slice oa ol oc,.int .i64 wl,.int .i64 pn,.slice pa pl pc,.slice la ll lc]] w fun e w'=>e= .returned (.int .i64 (aY d))∧Below w.heap.size w w':=by
 have hm:=h.2.1
 unfold maxLen at hm
 have h0:=h.below (ai w (.cells #[.slice ia il ic,.int .i64 om,.slice oa ol oc,.int .i64 wl,.int .i64 pn,.slice pa pl pc,.slice la ll lc] 140))
 go_enter Tryz.func111,Tryz.ntmps111
 go_wp2
 go_loop [3,4] (fun m i=>∃k:Nat,k≤il∧i= .int .i64 k∧m= .int .i64 (aY (d.take k))) (fun _ i=>il - (intOf i).toNat)
 case atStart=>exact⟨0,Nat.zero_le _,rfl,rfl⟩
 case round=>
  obtain⟨k,hk,rfl,rfl⟩:=hrel
  by_cases hlt:k<il
  ·obtain⟨hxl,hml,hx⟩:=h0
   obtain⟨g,o,rfl,_,hr⟩:=hx.resolve_left (by omega)
   obtain⟨x,hxk⟩:∃x,d[k]? =some x:=⟨_,List.getElem?_eq_getElem (by omega)⟩
   obtain⟨qa,ql,qc,c0,c1,c2,hqi,_⟩:=hr k _ hxk
   clear hx hr hqi h
   have hbd:=ik (d.take k)
   have hbl:(d.take k).length≤k:=List.length_take_le _ _
   have hsn:=ij hxk
   clear hxk
   obtain⟨q,ma,hd⟩:=x
   cases hd
   ·have HS:Hid (aY (d.take (k+1))=aY (d.take k)):=ab (by simpa using hsn)
    clear hsn
    generalize aY (d.take k)=lo at*
    go_wp2
    go_round
    case rel=>exact⟨k+1,by omega,by go_num,by first|(rw[HS.out];done)|(rw[HS.out];go_num)⟩
    case measure=>simp[intOf];omega
   ·have HS:Hid (aY (d.take (k+1))=aY (d.take k)+1):=ab (by simpa using hsn)
    clear hsn
    generalize aY (d.take k)=lo at*
    go_wp2
    go_round
    case rel=>exact⟨k+1,by omega,by go_num,by first|(rw[HS.out];done)|(rw[HS.out];go_num)⟩
    case measure=>simp[intOf];omega
  ·obtain rfl:k=il:=by omega
   have HE:Hid (aY (d.take k)=aY d):=by rw[List.take_of_length_le (by have:=h.1;omega)];exact rfl
   generalize aY (d.take k)=lo at*
   go_wp2
   go_ret
   exact⟨db HE.out,(ak)⟩
set_option maxRecDepth 20000 in
set_option maxHeartbeats 1000000 in
theorem fH(ia:Option Addr)(il ic:Nat)(om:Int)(oa:Option Addr)(ol oc:Nat)(wl pn:Int)(pa:Option Addr)(pl pc:Nat)(la:Option Addr)(ll lc:Nat)(B:Nat)(d:List bH)(w:World)(h:dc w B ia il d):Calls Tryz.prog 166 #[.agg #[.slice ia il ic,.int .i64 om,.slice oa ol oc,.int .i64 wl,.int .i64 pn,.slice pa pl pc,.slice la ll lc]] w fun e w'=>e= .returned (.int .i64 (aY d))∧Below w.heap.size w w':=by
 have hm:=h.2.1
 unfold maxLen at hm
 have h0:=h.below (ai w (.cells #[.slice ia il ic,.int .i64 om,.slice oa ol oc,.int .i64 wl,.int .i64 pn,.slice pa pl pc,.slice la ll lc] 140))
 go_enter Tryz.func166,Tryz.ntmps166
 go_wp2
 go_loopw [3,9] (fun m i wr=>∃k:Nat,k≤il∧i= .int .i64 k∧m= .int .i64 (aY (d.take k))∧Below (w.alloc (.cells #[.slice ia il ic,.int .i64 om,.slice oa ol oc,.int .i64 wl,.int .i64 pn,.slice pa pl pc,.slice la ll lc] 140)).heap.size (w.alloc (.cells #[.slice ia il ic,.int .i64 om,.slice oa ol oc,.int .i64 wl,.int .i64 pn,.slice pa pl pc,.slice la ll lc] 140)) wr) (fun _ i _=>il - (intOf i).toNat)
 case atStart=>exact⟨0,Nat.zero_le _,rfl,rfl,Below.refl _ _⟩
 case round=>
  obtain⟨k,hk,rfl,rfl,hbw⟩:=hrel
  by_cases hlt:k<il
  ·obtain⟨hxl,hml,hx⟩:=h0
   obtain⟨g,o,rfl,_,hr⟩:=hx.resolve_left (by omega)
   obtain⟨x,hxk⟩:∃x,d[k]? =some x:=⟨_,List.getElem?_eq_getElem (by omega)⟩
   obtain⟨qa,ql,qc,c0,c1,c2,hqi,_⟩:=(hr k _ hxk).below hbw
   clear hx hr hqi h
   have hbd:=ik (d.take k)
   have hbl:(d.take k).length≤k:=List.length_take_le _ _
   have hsn:=ij hxk
   clear hxk
   obtain⟨q,ma,hd⟩:=x
   cases hd
   ·have HS:Hid (aY (d.take (k+1))=aY (d.take k)):=ab (by simpa using hsn)
    clear hsn
    generalize aY (d.take k)=lo at*
    go_wp2
    go_roundw
    case rel=>exact⟨k+1,by omega,by go_num,by first|(rw[HS.out];done)|(rw[HS.out];go_num),(ak)⟩
    case measure=>simp[intOf];omega
   ·have HS:Hid (aY (d.take (k+1))=aY (d.take k)+1):=ab (by simpa using hsn)
    clear hsn
    generalize aY (d.take k)=lo at*
    go_wp2
    go_roundw
    case rel=>exact⟨k+1,by omega,by go_num,by first|(rw[HS.out];done)|(rw[HS.out];go_num),(ak)⟩
    case measure=>simp[intOf];omega
  ·obtain rfl:k=il:=by omega
   have HE:Hid (aY (d.take k)=aY d):=by rw[List.take_of_length_le (by have:=h.1;omega)];exact rfl
   generalize aY (d.take k)=lo at*
   go_wp2
   go_ret
   exact⟨db HE.out,(ak)⟩
theorem jm(t k v n:Int):cm 1 t k v n= .iface 218 (.agg #[.int .i64 1,.int .i64 t,.int .i64 k,.int .i64 v,.int .i64 n]):=rfl
theorem jn(t k v n:Int):cm 2 t k v n= .iface 252 (.agg #[.int .i64 2,.int .i64 t,.int .i64 k,.int .i64 v,.int .i64 n]):=rfl
theorem jo(t k v n:Int):cm 3 t k v n= .iface 253 (.agg #[.int .i64 3,.int .i64 t,.int .i64 k,.int .i64 v,.int .i64 n]):=rfl
theorem jp{q:Int}(h1:q≠1)(h2:q≠2)(h3:q≠3)(t k v n:Int):cm q t k v n= .iface 254 (.agg #[.int .i64 q,.int .i64 t,.int .i64 k,.int .i64 v,.int .i64 n]):=by unfold cm;rw[if_neg h1,if_neg h2,if_neg h3]
theorem taRR(x:Value)(w:World):(Instr.typeAssert (.iface 218 x) 170 218 true).run Tryz.prog w= .ok (.tuple #[x,.bool true]) w:=by kernel_rfl
theorem taRM(x:Value)(w:World):(Instr.typeAssert (.iface 218 x) 170 252 true).run Tryz.prog w= .ok (.tuple #[.agg #[.int .i64 0,.int .i64 0,.int .i64 0,.int .i64 0,.int .i64 0],.bool false]) w:=by kernel_rfl
theorem taMR(x:Value)(w:World):(Instr.typeAssert (.iface 252 x) 170 218 true).run Tryz.prog w= .ok (.tuple #[.agg #[.int .i64 0,.int .i64 0,.int .i64 0,.int .i64 0,.int .i64 0],.bool false]) w:=by kernel_rfl
theorem taMM(x:Value)(w:World):(Instr.typeAssert (.iface 252 x) 170 252 true).run Tryz.prog w= .ok (.tuple #[x,.bool true]) w:=by kernel_rfl
theorem taWR(x:Value)(w:World):(Instr.typeAssert (.iface 253 x) 170 218 true).run Tryz.prog w= .ok (.tuple #[.agg #[.int .i64 0,.int .i64 0,.int .i64 0,.int .i64 0,.int .i64 0],.bool false]) w:=by kernel_rfl
theorem taWM(x:Value)(w:World):(Instr.typeAssert (.iface 253 x) 170 252 true).run Tryz.prog w= .ok (.tuple #[.agg #[.int .i64 0,.int .i64 0,.int .i64 0,.int .i64 0,.int .i64 0],.bool false]) w:=by kernel_rfl
theorem taNR(x:Value)(w:World):(Instr.typeAssert (.iface 254 x) 170 218 true).run Tryz.prog w= .ok (.tuple #[.agg #[.int .i64 0,.int .i64 0,.int .i64 0,.int .i64 0,.int .i64 0],.bool false]) w:=by kernel_rfl
theorem taNM(x:Value)(w:World):(Instr.typeAssert (.iface 254 x) 170 252 true).run Tryz.prog w= .ok (.tuple #[.agg #[.int .i64 0,.int .i64 0,.int .i64 0,.int .i64 0,.int .i64 0],.bool false]) w:=by kernel_rfl
/-- What recordOf tells. -/
def recIt(q t k v n:Int):Value:=if q=1 then .agg #[.int .i64 1,.int .i64 t,.int .i64 k,.int .i64 v,.int .i64 n]else .agg #[.int .i64 0,.int .i64 0,.int .i64 0,.int .i64 0,.int .i64 0]
theorem jq(t k v n:Int):recIt 1 t k v n= .agg #[.int .i64 1,.int .i64 t,.int .i64 k,.int .i64 v,.int .i64 n]:=rfl
theorem jr{q:Int}(h:q≠1)(t k v n:Int):recIt q t k v n= .agg #[.int .i64 0,.int .i64 0,.int .i64 0,.int .i64 0,.int .i64 0]:=if_neg h
theorem js{a b:Value}{c d:Bool}(h:a=b)(k:c=d):Ending.returned (.tuple #[a,.bool c])= .returned (.tuple #[b,.bool d]):=by rw[h,k]
theorem dH(q t k v n:Int)(w:World):Calls Tryz.prog 96 #[cm q t k v n] w fun e w'=>e= .returned (.tuple #[recIt q t k v n,.bool (q==1)])∧Below w.heap.size w w':=by
 by_cases h1:q=1
 ·subst h1
  rw[jm]
  have rR:=taRR
  have mR:=taRM
  go_enter Tryz.func96,Tryz.ntmps96
  go_wp2
  refine bodyPost_ret (v:= .tuple #[.agg #[.int .i64 1,.int .i64 t,.int .i64 k,.int .i64 v,.int .i64 n],.bool true]) (jE) rfl ⟨rfl,?_⟩
  exact(aL)
 have hq:=ab (jr h1 t k v n)
 have hp:Hid ((q==1)=false):=ab (by simpa using h1)
 by_cases h2:q=2
 ·subst h2
  rw[jn]
  have rM:=taMR
  have mM:=taMM
  go_enter Tryz.func96,Tryz.ntmps96
  go_wp2
  refine bodyPost_ret (v:= .tuple #[.agg #[.int .i64 0,.int .i64 0,.int .i64 0,.int .i64 0,.int .i64 0],.bool false]) (jE) rfl ⟨js (aa hq).symm (aa hp).symm,?_⟩
  exact(aL)
 by_cases h3:q=3
 ·subst h3
  rw[jo]
  have rW:=taWR
  have mW:=taWM
  go_enter Tryz.func96,Tryz.ntmps96
  go_wp2
  refine bodyPost_ret (v:= .tuple #[.agg #[.int .i64 0,.int .i64 0,.int .i64 0,.int .i64 0,.int .i64 0],.bool false]) (jE) rfl ⟨js (aa hq).symm (aa hp).symm,?_⟩
  exact(aL)
 ·rw[jp h1 h2 h3]
  have rN:=taNR
  have mN:=taNM
  clear h1 h2 h3
  go_enter Tryz.func96,Tryz.ntmps96
  go_wp2
  refine bodyPost_ret (v:= .tuple #[.agg #[.int .i64 0,.int .i64 0,.int .i64 0,.int .i64 0,.int .i64 0],.bool false]) (jE) rfl ⟨js (aa hq).symm (aa hp).symm,?_⟩
  exact(aL)
/-- Whether a time lies in a window; whether an item is a record that is ok; when a pair is ok. -/
def hasW(st en t:Int):Bool:=aP t st (en - 1)
def fP(q t k v n:Int):Bool:=(q==1)&&bP t k v n
def cR(q t k v n st en:Int):Bool:=fP q t k v n&&bV st en&&hasW st en t
theorem isRecB_n{q:Int}(h:q≠1)(t k v n:Int):fP q t k v n=false:=by simp[fP,h]
theorem isRecB_1(t k v n:Int):fP 1 t k v n=bP t k v n:=by simp[fP]
theorem iX(t k v n:Int):cN 1 t k v n=bP t k v n:=rfl
theorem jt(st en t:Int)(w:World):Calls Tryz.prog 196 #[.agg #[.int .i64 st,.int .i64 en],.int .i64 t] w fun e' w'=>e'= .returned (.bool (hasW st en t))∧Below w.heap.size w w':=by
 by_cases h1:st≤t
 ·by_cases h2:t<en
  ·have hq:Hid (hasW st en t=true):=ab (gj h1 (by omega))
   go_enter Tryz.func196,Tryz.ntmps196
   go_wp2
   go_ret
   exact⟨af (aa hq).symm,(ar)⟩
  ·have hq:Hid (hasW st en t=false):=ab (dX (by omega))
   go_enter Tryz.func196,Tryz.ntmps196
   go_wp2
   go_ret
   exact⟨af (aa hq).symm,(ar)⟩
 ·have hq:Hid (hasW st en t=false):=ab (dX (by omega))
  go_enter Tryz.func196,Tryz.ntmps196
  go_wp2
  go_ret
  exact⟨af (aa hq).symm,(ar)⟩
set_option maxHeartbeats 1000000 in
theorem go(q t k v n:Int)(w:World):Calls Tryz.prog 194 #[.agg #[.int .i64 q,.int .i64 t,.int .i64 k,.int .i64 v,.int .i64 n]] w fun e' w'=>e'= .returned (.bool (fP q t k v n))∧Below w.heap.size w w':=by
 by_cases h1:q=1
 ·subst h1
  have hq:=ab ((isRecB_1 t k v n).trans (iX t k v n).symm)
  have hr:=jq t k v n
  go_enter Tryz.func194,Tryz.ntmps194
  go_wp2_with (first
   |(go_at_call 140;refine(cJ _ _ _ _ _ _).mono ?_;rintro e w' ⟨rfl,hb⟩;obtain⟨hc,hf,hs⟩:=ac hb;(try have hz0:=zA hb w.heap.size);(try have hz1:=zA hb (w.heap.size+1)))
   |(go_at_call 96;refine(dH _ _ _ _ _ _).mono ?_;rintro e w' ⟨rfl,hb⟩;obtain⟨hc,hf,hs⟩:=ac hb;(try have hz0:=zA hb w.heap.size);(try have hz1:=zA hb (w.heap.size+1)))
   |(go_at_call 190;refine(dP _ _ _ _ _ _).mono ?_;rintro e w' ⟨rfl,hb⟩;obtain⟨hc,hf,hs⟩:=ac hb;(try have hz0:=zA hb w.heap.size);(try have hz1:=zA hb (w.heap.size+1))))
  go_ret
  exact⟨af (aa hq).symm,(ar)⟩
 ·have hq:=ab (isRecB_n h1 t k v n)
  have hr:=jr h1 t k v n
  have h1':(q==1)=false:=by simpa using h1
  clear h1
  go_enter Tryz.func194,Tryz.ntmps194
  go_wp2_with (first
   |(go_at_call 140;refine(cJ _ _ _ _ _ _).mono ?_;rintro e w' ⟨rfl,hb⟩;obtain⟨hc,hf,hs⟩:=ac hb;(try have hz0:=zA hb w.heap.size);(try have hz1:=zA hb (w.heap.size+1)))
   |(go_at_call 96;refine(dH _ _ _ _ _ _).mono ?_;rintro e w' ⟨rfl,hb⟩;obtain⟨hc,hf,hs⟩:=ac hb;(try have hz0:=zA hb w.heap.size);(try have hz1:=zA hb (w.heap.size+1)))
   |(go_at_call 190;refine(dP _ _ _ _ _ _).mono ?_;rintro e w' ⟨rfl,hb⟩;obtain⟨hc,hf,hs⟩:=ac hb;(try have hz0:=zA hb w.heap.size);(try have hz1:=zA hb (w.heap.size+1))))
  go_ret
  exact⟨af (aa hq).symm,(ar)⟩
set_option maxHeartbeats 1000000 in
theorem fI(q t k v n st en:Int)(w:World):Calls Tryz.prog 175 #[.agg #[.int .i64 q,.int .i64 t,.int .i64 k,.int .i64 v,.int .i64 n,.int .i64 st,.int .i64 en]] w fun e' w'=>e'= .returned (.bool (cR q t k v n st en))∧Below w.heap.size w w':=by
 cases c0:fP q t k v n
 ·have hq:Hid (cR q t k v n st en=false):=ab (by simp[cR,c0])
  go_enter Tryz.func175,Tryz.ntmps175
  go_wp2_with (first
   |(go_at_call 194;refine(go _ _ _ _ _ _).mono ?_;rintro e w' ⟨rfl,hb⟩;obtain⟨hc,hf,hs⟩:=ac hb;(try have hz0:=zA hb w.heap.size))
   |(go_at_call 195;refine(eg _ _ _).mono ?_;rintro e w' ⟨rfl,hb⟩;obtain⟨hc,hf,hs⟩:=ac hb;(try have hz0:=zA hb w.heap.size))
   |(go_at_call 196;refine(jt _ _ _ _).mono ?_;rintro e w' ⟨rfl,hb⟩;obtain⟨hc,hf,hs⟩:=ac hb;(try have hz0:=zA hb w.heap.size)))
  go_ret
  exact⟨af (aa hq).symm,(ar)⟩
 cases c1:bV st en
 ·have hq:Hid (cR q t k v n st en=false):=ab (by simp[cR,c0,c1])
  go_enter Tryz.func175,Tryz.ntmps175
  go_wp2_with (first
   |(go_at_call 194;refine(go _ _ _ _ _ _).mono ?_;rintro e w' ⟨rfl,hb⟩;obtain⟨hc,hf,hs⟩:=ac hb;(try have hz0:=zA hb w.heap.size))
   |(go_at_call 195;refine(eg _ _ _).mono ?_;rintro e w' ⟨rfl,hb⟩;obtain⟨hc,hf,hs⟩:=ac hb;(try have hz0:=zA hb w.heap.size))
   |(go_at_call 196;refine(jt _ _ _ _).mono ?_;rintro e w' ⟨rfl,hb⟩;obtain⟨hc,hf,hs⟩:=ac hb;(try have hz0:=zA hb w.heap.size)))
  go_ret
  exact⟨af (aa hq).symm,(ar)⟩
 have hq:Hid (cR q t k v n st en=hasW st en t):=ab (by simp[cR,c0,c1])
 go_enter Tryz.func175,Tryz.ntmps175
 go_wp2_with (first
  |(go_at_call 194;refine(go _ _ _ _ _ _).mono ?_;rintro e w' ⟨rfl,hb⟩;obtain⟨hc,hf,hs⟩:=ac hb;(try have hz0:=zA hb w.heap.size))
  |(go_at_call 195;refine(eg _ _ _).mono ?_;rintro e w' ⟨rfl,hb⟩;obtain⟨hc,hf,hs⟩:=ac hb;(try have hz0:=zA hb w.heap.size))
  |(go_at_call 196;refine(jt _ _ _ _).mono ?_;rintro e w' ⟨rfl,hb⟩;obtain⟨hc,hf,hs⟩:=ac hb;(try have hz0:=zA hb w.heap.size)))
 go_ret
 exact⟨af (aa hq).symm,(ar)⟩
set_option maxHeartbeats 1000000 in
theorem ed(q t k v n st en:Int)(w:World):Calls Tryz.prog 114 #[.agg #[.int .i64 q,.int .i64 t,.int .i64 k,.int .i64 v,.int .i64 n,.int .i64 st,.int .i64 en]] w fun e' w'=>e'= .returned (.bool (cR q t k v n st en))∧Below w.heap.size w w':=by
 by_cases h1:q=1
 ·subst h1
  have e1:=iX t k v n
  have hq1:Hid (cR 1 t k v n st en=(cN 1 t k v n&&bV st en&&hasW st en t)):=ab (by rw[cR,isRecB_1,e1])
  cases c0:cN 1 t k v n
  ·have hq:Hid (cR 1 t k v n st en=false):=ab ((aa hq1).trans (by simp[c0]))
   clear e1
   go_enter Tryz.func114,Tryz.ntmps114
   go_wp2_with (first
    |(go_at_call 107;refine(bi _ _ _ _ _ _).mono ?_;rintro e w' ⟨rfl,hb⟩;obtain⟨hc,hf,hs⟩:=ac hb;(try have hz0:=zA hb w.heap.size))
    |(go_at_call 146;refine(au _ _ _).mono ?_;rintro e w' ⟨rfl,hb⟩;obtain⟨hc,hf,hs⟩:=ac hb;(try have hz0:=zA hb w.heap.size))
    |(go_at_call 63;refine(al _ _ _ _).mono ?_;rintro e' w' ⟨rfl,rfl⟩))
   go_ret
   exact⟨af (aa hq).symm,(ar)⟩
  cases c1:bV st en
  ·have hq:Hid (cR 1 t k v n st en=false):=ab ((aa hq1).trans (by simp[c0,c1]))
   clear e1
   go_enter Tryz.func114,Tryz.ntmps114
   go_wp2_with (first
    |(go_at_call 107;refine(bi _ _ _ _ _ _).mono ?_;rintro e w' ⟨rfl,hb⟩;obtain⟨hc,hf,hs⟩:=ac hb;(try have hz0:=zA hb w.heap.size))
    |(go_at_call 146;refine(au _ _ _).mono ?_;rintro e w' ⟨rfl,hb⟩;obtain⟨hc,hf,hs⟩:=ac hb;(try have hz0:=zA hb w.heap.size))
    |(go_at_call 63;refine(al _ _ _ _).mono ?_;rintro e' w' ⟨rfl,rfl⟩))
   go_ret
   exact⟨af (aa hq).symm,(ar)⟩
  have hq:Hid (cR 1 t k v n st en=aP t st (en - 1)):=ab ((aa hq1).trans (by simp[c0,c1,hasW]))
  have hw:=c1
  simp only[bV,Bool.and_eq_true]at hw
  have hw1:=aZ.1 hw.1
  have hw2:=aZ.1 hw.2
  clear e1 hw
  go_enter Tryz.func114,Tryz.ntmps114
  go_wp2_with (first
   |(go_at_call 107;refine(bi _ _ _ _ _ _).mono ?_;rintro e w' ⟨rfl,hb⟩;obtain⟨hc,hf,hs⟩:=ac hb;(try have hz0:=zA hb w.heap.size))
   |(go_at_call 146;refine(au _ _ _).mono ?_;rintro e w' ⟨rfl,hb⟩;obtain⟨hc,hf,hs⟩:=ac hb;(try have hz0:=zA hb w.heap.size))
   |(go_at_call 63;refine(al _ _ _ _).mono ?_;rintro e' w' ⟨rfl,rfl⟩))
  go_ret
  exact⟨af (aa hq).symm,(ar)⟩
 ·have hq:Hid (cR q t k v n st en=false):=ab (by simp[cR,isRecB_n h1])
  have h1':(q==1)=false:=by simpa using h1
  clear h1
  go_enter Tryz.func114,Tryz.ntmps114
  go_wp2_with (first
   |(go_at_call 107;refine(bi _ _ _ _ _ _).mono ?_;rintro e w' ⟨rfl,hb⟩;obtain⟨hc,hf,hs⟩:=ac hb;(try have hz0:=zA hb w.heap.size))
   |(go_at_call 146;refine(au _ _ _).mono ?_;rintro e w' ⟨rfl,hb⟩;obtain⟨hc,hf,hs⟩:=ac hb;(try have hz0:=zA hb w.heap.size))
   |(go_at_call 63;refine(al _ _ _ _).mono ?_;rintro e' w' ⟨rfl,rfl⟩))
  go_ret
  exact⟨af (aa hq).symm,(ar)⟩
theorem all_tt{α:Type}{xs:List α}{p:α→Bool}{k:Nat}{x:α}(h:(xs.take k).all p=true)(hx:xs[k]? =some x)(hp:p x=true):(xs.take (k+1)).all p=true:=by
 rw[List.take_add_one,hx,List.all_append,h]
 simp[hp]
theorem all_ff{α:Type}{xs:List α}{p:α→Bool}{k:Nat}{x:α}(hx:xs[k]? =some x)(hp:p x=false):xs.all p=false:=by
 rw[List.all_eq_false]
 exact⟨x,List.mem_of_getElem? hx,by simp[hp]⟩
/-- Whether one is ok. -/
def cx.okB(x:cx):Bool:=bZ x.ky x.st x.en x.no x.kd x.n x.su x.le x.mo
set_option maxRecDepth 20000 in
set_option maxHeartbeats 1000000 in
theorem bw(a:Option Addr)(len cap:Nat)(xs:List cx)(w:World)(h:eS w a len xs):Calls Tryz.prog 172 #[.slice a len cap,.func (.func 173) #[] #[]] w fun e w'=>e= .returned (.bool (xs.all cx.okB))∧Below w.heap.size w w':=by
 have hm:=h.2.1
 unfold maxLen at hm
 go_enter Tryz.func172,Tryz.ntmps172
 go_wp2
 go_loopw [9] (fun i wr=>∃k:Nat,k≤len∧i= .int .i64 k∧Hid ((xs.take k).all cx.okB=true)∧Below w.heap.size w wr) (fun i _=>len - (intOf i).toNat)
 case atStart=>exact⟨0,Nat.zero_le _,rfl,ab (by simp),Below.refl _ _⟩
 case round=>
  obtain⟨k,hk,rfl,hA,hbw⟩:=hrel
  by_cases hlt:k<len
  ·obtain⟨hxl,_,hx⟩:=h
   obtain⟨g,o,rfl,hr⟩:=hx.resolve_left (by omega)
   obtain⟨x,hxk⟩:∃x,xs[k]? =some x:=⟨_,List.getElem?_eq_getElem (by omega)⟩
   have hg:g<w.heap.size:=hr.lt (by omega)
   have hX:=ab hxk
   obtain⟨d0,d1,d2,d3,d4,d5,d6,d7,d8⟩:=(hr k _ hxk).below hbw hg
   clear hx hxk hr
   cases hB:bZ x.ky x.st x.en x.no x.kd x.n x.su x.le x.mo
   ·have HE:Hid (xs.all cx.okB=false):=ab (all_ff (aa hX) hB)
    go_wp2_with (go_at_call 173;refine(fG _ _ _ _ _ _ _ _ _ _).mono ?_;rintro e wf ⟨rfl,hb⟩;obtain⟨hc,hf,hsz⟩:=ac hb)
    go_ret
    exact⟨af (aa HE).symm,(ak)⟩
   ·have HE:Hid ((xs.take (k+1)).all cx.okB=true):=ab (all_tt (aa hA) (aa hX) hB)
    go_wp2_with (go_at_call 173;refine(fG _ _ _ _ _ _ _ _ _ _).mono ?_;rintro e wf ⟨rfl,hb⟩;obtain⟨hc,hf,hsz⟩:=ac hb)
    go_roundw
    case rel=>exact⟨k+1,by omega,by go_num,HE,(ak)⟩
    case measure=>simp[intOf];omega
  ·have HE:Hid (xs.all cx.okB=true):=ab (by have h1:=aa hA;rwa [List.take_of_length_le (by have:=h.1;omega)]at h1)
   go_wp2
   go_ret
   exact⟨af (aa HE).symm,hbw⟩
/-- Whether one is ok. -/
def cq.okB(x:cq):Bool:=cR x.kd x.tm x.ke x.va x.nn x.st x.en
set_option maxRecDepth 20000 in
set_option maxHeartbeats 1000000 in
theorem bQ(a:Option Addr)(len cap:Nat)(xs:List cq)(w:World)(h:eT w a len xs):Calls Tryz.prog 174 #[.slice a len cap,.func (.func 175) #[] #[]] w fun e w'=>e= .returned (.bool (xs.all cq.okB))∧Below w.heap.size w w':=by
 have hm:=h.2.1
 unfold maxLen at hm
 go_enter Tryz.func174,Tryz.ntmps174
 go_wp2
 go_loopw [9] (fun i wr=>∃k:Nat,k≤len∧i= .int .i64 k∧Hid ((xs.take k).all cq.okB=true)∧Below w.heap.size w wr) (fun i _=>len - (intOf i).toNat)
 case atStart=>exact⟨0,Nat.zero_le _,rfl,ab (by simp),Below.refl _ _⟩
 case round=>
  obtain⟨k,hk,rfl,hA,hbw⟩:=hrel
  by_cases hlt:k<len
  ·obtain⟨hxl,_,hx⟩:=h
   obtain⟨g,o,rfl,hr⟩:=hx.resolve_left (by omega)
   obtain⟨x,hxk⟩:∃x,xs[k]? =some x:=⟨_,List.getElem?_eq_getElem (by omega)⟩
   have hg:g<w.heap.size:=hr.lt (by omega)
   have hX:=ab hxk
   obtain⟨d0,d1,d2,d3,d4,d5,d6⟩:=(hr k _ hxk).below hbw hg
   clear hx hxk hr
   cases hB:cR x.kd x.tm x.ke x.va x.nn x.st x.en
   ·have HE:Hid (xs.all cq.okB=false):=ab (all_ff (aa hX) hB)
    go_wp2_with (go_at_call 175;refine(fI _ _ _ _ _ _ _ _).mono ?_;rintro e wf ⟨rfl,hb⟩;obtain⟨hc,hf,hsz⟩:=ac hb)
    go_ret
    exact⟨af (aa HE).symm,(ak)⟩
   ·have HE:Hid ((xs.take (k+1)).all cq.okB=true):=ab (all_tt (aa hA) (aa hX) hB)
    go_wp2_with (go_at_call 175;refine(fI _ _ _ _ _ _ _ _).mono ?_;rintro e wf ⟨rfl,hb⟩;obtain⟨hc,hf,hsz⟩:=ac hb)
    go_roundw
    case rel=>exact⟨k+1,by omega,by go_num,HE,(ak)⟩
    case measure=>simp[intOf];omega
  ·have HE:Hid (xs.all cq.okB=true):=ab (by have h1:=aa hA;rwa [List.take_of_length_le (by have:=h.1;omega)]at h1)
   go_wp2
   go_ret
   exact⟨af (aa HE).symm,hbw⟩
/-- Whether one is ok. -/
def bF.okB(x:bF):Bool:=cN x.kd x.tm x.ke x.va x.nn
set_option maxRecDepth 20000 in
set_option maxHeartbeats 1000000 in
theorem dR(a:Option Addr)(len cap:Nat)(xs:List bF)(w:World)(h:bG w a len xs):Calls Tryz.prog 189 #[.slice a len cap,.func (.func 190) #[] #[]] w fun e w'=>e= .returned (.bool (xs.all bF.okB))∧Below w.heap.size w w':=by
 have hm:=h.2.1
 unfold maxLen at hm
 go_enter Tryz.func189,Tryz.ntmps189
 go_wp2
 go_loopw [9] (fun i wr=>∃k:Nat,k≤len∧i= .int .i64 k∧Hid ((xs.take k).all bF.okB=true)∧Below w.heap.size w wr) (fun i _=>len - (intOf i).toNat)
 case atStart=>exact⟨0,Nat.zero_le _,rfl,ab (by simp),Below.refl _ _⟩
 case round=>
  obtain⟨k,hk,rfl,hA,hbw⟩:=hrel
  by_cases hlt:k<len
  ·obtain⟨hxl,_,hx⟩:=h
   obtain⟨g,o,rfl,hr⟩:=hx.resolve_left (by omega)
   obtain⟨x,hxk⟩:∃x,xs[k]? =some x:=⟨_,List.getElem?_eq_getElem (by omega)⟩
   have hg:g<w.heap.size:=hr.lt (by omega)
   have hX:=ab hxk
   obtain⟨d0,d1,d2,d3,d4⟩:=(hr k _ hxk).below hbw hg
   clear hx hxk hr
   cases hB:cN x.kd x.tm x.ke x.va x.nn
   ·have HE:Hid (xs.all bF.okB=false):=ab (all_ff (aa hX) hB)
    go_wp2_with (go_at_call 190;refine(dP _ _ _ _ _ _).mono ?_;rintro e wf ⟨rfl,hb⟩;obtain⟨hc,hf,hsz⟩:=ac hb)
    go_ret
    exact⟨af (aa HE).symm,(ak)⟩
   ·have HE:Hid ((xs.take (k+1)).all bF.okB=true):=ab (all_tt (aa hA) (aa hX) hB)
    go_wp2_with (go_at_call 190;refine(dP _ _ _ _ _ _).mono ?_;rintro e wf ⟨rfl,hb⟩;obtain⟨hc,hf,hsz⟩:=ac hb)
    go_roundw
    case rel=>exact⟨k+1,by omega,by go_num,HE,(ak)⟩
    case measure=>simp[intOf];omega
  ·have HE:Hid (xs.all bF.okB=true):=ab (by have h1:=aa hA;rwa [List.take_of_length_le (by have:=h.1;omega)]at h1)
   go_wp2
   go_ret
   exact⟨af (aa HE).symm,hbw⟩
/-- Whether a transaction is ok; whether a channel is; whether a task is. -/
def bj(n:Int)(ps:List cx)(ls:List cq):Bool:=aP n 0 900&&decide (ps.length≤1500)&&decide (ls.length≤1500)&&ps.all cx.okB&&ls.all cq.okB
def bH.okB(r:Int)(x:bH):Bool:=decide ((x.q.length:Int)≤r)&&aP x.ma 0 1000&&x.q.all bF.okB
def bc(s t k z p l e v r om wl pn:Int)(d:TkD):Bool:=cl s t k z p l e v r om d.rows&&decide ((d.ins.length:Int)=s)&&aP wl 0 900&&bj pn d.panes d.lates&&(pn==0)&&d.ins.all (bH.okB r)&&decide (aY d.ins<d.ins.length)&&(om==ci d.ins)
theorem aq{b0 b1 a0 a1 a2 a3 a4 a5 a6 a7 a8 a9 c0 c1 c2 c3 c4 c5 c6:Nat}{k0 k1 k2 k3 k4 k5 k6 k7 k8 k9 l0 l1 l2 l3 l4 l5 l6:Value}{W W':World}(h:((W.cell? ⟨b0,a0,none⟩=some k0∧W.cell? ⟨b0,a1,none⟩=some k1∧W.cell? ⟨b0,a2,none⟩=some k2∧W.cell? ⟨b0,a3,none⟩=some k3∧W.cell? ⟨b0,a4,none⟩=some k4∧W.cell? ⟨b0,a5,none⟩=some k5∧W.cell? ⟨b0,a6,none⟩=some k6∧W.cell? ⟨b0,a7,none⟩=some k7∧W.cell? ⟨b0,a8,none⟩=some k8∧W.cell? ⟨b0,a9,none⟩=some k9∧W.cell? ⟨b1,c0,none⟩=some l0∧W.cell? ⟨b1,c1,none⟩=some l1∧W.cell? ⟨b1,c2,none⟩=some l2∧W.cell? ⟨b1,c3,none⟩=some l3∧W.cell? ⟨b1,c4,none⟩=some l4∧W.cell? ⟨b1,c5,none⟩=some l5∧W.cell? ⟨b1,c6,none⟩=some l6)∧b0<W.heap.size∧b1<W.heap.size))(hb:Below W.heap.size W W'):((W'.cell? ⟨b0,a0,none⟩=some k0∧W'.cell? ⟨b0,a1,none⟩=some k1∧W'.cell? ⟨b0,a2,none⟩=some k2∧W'.cell? ⟨b0,a3,none⟩=some k3∧W'.cell? ⟨b0,a4,none⟩=some k4∧W'.cell? ⟨b0,a5,none⟩=some k5∧W'.cell? ⟨b0,a6,none⟩=some k6∧W'.cell? ⟨b0,a7,none⟩=some k7∧W'.cell? ⟨b0,a8,none⟩=some k8∧W'.cell? ⟨b0,a9,none⟩=some k9∧W'.cell? ⟨b1,c0,none⟩=some l0∧W'.cell? ⟨b1,c1,none⟩=some l1∧W'.cell? ⟨b1,c2,none⟩=some l2∧W'.cell? ⟨b1,c3,none⟩=some l3∧W'.cell? ⟨b1,c4,none⟩=some l4∧W'.cell? ⟨b1,c5,none⟩=some l5∧W'.cell? ⟨b1,c6,none⟩=some l6)∧b0<W'.heap.size∧b1<W'.heap.size):=by
 obtain⟨h99,s0,s1⟩:=h
 have e0:∀z,W'.cell? ⟨b0,z,none⟩=W.cell? ⟨b0,z,none⟩:=fun z=>hb.cell s0
 have e1:∀z,W'.cell? ⟨b1,z,none⟩=W.cell? ⟨b1,z,none⟩:=fun z=>hb.cell s1
 refine⟨?_,Nat.lt_of_lt_of_le s0 hb.size,Nat.lt_of_lt_of_le s1 hb.size⟩
 simp only[e0,e1]
 exact h99
end Go.Proofs.YtealpjmannopeaaGreat
