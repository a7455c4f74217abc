/- Laid together: what the claim needs of the texts that were built one by one. -/
import Derived.Test.YtealpjmannopeaaGreatX3
import Derived.Test.YtealpjmannopeaaGreatX8
import Derived.Test.YtealpjmannopeaaGreatX6
import Derived.Test.YtealpjmannopeaaGreatX0
import Derived.Deep.RegionHeld3
import Derived.Deep.DeepCutAuto
set_option linter.unusedVariables false
namespace Go.Proofs.YtealpjmannopeaaGreat
open Go.ChangeShapes Go.WideShapes Go.ChangeAt Go.RowKit
/-- When a row may be open behind a mark. -/
def aO(l mark:Int)(ky st en an asu ale amo fn fsu fle fmo td:Int)(tm:Bool):Bool:=aP ky 0 3&&bV st en&&dj an asu ale amo&&dj fn fsu fle fmo&&aP td 0 1500&& !(an==0)&&decide (fn≤an)&&decide (mark<en+l)&&(tm==decide (en≤mark))&&(decide (0<td)==decide (en≤mark))&&((fn==0)==decide (en≤mark))
theorem ib{st en:Int}(h:bV st en=true):0≤st∧st<en∧en≤120:=by
 simp only[bV,Bool.and_eq_true]at h
 have h1:=aZ.1 h.1
 have h2:=aZ.1 h.2
 omega
set_option maxRecDepth 20000 in
set_option maxHeartbeats 4000000 in
theorem ei(s t k z p l e:Int)(b:Bool)(v r:Int)(ky st en an asu ale amo fn fsu fle fmo td:Int)(tm:Bool)(mark:Int)(hl:0≤l∧l≤20)(w:World):Calls Tryz.prog 143 #[.agg #[.int .i64 s,.int .i64 t,.int .i64 k,.int .i64 z,.int .i64 p,.int .i64 l,.int .i64 e,.bool b,.int .i64 v,.int .i64 r],.agg #[.int .i64 ky,.int .i64 st,.int .i64 en,.int .i64 an,.int .i64 asu,.int .i64 ale,.int .i64 amo,.int .i64 fn,.int .i64 fsu,.int .i64 fle,.int .i64 fmo,.int .i64 td,.bool tm],.int .i64 mark] w fun e' w'=>e'= .returned (.bool (aO l mark ky st en an asu ale amo fn fsu fle fmo td tm))∧Below w.heap.size w w':=by
 cases c0:aP ky 0 3
 ·have hq:Hid (aO l mark ky st en an asu ale amo fn fsu fle fmo td tm=false):=ab (by simp[aO,c0])
  go_enter Tryz.func143,Tryz.ntmps143
  go_wp2_with (first
   |(go_at_call 63;refine(al _ _ _ _).mono ?_;rintro e' w' ⟨rfl,rfl⟩)
   |(go_at_call 146;refine(au _ _ _).mono ?_;rintro e w' ⟨rfl,hb⟩;obtain⟨hc,hf,hs⟩:=ac hb;(try have hz0:=zA hb w.heap.size);(try have hz1:=zA hb (w.heap.size+1)))
   |(go_at_call 147;refine(av _ _ _ _ _).mono ?_;rintro e w' ⟨rfl,hb⟩;obtain⟨hc,hf,hs⟩:=ac hb;(try have hz0:=zA hb w.heap.size);(try have hz1:=zA hb (w.heap.size+1))))
  go_ret
  exact⟨af (aa hq).symm,(ar)⟩
 cases c1:bV st en
 ·have hq:Hid (aO l mark ky st en an asu ale amo fn fsu fle fmo td tm=false):=ab (by simp[aO,c0,c1])
  go_enter Tryz.func143,Tryz.ntmps143
  go_wp2_with (first
   |(go_at_call 63;refine(al _ _ _ _).mono ?_;rintro e' w' ⟨rfl,rfl⟩)
   |(go_at_call 146;refine(au _ _ _).mono ?_;rintro e w' ⟨rfl,hb⟩;obtain⟨hc,hf,hs⟩:=ac hb;(try have hz0:=zA hb w.heap.size);(try have hz1:=zA hb (w.heap.size+1)))
   |(go_at_call 147;refine(av _ _ _ _ _).mono ?_;rintro e w' ⟨rfl,hb⟩;obtain⟨hc,hf,hs⟩:=ac hb;(try have hz0:=zA hb w.heap.size);(try have hz1:=zA hb (w.heap.size+1))))
  go_ret
  exact⟨af (aa hq).symm,(ar)⟩
 have hen:=ib c1
 cases c2:dj an asu ale amo
 ·have hq:Hid (aO l mark ky st en an asu ale amo fn fsu fle fmo td tm=false):=ab (by simp[aO,c0,c1,c2])
  go_enter Tryz.func143,Tryz.ntmps143
  go_wp2_with (first
   |(go_at_call 63;refine(al _ _ _ _).mono ?_;rintro e' w' ⟨rfl,rfl⟩)
   |(go_at_call 146;refine(au _ _ _).mono ?_;rintro e w' ⟨rfl,hb⟩;obtain⟨hc,hf,hs⟩:=ac hb;(try have hz0:=zA hb w.heap.size);(try have hz1:=zA hb (w.heap.size+1)))
   |(go_at_call 147;refine(av _ _ _ _ _).mono ?_;rintro e w' ⟨rfl,hb⟩;obtain⟨hc,hf,hs⟩:=ac hb;(try have hz0:=zA hb w.heap.size);(try have hz1:=zA hb (w.heap.size+1))))
  go_ret
  exact⟨af (aa hq).symm,(ar)⟩
 cases c3:(an==0)
 ·cases c4:dj fn fsu fle fmo
  ·have hq:Hid (aO l mark ky st en an asu ale amo fn fsu fle fmo td tm=false):=ab (by simp[aO,c0,c1,c2,c3,c4])
   go_enter Tryz.func143,Tryz.ntmps143
   go_wp2_with (first
    |(go_at_call 63;refine(al _ _ _ _).mono ?_;rintro e' w' ⟨rfl,rfl⟩)
    |(go_at_call 146;refine(au _ _ _).mono ?_;rintro e w' ⟨rfl,hb⟩;obtain⟨hc,hf,hs⟩:=ac hb;(try have hz0:=zA hb w.heap.size);(try have hz1:=zA hb (w.heap.size+1)))
    |(go_at_call 147;refine(av _ _ _ _ _).mono ?_;rintro e w' ⟨rfl,hb⟩;obtain⟨hc,hf,hs⟩:=ac hb;(try have hz0:=zA hb w.heap.size);(try have hz1:=zA hb (w.heap.size+1))))
   go_ret
   exact⟨af (aa hq).symm,(ar)⟩
  by_cases c5:fn≤an
  ·cases c6:aP td 0 1500
   ·have hq:Hid (aO l mark ky st en an asu ale amo fn fsu fle fmo td tm=false):=ab (by simp[aO,c0,c1,c2,c3,c4,c5,c6])
    go_enter Tryz.func143,Tryz.ntmps143
    go_wp2_with (first
     |(go_at_call 63;refine(al _ _ _ _).mono ?_;rintro e' w' ⟨rfl,rfl⟩)
     |(go_at_call 146;refine(au _ _ _).mono ?_;rintro e w' ⟨rfl,hb⟩;obtain⟨hc,hf,hs⟩:=ac hb;(try have hz0:=zA hb w.heap.size);(try have hz1:=zA hb (w.heap.size+1)))
     |(go_at_call 147;refine(av _ _ _ _ _).mono ?_;rintro e w' ⟨rfl,hb⟩;obtain⟨hc,hf,hs⟩:=ac hb;(try have hz0:=zA hb w.heap.size);(try have hz1:=zA hb (w.heap.size+1))))
    go_ret
    exact⟨af (aa hq).symm,(ar)⟩
   by_cases ov:en≤mark
   ·cases tm
    ·have hq:Hid (aO l mark ky st en an asu ale amo fn fsu fle fmo td false=false):=ab (by simp[aO,c0,c1,c2,c3,c4,c5,c6,ov])
     go_enter Tryz.func143,Tryz.ntmps143
     go_wp2_with (first
      |(go_at_call 63;refine(al _ _ _ _).mono ?_;rintro e' w' ⟨rfl,rfl⟩)
      |(go_at_call 146;refine(au _ _ _).mono ?_;rintro e w' ⟨rfl,hb⟩;obtain⟨hc,hf,hs⟩:=ac hb;(try have hz0:=zA hb w.heap.size);(try have hz1:=zA hb (w.heap.size+1)))
      |(go_at_call 147;refine(av _ _ _ _ _).mono ?_;rintro e w' ⟨rfl,hb⟩;obtain⟨hc,hf,hs⟩:=ac hb;(try have hz0:=zA hb w.heap.size);(try have hz1:=zA hb (w.heap.size+1))))
     go_ret
     exact⟨af (aa hq).symm,(ar)⟩
    ·by_cases c7:mark<en+l
     ·by_cases tp:0<td
      ·cases fz:(fn==0)
       ·have hq:Hid (aO l mark ky st en an asu ale amo fn fsu fle fmo td true=false):=ab (by simp[aO,c0,c1,c2,c3,c4,c5,c6,c7,ov,tp,fz])
        go_enter Tryz.func143,Tryz.ntmps143
        go_wp2_with (first
         |(go_at_call 63;refine(al _ _ _ _).mono ?_;rintro e' w' ⟨rfl,rfl⟩)
         |(go_at_call 146;refine(au _ _ _).mono ?_;rintro e w' ⟨rfl,hb⟩;obtain⟨hc,hf,hs⟩:=ac hb;(try have hz0:=zA hb w.heap.size);(try have hz1:=zA hb (w.heap.size+1)))
         |(go_at_call 147;refine(av _ _ _ _ _).mono ?_;rintro e w' ⟨rfl,hb⟩;obtain⟨hc,hf,hs⟩:=ac hb;(try have hz0:=zA hb w.heap.size);(try have hz1:=zA hb (w.heap.size+1))))
        go_ret
        exact⟨af (aa hq).symm,(ar)⟩
       ·have hq:Hid (aO l mark ky st en an asu ale amo fn fsu fle fmo td true=true):=ab (by simp[aO,c0,c1,c2,c3,c4,c5,c6,c7,ov,tp,fz])
        go_enter Tryz.func143,Tryz.ntmps143
        go_wp2_with (first
         |(go_at_call 63;refine(al _ _ _ _).mono ?_;rintro e' w' ⟨rfl,rfl⟩)
         |(go_at_call 146;refine(au _ _ _).mono ?_;rintro e w' ⟨rfl,hb⟩;obtain⟨hc,hf,hs⟩:=ac hb;(try have hz0:=zA hb w.heap.size);(try have hz1:=zA hb (w.heap.size+1)))
         |(go_at_call 147;refine(av _ _ _ _ _).mono ?_;rintro e w' ⟨rfl,hb⟩;obtain⟨hc,hf,hs⟩:=ac hb;(try have hz0:=zA hb w.heap.size);(try have hz1:=zA hb (w.heap.size+1))))
        go_ret
        exact⟨af (by first|exact(aa hq).symm|(rw[aa hq];simp[ov,tp])),(ar)⟩
      ·have hq:Hid (aO l mark ky st en an asu ale amo fn fsu fle fmo td true=false):=ab (by simp[aO,c0,c1,c2,c3,c4,c5,c6,c7,ov,tp])
       go_enter Tryz.func143,Tryz.ntmps143
       go_wp2_with (first
        |(go_at_call 63;refine(al _ _ _ _).mono ?_;rintro e' w' ⟨rfl,rfl⟩)
        |(go_at_call 146;refine(au _ _ _).mono ?_;rintro e w' ⟨rfl,hb⟩;obtain⟨hc,hf,hs⟩:=ac hb;(try have hz0:=zA hb w.heap.size);(try have hz1:=zA hb (w.heap.size+1)))
        |(go_at_call 147;refine(av _ _ _ _ _).mono ?_;rintro e w' ⟨rfl,hb⟩;obtain⟨hc,hf,hs⟩:=ac hb;(try have hz0:=zA hb w.heap.size);(try have hz1:=zA hb (w.heap.size+1))))
       go_ret
       exact⟨af (aa hq).symm,(ar)⟩
     ·have hq:Hid (aO l mark ky st en an asu ale amo fn fsu fle fmo td true=false):=ab (by simp[aO,c0,c1,c2,c3,c4,c5,c6,ov,c7])
      go_enter Tryz.func143,Tryz.ntmps143
      go_wp2_with (first
       |(go_at_call 63;refine(al _ _ _ _).mono ?_;rintro e' w' ⟨rfl,rfl⟩)
       |(go_at_call 146;refine(au _ _ _).mono ?_;rintro e w' ⟨rfl,hb⟩;obtain⟨hc,hf,hs⟩:=ac hb;(try have hz0:=zA hb w.heap.size);(try have hz1:=zA hb (w.heap.size+1)))
       |(go_at_call 147;refine(av _ _ _ _ _).mono ?_;rintro e w' ⟨rfl,hb⟩;obtain⟨hc,hf,hs⟩:=ac hb;(try have hz0:=zA hb w.heap.size);(try have hz1:=zA hb (w.heap.size+1))))
      go_ret
      exact⟨af (aa hq).symm,(ar)⟩
   ·cases tm
    ·by_cases c7:mark<en+l
     ·by_cases tp:0<td
      ·have hq:Hid (aO l mark ky st en an asu ale amo fn fsu fle fmo td false=false):=ab (by simp[aO,c0,c1,c2,c3,c4,c5,c6,c7,ov,tp])
       go_enter Tryz.func143,Tryz.ntmps143
       go_wp2_with (first
        |(go_at_call 63;refine(al _ _ _ _).mono ?_;rintro e' w' ⟨rfl,rfl⟩)
        |(go_at_call 146;refine(au _ _ _).mono ?_;rintro e w' ⟨rfl,hb⟩;obtain⟨hc,hf,hs⟩:=ac hb;(try have hz0:=zA hb w.heap.size);(try have hz1:=zA hb (w.heap.size+1)))
        |(go_at_call 147;refine(av _ _ _ _ _).mono ?_;rintro e w' ⟨rfl,hb⟩;obtain⟨hc,hf,hs⟩:=ac hb;(try have hz0:=zA hb w.heap.size);(try have hz1:=zA hb (w.heap.size+1))))
       go_ret
       exact⟨af (aa hq).symm,(ar)⟩
      ·cases fz:(fn==0)
       ·have hq:Hid (aO l mark ky st en an asu ale amo fn fsu fle fmo td false=true):=ab (by simp[aO,c0,c1,c2,c3,c4,c5,c6,c7,ov,tp,fz])
        go_enter Tryz.func143,Tryz.ntmps143
        go_wp2_with (first
         |(go_at_call 63;refine(al _ _ _ _).mono ?_;rintro e' w' ⟨rfl,rfl⟩)
         |(go_at_call 146;refine(au _ _ _).mono ?_;rintro e w' ⟨rfl,hb⟩;obtain⟨hc,hf,hs⟩:=ac hb;(try have hz0:=zA hb w.heap.size);(try have hz1:=zA hb (w.heap.size+1)))
         |(go_at_call 147;refine(av _ _ _ _ _).mono ?_;rintro e w' ⟨rfl,hb⟩;obtain⟨hc,hf,hs⟩:=ac hb;(try have hz0:=zA hb w.heap.size);(try have hz1:=zA hb (w.heap.size+1))))
        go_ret
        exact⟨af (by first|exact(aa hq).symm|(rw[aa hq];simp[ov,tp])),(ar)⟩
       ·have hq:Hid (aO l mark ky st en an asu ale amo fn fsu fle fmo td false=false):=ab (by simp[aO,c0,c1,c2,c3,c4,c5,c6,c7,ov,tp,fz])
        go_enter Tryz.func143,Tryz.ntmps143
        go_wp2_with (first
         |(go_at_call 63;refine(al _ _ _ _).mono ?_;rintro e' w' ⟨rfl,rfl⟩)
         |(go_at_call 146;refine(au _ _ _).mono ?_;rintro e w' ⟨rfl,hb⟩;obtain⟨hc,hf,hs⟩:=ac hb;(try have hz0:=zA hb w.heap.size);(try have hz1:=zA hb (w.heap.size+1)))
         |(go_at_call 147;refine(av _ _ _ _ _).mono ?_;rintro e w' ⟨rfl,hb⟩;obtain⟨hc,hf,hs⟩:=ac hb;(try have hz0:=zA hb w.heap.size);(try have hz1:=zA hb (w.heap.size+1))))
        go_ret
        exact⟨af (aa hq).symm,(ar)⟩
     ·exfalso;omega
    ·have hq:Hid (aO l mark ky st en an asu ale amo fn fsu fle fmo td true=false):=ab (by simp[aO,c0,c1,c2,c3,c4,c5,c6,ov])
     go_enter Tryz.func143,Tryz.ntmps143
     go_wp2_with (first
      |(go_at_call 63;refine(al _ _ _ _).mono ?_;rintro e' w' ⟨rfl,rfl⟩)
      |(go_at_call 146;refine(au _ _ _).mono ?_;rintro e w' ⟨rfl,hb⟩;obtain⟨hc,hf,hs⟩:=ac hb;(try have hz0:=zA hb w.heap.size);(try have hz1:=zA hb (w.heap.size+1)))
      |(go_at_call 147;refine(av _ _ _ _ _).mono ?_;rintro e w' ⟨rfl,hb⟩;obtain⟨hc,hf,hs⟩:=ac hb;(try have hz0:=zA hb w.heap.size);(try have hz1:=zA hb (w.heap.size+1))))
     go_ret
     exact⟨af (aa hq).symm,(ar)⟩
  ·have hq:Hid (aO l mark ky st en an asu ale amo fn fsu fle fmo td tm=false):=ab (by simp[aO,c0,c1,c2,c3,c4,c5])
   go_enter Tryz.func143,Tryz.ntmps143
   go_wp2_with (first
    |(go_at_call 63;refine(al _ _ _ _).mono ?_;rintro e' w' ⟨rfl,rfl⟩)
    |(go_at_call 146;refine(au _ _ _).mono ?_;rintro e w' ⟨rfl,hb⟩;obtain⟨hc,hf,hs⟩:=ac hb;(try have hz0:=zA hb w.heap.size);(try have hz1:=zA hb (w.heap.size+1)))
    |(go_at_call 147;refine(av _ _ _ _ _).mono ?_;rintro e w' ⟨rfl,hb⟩;obtain⟨hc,hf,hs⟩:=ac hb;(try have hz0:=zA hb w.heap.size);(try have hz1:=zA hb (w.heap.size+1))))
   go_ret
   exact⟨af (aa hq).symm,(ar)⟩
 ·have hq:Hid (aO l mark ky st en an asu ale amo fn fsu fle fmo td tm=false):=ab (by simp[aO,c0,c1,c2,c3])
  go_enter Tryz.func143,Tryz.ntmps143
  go_wp2_with (first
   |(go_at_call 63;refine(al _ _ _ _).mono ?_;rintro e' w' ⟨rfl,rfl⟩)
   |(go_at_call 146;refine(au _ _ _).mono ?_;rintro e w' ⟨rfl,hb⟩;obtain⟨hc,hf,hs⟩:=ac hb;(try have hz0:=zA hb w.heap.size);(try have hz1:=zA hb (w.heap.size+1)))
   |(go_at_call 147;refine(av _ _ _ _ _).mono ?_;rintro e w' ⟨rfl,hb⟩;obtain⟨hc,hf,hs⟩:=ac hb;(try have hz0:=zA hb w.heap.size);(try have hz1:=zA hb (w.heap.size+1))))
  go_ret
  exact⟨af (aa hq).symm,(ar)⟩
theorem bt{l mark:Int}(ky st en an asu ale amo fn fsu fle fmo td:Int)(tm:Bool):aO l mark ky st en an asu ale amo fn fsu fle fmo td tm=(bl ky st en&&dj an asu ale amo&&dj fn fsu fle fmo&&aP td 0 1500&& !(an==0)&&decide (fn≤an)&&decide (mark<en+l)&&(tm==decide (en≤mark))&&(decide (0<td)==decide (en≤mark))&&((fn==0)==decide (en≤mark))):=rfl
set_option maxRecDepth 20000 in
set_option maxHeartbeats 4000000 in
theorem ej(ky st en an asu ale amo fn fsu fle fmo td:Int)(tm:Bool)(mark l:Int)(hl:0≤l∧l≤20)(w:World):Calls Tryz.prog 187 #[.agg #[.int .i64 ky,.int .i64 st,.int .i64 en,.int .i64 an,.int .i64 asu,.int .i64 ale,.int .i64 amo,.int .i64 fn,.int .i64 fsu,.int .i64 fle,.int .i64 fmo,.int .i64 td,.bool tm],.int .i64 mark,.int .i64 l] w fun e' w'=>e'= .returned (.bool (aO l mark ky st en an asu ale amo fn fsu fle fmo td tm))∧Below w.heap.size w w':=by
 cases c0:bl ky st en
 ·have hq:Hid (aO l mark ky st en an asu ale amo fn fsu fle fmo td tm=false):=ab (by simp[bt,c0])
  go_enter Tryz.func187,Tryz.ntmps187
  go_wp2_with (first
   |(go_at_call 198;refine(aD _ _ _ _ _ _ _ _ _ _ _ _ _ _).mono ?_;rintro e w' ⟨rfl,hb⟩;obtain⟨hc,hf,hs⟩:=ac hb;(try have hz0:=zA hb w.heap.size);(try have hz1:=zA hb (w.heap.size+1)))
   |(go_at_call 192;refine(ax _ _ _ _).mono ?_;rintro e w' ⟨rfl,hb⟩;obtain⟨hc,hf,hs⟩:=ac hb;(try have hz0:=zA hb w.heap.size);(try have hz1:=zA hb (w.heap.size+1)))
   |(go_at_call 126;refine(ah _ _ _ _).mono ?_;rintro e' w' ⟨rfl,rfl⟩)
   |(go_at_call 193;refine(aC _ _ _ _ _).mono ?_;rintro e w' ⟨rfl,hb⟩;obtain⟨hc,hf,hs⟩:=ac hb;(try have hz0:=zA hb w.heap.size);(try have hz1:=zA hb (w.heap.size+1))))
  go_ret
  exact⟨af (aa hq).symm,(ar)⟩
 have c1:bV st en=true:=by simp only[bl,Bool.and_eq_true]at c0;exact c0.2
 have cc0:aP ky 0 3=true:=by simp only[bl,Bool.and_eq_true]at c0;exact c0.1
 have hen:=ib c1
 cases c2:dj an asu ale amo
 ·have hq:Hid (aO l mark ky st en an asu ale amo fn fsu fle fmo td tm=false):=ab (by simp[bt,c0,c2])
  go_enter Tryz.func187,Tryz.ntmps187
  go_wp2_with (first
   |(go_at_call 198;refine(aD _ _ _ _ _ _ _ _ _ _ _ _ _ _).mono ?_;rintro e w' ⟨rfl,hb⟩;obtain⟨hc,hf,hs⟩:=ac hb;(try have hz0:=zA hb w.heap.size);(try have hz1:=zA hb (w.heap.size+1)))
   |(go_at_call 192;refine(ax _ _ _ _).mono ?_;rintro e w' ⟨rfl,hb⟩;obtain⟨hc,hf,hs⟩:=ac hb;(try have hz0:=zA hb w.heap.size);(try have hz1:=zA hb (w.heap.size+1)))
   |(go_at_call 126;refine(ah _ _ _ _).mono ?_;rintro e' w' ⟨rfl,rfl⟩)
   |(go_at_call 193;refine(aC _ _ _ _ _).mono ?_;rintro e w' ⟨rfl,hb⟩;obtain⟨hc,hf,hs⟩:=ac hb;(try have hz0:=zA hb w.heap.size);(try have hz1:=zA hb (w.heap.size+1))))
  go_ret
  exact⟨af (aa hq).symm,(ar)⟩
 cases c4:dj fn fsu fle fmo
 ·have hq:Hid (aO l mark ky st en an asu ale amo fn fsu fle fmo td tm=false):=ab (by simp[bt,c0,c2,c4])
  go_enter Tryz.func187,Tryz.ntmps187
  go_wp2_with (first
   |(go_at_call 198;refine(aD _ _ _ _ _ _ _ _ _ _ _ _ _ _).mono ?_;rintro e w' ⟨rfl,hb⟩;obtain⟨hc,hf,hs⟩:=ac hb;(try have hz0:=zA hb w.heap.size);(try have hz1:=zA hb (w.heap.size+1)))
   |(go_at_call 192;refine(ax _ _ _ _).mono ?_;rintro e w' ⟨rfl,hb⟩;obtain⟨hc,hf,hs⟩:=ac hb;(try have hz0:=zA hb w.heap.size);(try have hz1:=zA hb (w.heap.size+1)))
   |(go_at_call 126;refine(ah _ _ _ _).mono ?_;rintro e' w' ⟨rfl,rfl⟩)
   |(go_at_call 193;refine(aC _ _ _ _ _).mono ?_;rintro e w' ⟨rfl,hb⟩;obtain⟨hc,hf,hs⟩:=ac hb;(try have hz0:=zA hb w.heap.size);(try have hz1:=zA hb (w.heap.size+1))))
  go_ret
  exact⟨af (aa hq).symm,(ar)⟩
 cases c6:aP td 0 1500
 ·have hq:Hid (aO l mark ky st en an asu ale amo fn fsu fle fmo td tm=false):=ab (by simp[bt,c0,c2,c4,c6])
  go_enter Tryz.func187,Tryz.ntmps187
  go_wp2_with (first
   |(go_at_call 198;refine(aD _ _ _ _ _ _ _ _ _ _ _ _ _ _).mono ?_;rintro e w' ⟨rfl,hb⟩;obtain⟨hc,hf,hs⟩:=ac hb;(try have hz0:=zA hb w.heap.size);(try have hz1:=zA hb (w.heap.size+1)))
   |(go_at_call 192;refine(ax _ _ _ _).mono ?_;rintro e w' ⟨rfl,hb⟩;obtain⟨hc,hf,hs⟩:=ac hb;(try have hz0:=zA hb w.heap.size);(try have hz1:=zA hb (w.heap.size+1)))
   |(go_at_call 126;refine(ah _ _ _ _).mono ?_;rintro e' w' ⟨rfl,rfl⟩)
   |(go_at_call 193;refine(aC _ _ _ _ _).mono ?_;rintro e w' ⟨rfl,hb⟩;obtain⟨hc,hf,hs⟩:=ac hb;(try have hz0:=zA hb w.heap.size);(try have hz1:=zA hb (w.heap.size+1))))
  go_ret
  exact⟨af (aa hq).symm,(ar)⟩
 cases c3:(an==0)
 ·by_cases c5:fn≤an
  ·by_cases c7:mark<en+l
   ·by_cases ov:en≤mark
    ·cases tm
     ·have hq:Hid (aO l mark ky st en an asu ale amo fn fsu fle fmo td false=false):=ab (by simp[bt,c0,c2,c4,c6,c3,c5,c7,ov])
      go_enter Tryz.func187,Tryz.ntmps187
      go_wp2_with (first
       |(go_at_call 198;refine(aD _ _ _ _ _ _ _ _ _ _ _ _ _ _).mono ?_;rintro e w' ⟨rfl,hb⟩;obtain⟨hc,hf,hs⟩:=ac hb;(try have hz0:=zA hb w.heap.size);(try have hz1:=zA hb (w.heap.size+1)))
       |(go_at_call 192;refine(ax _ _ _ _).mono ?_;rintro e w' ⟨rfl,hb⟩;obtain⟨hc,hf,hs⟩:=ac hb;(try have hz0:=zA hb w.heap.size);(try have hz1:=zA hb (w.heap.size+1)))
       |(go_at_call 126;refine(ah _ _ _ _).mono ?_;rintro e' w' ⟨rfl,rfl⟩)
       |(go_at_call 193;refine(aC _ _ _ _ _).mono ?_;rintro e w' ⟨rfl,hb⟩;obtain⟨hc,hf,hs⟩:=ac hb;(try have hz0:=zA hb w.heap.size);(try have hz1:=zA hb (w.heap.size+1))))
      go_ret
      exact⟨af (aa hq).symm,(ar)⟩
     ·by_cases tp:0<td
      ·cases fz:(fn==0)
       ·have hq:Hid (aO l mark ky st en an asu ale amo fn fsu fle fmo td true=false):=ab (by simp[bt,c0,c2,c4,c6,c3,c5,c7,ov,tp,fz])
        go_enter Tryz.func187,Tryz.ntmps187
        go_wp2_with (first
         |(go_at_call 198;refine(aD _ _ _ _ _ _ _ _ _ _ _ _ _ _).mono ?_;rintro e w' ⟨rfl,hb⟩;obtain⟨hc,hf,hs⟩:=ac hb;(try have hz0:=zA hb w.heap.size);(try have hz1:=zA hb (w.heap.size+1)))
         |(go_at_call 192;refine(ax _ _ _ _).mono ?_;rintro e w' ⟨rfl,hb⟩;obtain⟨hc,hf,hs⟩:=ac hb;(try have hz0:=zA hb w.heap.size);(try have hz1:=zA hb (w.heap.size+1)))
         |(go_at_call 126;refine(ah _ _ _ _).mono ?_;rintro e' w' ⟨rfl,rfl⟩)
         |(go_at_call 193;refine(aC _ _ _ _ _).mono ?_;rintro e w' ⟨rfl,hb⟩;obtain⟨hc,hf,hs⟩:=ac hb;(try have hz0:=zA hb w.heap.size);(try have hz1:=zA hb (w.heap.size+1))))
        go_ret
        exact⟨af (aa hq).symm,(ar)⟩
       ·have hq:Hid (aO l mark ky st en an asu ale amo fn fsu fle fmo td true=true):=ab (by simp[bt,c0,c2,c4,c6,c3,c5,c7,ov,tp,fz])
        go_enter Tryz.func187,Tryz.ntmps187
        go_wp2_with (first
         |(go_at_call 198;refine(aD _ _ _ _ _ _ _ _ _ _ _ _ _ _).mono ?_;rintro e w' ⟨rfl,hb⟩;obtain⟨hc,hf,hs⟩:=ac hb;(try have hz0:=zA hb w.heap.size);(try have hz1:=zA hb (w.heap.size+1)))
         |(go_at_call 192;refine(ax _ _ _ _).mono ?_;rintro e w' ⟨rfl,hb⟩;obtain⟨hc,hf,hs⟩:=ac hb;(try have hz0:=zA hb w.heap.size);(try have hz1:=zA hb (w.heap.size+1)))
         |(go_at_call 126;refine(ah _ _ _ _).mono ?_;rintro e' w' ⟨rfl,rfl⟩)
         |(go_at_call 193;refine(aC _ _ _ _ _).mono ?_;rintro e w' ⟨rfl,hb⟩;obtain⟨hc,hf,hs⟩:=ac hb;(try have hz0:=zA hb w.heap.size);(try have hz1:=zA hb (w.heap.size+1))))
        go_ret
        exact⟨af (by first|exact(aa hq).symm|(rw[aa hq];simp[ov])),(ar)⟩
      ·have hq:Hid (aO l mark ky st en an asu ale amo fn fsu fle fmo td true=false):=ab (by simp[bt,c0,c2,c4,c6,c3,c5,c7,ov,tp])
       go_enter Tryz.func187,Tryz.ntmps187
       go_wp2_with (first
        |(go_at_call 198;refine(aD _ _ _ _ _ _ _ _ _ _ _ _ _ _).mono ?_;rintro e w' ⟨rfl,hb⟩;obtain⟨hc,hf,hs⟩:=ac hb;(try have hz0:=zA hb w.heap.size);(try have hz1:=zA hb (w.heap.size+1)))
        |(go_at_call 192;refine(ax _ _ _ _).mono ?_;rintro e w' ⟨rfl,hb⟩;obtain⟨hc,hf,hs⟩:=ac hb;(try have hz0:=zA hb w.heap.size);(try have hz1:=zA hb (w.heap.size+1)))
        |(go_at_call 126;refine(ah _ _ _ _).mono ?_;rintro e' w' ⟨rfl,rfl⟩)
        |(go_at_call 193;refine(aC _ _ _ _ _).mono ?_;rintro e w' ⟨rfl,hb⟩;obtain⟨hc,hf,hs⟩:=ac hb;(try have hz0:=zA hb w.heap.size);(try have hz1:=zA hb (w.heap.size+1))))
       go_ret
       exact⟨af (aa hq).symm,(ar)⟩
    ·cases tm
     ·by_cases tp:0<td
      ·have hq:Hid (aO l mark ky st en an asu ale amo fn fsu fle fmo td false=false):=ab (by simp[bt,c0,c2,c4,c6,c3,c5,c7,ov,tp])
       go_enter Tryz.func187,Tryz.ntmps187
       go_wp2_with (first
        |(go_at_call 198;refine(aD _ _ _ _ _ _ _ _ _ _ _ _ _ _).mono ?_;rintro e w' ⟨rfl,hb⟩;obtain⟨hc,hf,hs⟩:=ac hb;(try have hz0:=zA hb w.heap.size);(try have hz1:=zA hb (w.heap.size+1)))
        |(go_at_call 192;refine(ax _ _ _ _).mono ?_;rintro e w' ⟨rfl,hb⟩;obtain⟨hc,hf,hs⟩:=ac hb;(try have hz0:=zA hb w.heap.size);(try have hz1:=zA hb (w.heap.size+1)))
        |(go_at_call 126;refine(ah _ _ _ _).mono ?_;rintro e' w' ⟨rfl,rfl⟩)
        |(go_at_call 193;refine(aC _ _ _ _ _).mono ?_;rintro e w' ⟨rfl,hb⟩;obtain⟨hc,hf,hs⟩:=ac hb;(try have hz0:=zA hb w.heap.size);(try have hz1:=zA hb (w.heap.size+1))))
       go_ret
       exact⟨af (aa hq).symm,(ar)⟩
      ·cases fz:(fn==0)
       ·have hq:Hid (aO l mark ky st en an asu ale amo fn fsu fle fmo td false=true):=ab (by simp[bt,c0,c2,c4,c6,c3,c5,c7,ov,tp,fz])
        go_enter Tryz.func187,Tryz.ntmps187
        go_wp2_with (first
         |(go_at_call 198;refine(aD _ _ _ _ _ _ _ _ _ _ _ _ _ _).mono ?_;rintro e w' ⟨rfl,hb⟩;obtain⟨hc,hf,hs⟩:=ac hb;(try have hz0:=zA hb w.heap.size);(try have hz1:=zA hb (w.heap.size+1)))
         |(go_at_call 192;refine(ax _ _ _ _).mono ?_;rintro e w' ⟨rfl,hb⟩;obtain⟨hc,hf,hs⟩:=ac hb;(try have hz0:=zA hb w.heap.size);(try have hz1:=zA hb (w.heap.size+1)))
         |(go_at_call 126;refine(ah _ _ _ _).mono ?_;rintro e' w' ⟨rfl,rfl⟩)
         |(go_at_call 193;refine(aC _ _ _ _ _).mono ?_;rintro e w' ⟨rfl,hb⟩;obtain⟨hc,hf,hs⟩:=ac hb;(try have hz0:=zA hb w.heap.size);(try have hz1:=zA hb (w.heap.size+1))))
        go_ret
        exact⟨af (by first|exact(aa hq).symm|(rw[aa hq];simp[ov])),(ar)⟩
       ·have hq:Hid (aO l mark ky st en an asu ale amo fn fsu fle fmo td false=false):=ab (by simp[bt,c0,c2,c4,c6,c3,c5,c7,ov,tp,fz])
        go_enter Tryz.func187,Tryz.ntmps187
        go_wp2_with (first
         |(go_at_call 198;refine(aD _ _ _ _ _ _ _ _ _ _ _ _ _ _).mono ?_;rintro e w' ⟨rfl,hb⟩;obtain⟨hc,hf,hs⟩:=ac hb;(try have hz0:=zA hb w.heap.size);(try have hz1:=zA hb (w.heap.size+1)))
         |(go_at_call 192;refine(ax _ _ _ _).mono ?_;rintro e w' ⟨rfl,hb⟩;obtain⟨hc,hf,hs⟩:=ac hb;(try have hz0:=zA hb w.heap.size);(try have hz1:=zA hb (w.heap.size+1)))
         |(go_at_call 126;refine(ah _ _ _ _).mono ?_;rintro e' w' ⟨rfl,rfl⟩)
         |(go_at_call 193;refine(aC _ _ _ _ _).mono ?_;rintro e w' ⟨rfl,hb⟩;obtain⟨hc,hf,hs⟩:=ac hb;(try have hz0:=zA hb w.heap.size);(try have hz1:=zA hb (w.heap.size+1))))
        go_ret
        exact⟨af (aa hq).symm,(ar)⟩
     ·have hq:Hid (aO l mark ky st en an asu ale amo fn fsu fle fmo td true=false):=ab (by simp[bt,c0,c2,c4,c6,c3,c5,c7,ov])
      go_enter Tryz.func187,Tryz.ntmps187
      go_wp2_with (first
       |(go_at_call 198;refine(aD _ _ _ _ _ _ _ _ _ _ _ _ _ _).mono ?_;rintro e w' ⟨rfl,hb⟩;obtain⟨hc,hf,hs⟩:=ac hb;(try have hz0:=zA hb w.heap.size);(try have hz1:=zA hb (w.heap.size+1)))
       |(go_at_call 192;refine(ax _ _ _ _).mono ?_;rintro e w' ⟨rfl,hb⟩;obtain⟨hc,hf,hs⟩:=ac hb;(try have hz0:=zA hb w.heap.size);(try have hz1:=zA hb (w.heap.size+1)))
       |(go_at_call 126;refine(ah _ _ _ _).mono ?_;rintro e' w' ⟨rfl,rfl⟩)
       |(go_at_call 193;refine(aC _ _ _ _ _).mono ?_;rintro e w' ⟨rfl,hb⟩;obtain⟨hc,hf,hs⟩:=ac hb;(try have hz0:=zA hb w.heap.size);(try have hz1:=zA hb (w.heap.size+1))))
      go_ret
      exact⟨af (aa hq).symm,(ar)⟩
   ·have hq:Hid (aO l mark ky st en an asu ale amo fn fsu fle fmo td tm=false):=ab (by simp[bt,c0,c2,c4,c6,c3,c5,c7])
    go_enter Tryz.func187,Tryz.ntmps187
    go_wp2_with (first
     |(go_at_call 198;refine(aD _ _ _ _ _ _ _ _ _ _ _ _ _ _).mono ?_;rintro e w' ⟨rfl,hb⟩;obtain⟨hc,hf,hs⟩:=ac hb;(try have hz0:=zA hb w.heap.size);(try have hz1:=zA hb (w.heap.size+1)))
     |(go_at_call 192;refine(ax _ _ _ _).mono ?_;rintro e w' ⟨rfl,hb⟩;obtain⟨hc,hf,hs⟩:=ac hb;(try have hz0:=zA hb w.heap.size);(try have hz1:=zA hb (w.heap.size+1)))
     |(go_at_call 126;refine(ah _ _ _ _).mono ?_;rintro e' w' ⟨rfl,rfl⟩)
     |(go_at_call 193;refine(aC _ _ _ _ _).mono ?_;rintro e w' ⟨rfl,hb⟩;obtain⟨hc,hf,hs⟩:=ac hb;(try have hz0:=zA hb w.heap.size);(try have hz1:=zA hb (w.heap.size+1))))
    go_ret
    exact⟨af (aa hq).symm,(ar)⟩
  ·have hq:Hid (aO l mark ky st en an asu ale amo fn fsu fle fmo td tm=false):=ab (by simp[bt,c0,c2,c4,c6,c3,c5])
   go_enter Tryz.func187,Tryz.ntmps187
   go_wp2_with (first
    |(go_at_call 198;refine(aD _ _ _ _ _ _ _ _ _ _ _ _ _ _).mono ?_;rintro e w' ⟨rfl,hb⟩;obtain⟨hc,hf,hs⟩:=ac hb;(try have hz0:=zA hb w.heap.size);(try have hz1:=zA hb (w.heap.size+1)))
    |(go_at_call 192;refine(ax _ _ _ _).mono ?_;rintro e w' ⟨rfl,hb⟩;obtain⟨hc,hf,hs⟩:=ac hb;(try have hz0:=zA hb w.heap.size);(try have hz1:=zA hb (w.heap.size+1)))
    |(go_at_call 126;refine(ah _ _ _ _).mono ?_;rintro e' w' ⟨rfl,rfl⟩)
    |(go_at_call 193;refine(aC _ _ _ _ _).mono ?_;rintro e w' ⟨rfl,hb⟩;obtain⟨hc,hf,hs⟩:=ac hb;(try have hz0:=zA hb w.heap.size);(try have hz1:=zA hb (w.heap.size+1))))
   go_ret
   exact⟨af (aa hq).symm,(ar)⟩
 ·have hq:Hid (aO l mark ky st en an asu ale amo fn fsu fle fmo td tm=false):=ab (by simp[bt,c0,c2,c4,c6,c3])
  go_enter Tryz.func187,Tryz.ntmps187
  go_wp2_with (first
   |(go_at_call 198;refine(aD _ _ _ _ _ _ _ _ _ _ _ _ _ _).mono ?_;rintro e w' ⟨rfl,hb⟩;obtain⟨hc,hf,hs⟩:=ac hb;(try have hz0:=zA hb w.heap.size);(try have hz1:=zA hb (w.heap.size+1)))
   |(go_at_call 192;refine(ax _ _ _ _).mono ?_;rintro e w' ⟨rfl,hb⟩;obtain⟨hc,hf,hs⟩:=ac hb;(try have hz0:=zA hb w.heap.size);(try have hz1:=zA hb (w.heap.size+1)))
   |(go_at_call 126;refine(ah _ _ _ _).mono ?_;rintro e' w' ⟨rfl,rfl⟩)
   |(go_at_call 193;refine(aC _ _ _ _ _).mono ?_;rintro e w' ⟨rfl,hb⟩;obtain⟨hc,hf,hs⟩:=ac hb;(try have hz0:=zA hb w.heap.size);(try have hz1:=zA hb (w.heap.size+1))))
  go_ret
  exact⟨af (aa hq).symm,(ar)⟩
/-- Whether two windows touch. -/
def aT(a b c d:Int):Bool:=decide (a<d)&&decide (c<b)
theorem bp(a b c d:Int)(w:World):Calls Tryz.prog 199 #[.agg #[.int .i64 a,.int .i64 b],.agg #[.int .i64 c,.int .i64 d]] w fun e w'=>e= .returned (.bool (aT a b c d))∧Below w.heap.size w w':=by
 by_cases h1:a<d
 ·by_cases h2:c<b
  ·have h3:Hid (aT a b c d=true):=ab (by simp only[aT];simp[h1,h2])
   go_enter Tryz.func199,Tryz.ntmps199
   go_wp2
   go_ret
   exact⟨af (aa h3).symm,aB (ai _ _) _⟩
  ·have h3:Hid (aT a b c d=false):=ab (by simp only[aT];simp[h1,h2])
   go_enter Tryz.func199,Tryz.ntmps199
   go_wp2
   go_ret
   exact⟨af (aa h3).symm,aB (ai _ _) _⟩
 ·have h3:Hid (aT a b c d=false):=ab (by simp only[aT];simp[h1])
  go_enter Tryz.func199,Tryz.ntmps199
  go_wp2
  go_ret
  exact⟨af (aa h3).symm,aB (ai _ _) _⟩
theorem cZ(a b c d:Int)(w:World):Calls Tryz.prog 145 #[.agg #[.int .i64 a,.int .i64 b],.agg #[.int .i64 c,.int .i64 d]] w fun e w'=>e= .returned (.bool (aT a b c d))∧Below w.heap.size w w':=by
 by_cases h1:a<d
 ·by_cases h2:c<b
  ·have h3:Hid (aT a b c d=true):=ab (by simp only[aT];simp[h1,h2])
   go_enter Tryz.func145,Tryz.ntmps145
   go_wp2
   go_ret
   exact⟨af (aa h3).symm,aB (ai _ _) _⟩
  ·have h3:Hid (aT a b c d=false):=ab (by simp only[aT];simp[h1,h2])
   go_enter Tryz.func145,Tryz.ntmps145
   go_wp2
   go_ret
   exact⟨af (aa h3).symm,aB (ai _ _) _⟩
 ·have h3:Hid (aT a b c d=false):=ab (by simp only[aT];simp[h1])
  go_enter Tryz.func145,Tryz.ntmps145
  go_wp2
  go_ret
  exact⟨af (aa h3).symm,aB (ai _ _) _⟩
theorem jg{a b:Bool}(h:b=a):Ending.returned (.bool a)= .returned (.bool b):=by rw[h]
/-- Whether a window of a key is ahead of another one. -/
def cC(ky st en ky' st' en':Int):Bool:=decide (gy ky st en ky' st' en'<0)
theorem iS{ky st en ky' st' en':Int}(h:¬ ky=ky'):cC ky st en ky' st' en'=decide (ky<ky'):=by
 unfold cC gy orI fM
 by_cases h1:ky<ky'
 ·simp[h1]
 ·have h2:ky'<ky:=by omega
  simp[h1,h2]
theorem iT{ky st en st' en':Int}(h2:¬ st=st'):cC ky st en ky st' en'=decide (st<st'):=by
 unfold cC gy orI fM
 by_cases h1:st<st'
 ·simp[h1]
 ·have h3:st'<st:=by omega
  simp[h1,h3]
theorem iU{ky st en en':Int}:cC ky st en ky st en'=decide (en<en'):=by
 unfold cC gy orI fM
 by_cases h1:en<en'
 ·simp[h1]
 ·by_cases h3:en'<en
  ·simp[h1,h3]
  ·simp[h1,h3]
/-- Whether a window is ahead of another one. -/
def lessW(st en st' en':Int):Bool:=if st=st' then decide (en<en')else decide (st<st')
theorem l2less_any(st en st' en':Int)(w:World):Calls Tryz.prog 178 #[.agg #[.int .i64 st,.int .i64 en],.agg #[.int .i64 st',.int .i64 en']] w fun e w'=>e= .returned (.bool (lessW st en st' en'))∧Below w.heap.size w w':=by
 by_cases h:st=st'
 ·have hq:lessW st en st' en'=decide (en<en'):=if_pos h
  have HQ:=ab hq
  have h':(st==st')=true:=by simpa using h
  clear hq
  go_enter Tryz.func178,Tryz.ntmps178
  go_wp2
  go_ret
  exact⟨jg (aa HQ),(ak)⟩
 ·have hq:lessW st en st' en'=decide (st<st'):=if_neg h
  have HQ:=ab hq
  have h':(st==st')=false:=by simpa using h
  clear hq
  go_enter Tryz.func178,Tryz.ntmps178
  go_wp2
  go_ret
  exact⟨jg (aa HQ),(ak)⟩
theorem ahead_kP{ky st en st' en':Int}:lessW st en st' en'=cC ky st en ky st' en':=by
 unfold lessW
 by_cases h2:st=st'
 ·subst h2;rw[if_pos rfl,iU]
 ·rw[if_neg h2,iT h2]
theorem fX(ky st en ky' st' en':Int)(w:World):Calls Tryz.prog 144 #[.int .i64 ky,.agg #[.int .i64 st,.int .i64 en],.int .i64 ky',.agg #[.int .i64 st',.int .i64 en']] w fun e w'=>e= .returned (.bool (cC ky st en ky' st' en'))∧Below w.heap.size w w':=by
 by_cases h:ky=ky'
 ·subst h
  have HQ:=ab (ahead_kP (ky:=ky) (st:=st) (en:=en) (st':=st') (en':=en')).symm
  go_enter Tryz.func144,Tryz.ntmps144
  go_wp2_with (go_at_call 178;refine(l2less_any _ _ _ _ _).mono ?_;rintro e w' ⟨rfl,hb⟩)
  go_ret
  exact⟨jg (aa HQ),(ak)⟩
 ·have HQ:=ab (iS (st:=st) (en:=en) (st':=st') (en':=en') h)
  have h':(ky==ky')=false:=by simpa using h
  go_enter Tryz.func144,Tryz.ntmps144
  go_wp2
  go_ret
  exact⟨jg (aa HQ),(ak)⟩
/-- Whether a row may stand behind another one. -/
def dk(kd ky st en ky' st' en':Int):Bool:= !(kd==3&&(ky==ky'&&aT st en st' en'))&&cC ky' st' en' ky st en
set_option maxRecDepth 20000 in
set_option maxHeartbeats 4000000 in
theorem ie(ky st en an asu ale amo fn fsu fle fmo td:Int)(tm:Bool)(ky' st' en' an' asu' ale' amo' fn' fsu' fle' fmo' td':Int)(tm':Bool)(kd:Int)(w:World):Calls Tryz.prog 188 #[.agg #[.int .i64 ky,.int .i64 st,.int .i64 en,.int .i64 an,.int .i64 asu,.int .i64 ale,.int .i64 amo,.int .i64 fn,.int .i64 fsu,.int .i64 fle,.int .i64 fmo,.int .i64 td,.bool tm],.agg #[.int .i64 ky',.int .i64 st',.int .i64 en',.int .i64 an',.int .i64 asu',.int .i64 ale',.int .i64 amo',.int .i64 fn',.int .i64 fsu',.int .i64 fle',.int .i64 fmo',.int .i64 td',.bool tm'],.int .i64 kd] w fun e' w'=>e'= .returned (.bool (dk kd ky st en ky' st' en'))∧Below w.heap.size w w':=by
 cases c0:(kd==3)
 ·have hq:Hid (dk kd ky st en ky' st' en'=decide (gy ky' st' en' ky st en<0)):=ab (by simp[dk,c0,cC])
  go_enter Tryz.func188,Tryz.ntmps188
  go_wp2_with (first
   |(go_at_call 199;refine(bp _ _ _ _ _).mono ?_;rintro e w' ⟨rfl,hb⟩;obtain⟨hc,hf,hs⟩:=ac hb;(try have hz0:=zA hb w.heap.size);(try have hz1:=zA hb (w.heap.size+1)))
   |(go_at_call 198;refine(aD _ _ _ _ _ _ _ _ _ _ _ _ _ _).mono ?_;rintro e w' ⟨rfl,hb⟩;obtain⟨hc,hf,hs⟩:=ac hb;(try have hz0:=zA hb w.heap.size);(try have hz1:=zA hb (w.heap.size+1)))
   |(go_at_call 200;refine(bo _ _ _ _ _ _ _).mono ?_;rintro e w' ⟨rfl,hb⟩;obtain⟨hc,hf,hs⟩:=ac hb;(try have hz0:=zA hb w.heap.size);(try have hz1:=zA hb (w.heap.size+1))))
  go_region_held3 (fun W=>((W.cell? ⟨w.heap.size,0,none⟩=some (.int .i64 ky)∧W.cell? ⟨w.heap.size,1,none⟩=some (.int .i64 st)∧W.cell? ⟨w.heap.size,2,none⟩=some (.int .i64 en)∧W.cell? ⟨w.heap.size,3,none⟩=some (.int .i64 an)∧W.cell? ⟨w.heap.size,4,none⟩=some (.int .i64 asu)∧W.cell? ⟨w.heap.size,5,none⟩=some (.int .i64 ale)∧W.cell? ⟨w.heap.size,6,none⟩=some (.int .i64 amo)∧W.cell? ⟨w.heap.size,7,none⟩=some (.int .i64 fn)∧W.cell? ⟨w.heap.size,8,none⟩=some (.int .i64 fsu)∧W.cell? ⟨w.heap.size,9,none⟩=some (.int .i64 fle)∧W.cell? ⟨w.heap.size,10,none⟩=some (.int .i64 fmo)∧W.cell? ⟨w.heap.size,11,none⟩=some (.int .i64 td)∧W.cell? ⟨w.heap.size,12,none⟩=some (.bool tm)∧W.cell? ⟨w.heap.size+1,0,none⟩=some (.int .i64 ky')∧W.cell? ⟨w.heap.size+1,1,none⟩=some (.int .i64 st')∧W.cell? ⟨w.heap.size+1,2,none⟩=some (.int .i64 en')∧W.cell? ⟨w.heap.size+1,3,none⟩=some (.int .i64 an')∧W.cell? ⟨w.heap.size+1,4,none⟩=some (.int .i64 asu')∧W.cell? ⟨w.heap.size+1,5,none⟩=some (.int .i64 ale')∧W.cell? ⟨w.heap.size+1,6,none⟩=some (.int .i64 amo')∧W.cell? ⟨w.heap.size+1,7,none⟩=some (.int .i64 fn')∧W.cell? ⟨w.heap.size+1,8,none⟩=some (.int .i64 fsu')∧W.cell? ⟨w.heap.size+1,9,none⟩=some (.int .i64 fle')∧W.cell? ⟨w.heap.size+1,10,none⟩=some (.int .i64 fmo')∧W.cell? ⟨w.heap.size+1,11,none⟩=some (.int .i64 td')∧W.cell? ⟨w.heap.size+1,12,none⟩=some (.bool tm'))∧w.heap.size<W.heap.size∧w.heap.size+1<W.heap.size)) ((first|((repeat(first|(with_reducible assumption)|(with_reducible refine bU ?_ (jF))|(with_reducible refine bU ?_ (aj (Below.refl _ _)))|(with_reducible refine bU ?_ (ai _ _))));done)|(refine⟨⟨?_,?_,?_,?_,?_,?_,?_,?_,?_,?_,?_,?_,?_,?_,?_,?_,?_,?_,?_,?_,?_,?_,?_,?_,?_,?_⟩,?_,?_⟩<;>first|(go_keep;done)|(simp;done)|(simp;omega)|omega)))
   (first
   |(go_at_call 199;refine(bp _ _ _ _ _).mono ?_;rintro e w' ⟨rfl,hb⟩;obtain⟨hc,hf,hs⟩:=ac hb)
   |(go_at_call 198;refine(aD _ _ _ _ _ _ _ _ _ _ _ _ _ _).mono ?_;rintro e w' ⟨rfl,hb⟩;obtain⟨hc,hf,hs⟩:=ac hb)
   |(go_at_call 200;refine(bo _ _ _ _ _ _ _).mono ?_;rintro e w' ⟨rfl,hb⟩;obtain⟨hc,hf,hs⟩:=ac hb))
  all_goals
   go_wp2_with (first
    |(go_at_call 199;refine(bp _ _ _ _ _).mono ?_;rintro e w' ⟨rfl,hb⟩;obtain⟨hc,hf,hs⟩:=ac hb;(try have hz0:=zA hb w.heap.size);(try have hz1:=zA hb (w.heap.size+1)))
    |(go_at_call 198;refine(aD _ _ _ _ _ _ _ _ _ _ _ _ _ _).mono ?_;rintro e w' ⟨rfl,hb⟩;obtain⟨hc,hf,hs⟩:=ac hb;(try have hz0:=zA hb w.heap.size);(try have hz1:=zA hb (w.heap.size+1)))
    |(go_at_call 200;refine(bo _ _ _ _ _ _ _).mono ?_;rintro e w' ⟨rfl,hb⟩;obtain⟨hc,hf,hs⟩:=ac hb;(try have hz0:=zA hb w.heap.size);(try have hz1:=zA hb (w.heap.size+1))))
   go_ret
   exact⟨af (aa hq).symm,(ar)⟩
 ·cases c1:(ky==ky')
  ·have hq:Hid (dk kd ky st en ky' st' en'=decide (gy ky' st' en' ky st en<0)):=ab (by simp[dk,c1,cC])
   go_enter Tryz.func188,Tryz.ntmps188
   go_wp2_with (first
    |(go_at_call 199;refine(bp _ _ _ _ _).mono ?_;rintro e w' ⟨rfl,hb⟩;obtain⟨hc,hf,hs⟩:=ac hb;(try have hz0:=zA hb w.heap.size);(try have hz1:=zA hb (w.heap.size+1)))
    |(go_at_call 198;refine(aD _ _ _ _ _ _ _ _ _ _ _ _ _ _).mono ?_;rintro e w' ⟨rfl,hb⟩;obtain⟨hc,hf,hs⟩:=ac hb;(try have hz0:=zA hb w.heap.size);(try have hz1:=zA hb (w.heap.size+1)))
    |(go_at_call 200;refine(bo _ _ _ _ _ _ _).mono ?_;rintro e w' ⟨rfl,hb⟩;obtain⟨hc,hf,hs⟩:=ac hb;(try have hz0:=zA hb w.heap.size);(try have hz1:=zA hb (w.heap.size+1))))
   go_region_held3 (fun W=>((W.cell? ⟨w.heap.size,0,none⟩=some (.int .i64 ky)∧W.cell? ⟨w.heap.size,1,none⟩=some (.int .i64 st)∧W.cell? ⟨w.heap.size,2,none⟩=some (.int .i64 en)∧W.cell? ⟨w.heap.size,3,none⟩=some (.int .i64 an)∧W.cell? ⟨w.heap.size,4,none⟩=some (.int .i64 asu)∧W.cell? ⟨w.heap.size,5,none⟩=some (.int .i64 ale)∧W.cell? ⟨w.heap.size,6,none⟩=some (.int .i64 amo)∧W.cell? ⟨w.heap.size,7,none⟩=some (.int .i64 fn)∧W.cell? ⟨w.heap.size,8,none⟩=some (.int .i64 fsu)∧W.cell? ⟨w.heap.size,9,none⟩=some (.int .i64 fle)∧W.cell? ⟨w.heap.size,10,none⟩=some (.int .i64 fmo)∧W.cell? ⟨w.heap.size,11,none⟩=some (.int .i64 td)∧W.cell? ⟨w.heap.size,12,none⟩=some (.bool tm)∧W.cell? ⟨w.heap.size+1,0,none⟩=some (.int .i64 ky')∧W.cell? ⟨w.heap.size+1,1,none⟩=some (.int .i64 st')∧W.cell? ⟨w.heap.size+1,2,none⟩=some (.int .i64 en')∧W.cell? ⟨w.heap.size+1,3,none⟩=some (.int .i64 an')∧W.cell? ⟨w.heap.size+1,4,none⟩=some (.int .i64 asu')∧W.cell? ⟨w.heap.size+1,5,none⟩=some (.int .i64 ale')∧W.cell? ⟨w.heap.size+1,6,none⟩=some (.int .i64 amo')∧W.cell? ⟨w.heap.size+1,7,none⟩=some (.int .i64 fn')∧W.cell? ⟨w.heap.size+1,8,none⟩=some (.int .i64 fsu')∧W.cell? ⟨w.heap.size+1,9,none⟩=some (.int .i64 fle')∧W.cell? ⟨w.heap.size+1,10,none⟩=some (.int .i64 fmo')∧W.cell? ⟨w.heap.size+1,11,none⟩=some (.int .i64 td')∧W.cell? ⟨w.heap.size+1,12,none⟩=some (.bool tm'))∧w.heap.size<W.heap.size∧w.heap.size+1<W.heap.size)) ((first|((repeat(first|(with_reducible assumption)|(with_reducible refine bU ?_ (jF))|(with_reducible refine bU ?_ (aj (Below.refl _ _)))|(with_reducible refine bU ?_ (ai _ _))));done)|(refine⟨⟨?_,?_,?_,?_,?_,?_,?_,?_,?_,?_,?_,?_,?_,?_,?_,?_,?_,?_,?_,?_,?_,?_,?_,?_,?_,?_⟩,?_,?_⟩<;>first|(go_keep;done)|(simp;done)|(simp;omega)|omega)))
    (first
    |(go_at_call 199;refine(bp _ _ _ _ _).mono ?_;rintro e w' ⟨rfl,hb⟩;obtain⟨hc,hf,hs⟩:=ac hb)
    |(go_at_call 198;refine(aD _ _ _ _ _ _ _ _ _ _ _ _ _ _).mono ?_;rintro e w' ⟨rfl,hb⟩;obtain⟨hc,hf,hs⟩:=ac hb)
    |(go_at_call 200;refine(bo _ _ _ _ _ _ _).mono ?_;rintro e w' ⟨rfl,hb⟩;obtain⟨hc,hf,hs⟩:=ac hb))
   all_goals
    go_wp2_with (first
     |(go_at_call 199;refine(bp _ _ _ _ _).mono ?_;rintro e w' ⟨rfl,hb⟩;obtain⟨hc,hf,hs⟩:=ac hb;(try have hz0:=zA hb w.heap.size);(try have hz1:=zA hb (w.heap.size+1)))
     |(go_at_call 198;refine(aD _ _ _ _ _ _ _ _ _ _ _ _ _ _).mono ?_;rintro e w' ⟨rfl,hb⟩;obtain⟨hc,hf,hs⟩:=ac hb;(try have hz0:=zA hb w.heap.size);(try have hz1:=zA hb (w.heap.size+1)))
     |(go_at_call 200;refine(bo _ _ _ _ _ _ _).mono ?_;rintro e w' ⟨rfl,hb⟩;obtain⟨hc,hf,hs⟩:=ac hb;(try have hz0:=zA hb w.heap.size);(try have hz1:=zA hb (w.heap.size+1))))
    go_ret
    exact⟨af (aa hq).symm,(ar)⟩
  ·cases c2:aT st en st' en'
   ·have hq:Hid (dk kd ky st en ky' st' en'=decide (gy ky' st' en' ky st en<0)):=ab (by simp[dk,c2,cC])
    go_enter Tryz.func188,Tryz.ntmps188
    go_wp2_with (first
     |(go_at_call 199;refine(bp _ _ _ _ _).mono ?_;rintro e w' ⟨rfl,hb⟩;obtain⟨hc,hf,hs⟩:=ac hb;(try have hz0:=zA hb w.heap.size);(try have hz1:=zA hb (w.heap.size+1)))
     |(go_at_call 198;refine(aD _ _ _ _ _ _ _ _ _ _ _ _ _ _).mono ?_;rintro e w' ⟨rfl,hb⟩;obtain⟨hc,hf,hs⟩:=ac hb;(try have hz0:=zA hb w.heap.size);(try have hz1:=zA hb (w.heap.size+1)))
     |(go_at_call 200;refine(bo _ _ _ _ _ _ _).mono ?_;rintro e w' ⟨rfl,hb⟩;obtain⟨hc,hf,hs⟩:=ac hb;(try have hz0:=zA hb w.heap.size);(try have hz1:=zA hb (w.heap.size+1))))
    have hS:((w'.cell? ⟨w.heap.size,0,none⟩=some (.int .i64 ky)∧w'.cell? ⟨w.heap.size,1,none⟩=some (.int .i64 st)∧w'.cell? ⟨w.heap.size,2,none⟩=some (.int .i64 en)∧w'.cell? ⟨w.heap.size,3,none⟩=some (.int .i64 an)∧w'.cell? ⟨w.heap.size,4,none⟩=some (.int .i64 asu)∧w'.cell? ⟨w.heap.size,5,none⟩=some (.int .i64 ale)∧w'.cell? ⟨w.heap.size,6,none⟩=some (.int .i64 amo)∧w'.cell? ⟨w.heap.size,7,none⟩=some (.int .i64 fn)∧w'.cell? ⟨w.heap.size,8,none⟩=some (.int .i64 fsu)∧w'.cell? ⟨w.heap.size,9,none⟩=some (.int .i64 fle)∧w'.cell? ⟨w.heap.size,10,none⟩=some (.int .i64 fmo)∧w'.cell? ⟨w.heap.size,11,none⟩=some (.int .i64 td)∧w'.cell? ⟨w.heap.size,12,none⟩=some (.bool tm)∧w'.cell? ⟨w.heap.size+1,0,none⟩=some (.int .i64 ky')∧w'.cell? ⟨w.heap.size+1,1,none⟩=some (.int .i64 st')∧w'.cell? ⟨w.heap.size+1,2,none⟩=some (.int .i64 en')∧w'.cell? ⟨w.heap.size+1,3,none⟩=some (.int .i64 an')∧w'.cell? ⟨w.heap.size+1,4,none⟩=some (.int .i64 asu')∧w'.cell? ⟨w.heap.size+1,5,none⟩=some (.int .i64 ale')∧w'.cell? ⟨w.heap.size+1,6,none⟩=some (.int .i64 amo')∧w'.cell? ⟨w.heap.size+1,7,none⟩=some (.int .i64 fn')∧w'.cell? ⟨w.heap.size+1,8,none⟩=some (.int .i64 fsu')∧w'.cell? ⟨w.heap.size+1,9,none⟩=some (.int .i64 fle')∧w'.cell? ⟨w.heap.size+1,10,none⟩=some (.int .i64 fmo')∧w'.cell? ⟨w.heap.size+1,11,none⟩=some (.int .i64 td')∧w'.cell? ⟨w.heap.size+1,12,none⟩=some (.bool tm'))∧w.heap.size<w'.heap.size∧w.heap.size+1<w'.heap.size):=⟨⟨(hb.cell (p:=⟨w.heap.size,0,none⟩) (jH)).trans (jI),(hb.cell (p:=⟨w.heap.size,1,none⟩) (jH)).trans (jI),(hb.cell (p:=⟨w.heap.size,2,none⟩) (jH)).trans (jI),(hb.cell (p:=⟨w.heap.size,3,none⟩) (jH)).trans (jI),(hb.cell (p:=⟨w.heap.size,4,none⟩) (jH)).trans (jI),(hb.cell (p:=⟨w.heap.size,5,none⟩) (jH)).trans (jI),(hb.cell (p:=⟨w.heap.size,6,none⟩) (jH)).trans (jI),(hb.cell (p:=⟨w.heap.size,7,none⟩) (jH)).trans (jI),(hb.cell (p:=⟨w.heap.size,8,none⟩) (jH)).trans (jI),(hb.cell (p:=⟨w.heap.size,9,none⟩) (jH)).trans (jI),(hb.cell (p:=⟨w.heap.size,10,none⟩) (jH)).trans (jI),(hb.cell (p:=⟨w.heap.size,11,none⟩) (jH)).trans (jI),(hb.cell (p:=⟨w.heap.size,12,none⟩) (jH)).trans (jI),(hb.cell (p:=⟨w.heap.size+1,0,none⟩) (jH)).trans (jI),(hb.cell (p:=⟨w.heap.size+1,1,none⟩) (jH)).trans (jI),(hb.cell (p:=⟨w.heap.size+1,2,none⟩) (jH)).trans (jI),(hb.cell (p:=⟨w.heap.size+1,3,none⟩) (jH)).trans (jI),(hb.cell (p:=⟨w.heap.size+1,4,none⟩) (jH)).trans (jI),(hb.cell (p:=⟨w.heap.size+1,5,none⟩) (jH)).trans (jI),(hb.cell (p:=⟨w.heap.size+1,6,none⟩) (jH)).trans (jI),(hb.cell (p:=⟨w.heap.size+1,7,none⟩) (jH)).trans (jI),(hb.cell (p:=⟨w.heap.size+1,8,none⟩) (jH)).trans (jI),(hb.cell (p:=⟨w.heap.size+1,9,none⟩) (jH)).trans (jI),(hb.cell (p:=⟨w.heap.size+1,10,none⟩) (jH)).trans (jI),(hb.cell (p:=⟨w.heap.size+1,11,none⟩) (jH)).trans (jI),(hb.cell (p:=⟨w.heap.size+1,12,none⟩) (jH)).trans (jI)⟩,by have h9:=hb.size;simp at h9;omega,by have h9:=hb.size;simp at h9;omega⟩
    go_region_held3 (fun W=>((W.cell? ⟨w.heap.size,0,none⟩=some (.int .i64 ky)∧W.cell? ⟨w.heap.size,1,none⟩=some (.int .i64 st)∧W.cell? ⟨w.heap.size,2,none⟩=some (.int .i64 en)∧W.cell? ⟨w.heap.size,3,none⟩=some (.int .i64 an)∧W.cell? ⟨w.heap.size,4,none⟩=some (.int .i64 asu)∧W.cell? ⟨w.heap.size,5,none⟩=some (.int .i64 ale)∧W.cell? ⟨w.heap.size,6,none⟩=some (.int .i64 amo)∧W.cell? ⟨w.heap.size,7,none⟩=some (.int .i64 fn)∧W.cell? ⟨w.heap.size,8,none⟩=some (.int .i64 fsu)∧W.cell? ⟨w.heap.size,9,none⟩=some (.int .i64 fle)∧W.cell? ⟨w.heap.size,10,none⟩=some (.int .i64 fmo)∧W.cell? ⟨w.heap.size,11,none⟩=some (.int .i64 td)∧W.cell? ⟨w.heap.size,12,none⟩=some (.bool tm)∧W.cell? ⟨w.heap.size+1,0,none⟩=some (.int .i64 ky')∧W.cell? ⟨w.heap.size+1,1,none⟩=some (.int .i64 st')∧W.cell? ⟨w.heap.size+1,2,none⟩=some (.int .i64 en')∧W.cell? ⟨w.heap.size+1,3,none⟩=some (.int .i64 an')∧W.cell? ⟨w.heap.size+1,4,none⟩=some (.int .i64 asu')∧W.cell? ⟨w.heap.size+1,5,none⟩=some (.int .i64 ale')∧W.cell? ⟨w.heap.size+1,6,none⟩=some (.int .i64 amo')∧W.cell? ⟨w.heap.size+1,7,none⟩=some (.int .i64 fn')∧W.cell? ⟨w.heap.size+1,8,none⟩=some (.int .i64 fsu')∧W.cell? ⟨w.heap.size+1,9,none⟩=some (.int .i64 fle')∧W.cell? ⟨w.heap.size+1,10,none⟩=some (.int .i64 fmo')∧W.cell? ⟨w.heap.size+1,11,none⟩=some (.int .i64 td')∧W.cell? ⟨w.heap.size+1,12,none⟩=some (.bool tm'))∧w.heap.size<W.heap.size∧w.heap.size+1<W.heap.size)) ((first|((repeat(first|(with_reducible assumption)|(with_reducible refine bU ?_ (jF))|(with_reducible refine bU ?_ (aj (Below.refl _ _)))|(with_reducible refine bU ?_ (ai _ _))));done)|(refine⟨⟨?_,?_,?_,?_,?_,?_,?_,?_,?_,?_,?_,?_,?_,?_,?_,?_,?_,?_,?_,?_,?_,?_,?_,?_,?_,?_⟩,?_,?_⟩<;>first|(go_keep;done)|(simp;done)|(simp;omega)|omega)))
     (first
     |(go_at_call 199;refine(bp _ _ _ _ _).mono ?_;rintro e w' ⟨rfl,hb⟩;obtain⟨hc,hf,hs⟩:=ac hb)
     |(go_at_call 198;refine(aD _ _ _ _ _ _ _ _ _ _ _ _ _ _).mono ?_;rintro e w' ⟨rfl,hb⟩;obtain⟨hc,hf,hs⟩:=ac hb)
     |(go_at_call 200;refine(bo _ _ _ _ _ _ _).mono ?_;rintro e w' ⟨rfl,hb⟩;obtain⟨hc,hf,hs⟩:=ac hb))
    all_goals
     go_wp2_with (first
      |(go_at_call 199;refine(bp _ _ _ _ _).mono ?_;rintro e w' ⟨rfl,hb⟩;obtain⟨hc,hf,hs⟩:=ac hb;(try have hz0:=zA hb w.heap.size);(try have hz1:=zA hb (w.heap.size+1)))
      |(go_at_call 198;refine(aD _ _ _ _ _ _ _ _ _ _ _ _ _ _).mono ?_;rintro e w' ⟨rfl,hb⟩;obtain⟨hc,hf,hs⟩:=ac hb;(try have hz0:=zA hb w.heap.size);(try have hz1:=zA hb (w.heap.size+1)))
      |(go_at_call 200;refine(bo _ _ _ _ _ _ _).mono ?_;rintro e w' ⟨rfl,hb⟩;obtain⟨hc,hf,hs⟩:=ac hb;(try have hz0:=zA hb w.heap.size);(try have hz1:=zA hb (w.heap.size+1))))
     go_ret
     exact⟨af (aa hq).symm,(ar)⟩
   ·have hq:Hid (dk kd ky st en ky' st' en'=false):=ab (by simp[dk,c0,c1,c2])
    go_enter Tryz.func188,Tryz.ntmps188
    go_wp2_with (first
     |(go_at_call 199;refine(bp _ _ _ _ _).mono ?_;rintro e w' ⟨rfl,hb⟩;obtain⟨hc,hf,hs⟩:=ac hb;(try have hz0:=zA hb w.heap.size);(try have hz1:=zA hb (w.heap.size+1)))
     |(go_at_call 198;refine(aD _ _ _ _ _ _ _ _ _ _ _ _ _ _).mono ?_;rintro e w' ⟨rfl,hb⟩;obtain⟨hc,hf,hs⟩:=ac hb;(try have hz0:=zA hb w.heap.size);(try have hz1:=zA hb (w.heap.size+1)))
     |(go_at_call 200;refine(bo _ _ _ _ _ _ _).mono ?_;rintro e w' ⟨rfl,hb⟩;obtain⟨hc,hf,hs⟩:=ac hb;(try have hz0:=zA hb w.heap.size);(try have hz1:=zA hb (w.heap.size+1))))
    go_ret
    exact⟨af (aa hq).symm,(ar)⟩
/-- A row is ok; it may stand behind another one; so far all rows are and do. -/
def bK.okB(l mark:Int)(x:bK):Bool:=aO l mark x.ky x.st x.en x.an x.asu x.ale x.amo x.fn x.fsu x.fle x.fmo x.td x.tm
def fm(kd:Int)(y x:bK):Bool:=dk kd x.ky x.st x.en y.ky y.st y.en
def fF(kd l mark:Int)(xs:List bK)(i:Nat):Bool:=match xs[i]? with
 |none=>true
 |some x=>x.okB l mark&&match i with
  |0=>true
  |j+1=>match xs[j]? with
   |some y=>fm kd y x
   |none=>true
def ea(kd l mark:Int)(xs:List bK)(n:Nat):Bool:=(List.range n).all (fF kd l mark xs)
theorem cT(kd l mark:Int)(xs:List bK)(n:Nat):ea kd l mark xs (n+1)=(ea kd l mark xs n&&fF kd l mark xs n):=by
 simp[ea,List.range_succ]
theorem de{kd l mark:Int}{xs:List bK}{n i:Nat}(hi:i<n)(h:fF kd l mark xs i=false):ea kd l mark xs n=false:=by
 cases hc:ea kd l mark xs n
 ·rfl
 ·have:=List.all_eq_true.1 hc i (List.mem_range.2 hi)
  rw[h]at this
  cases this
theorem okUp_at{kd l mark:Int}{xs:List bK}{n i:Nat}(hc:ea kd l mark xs n=true)(hi:i<n):fF kd l mark xs i=true:=List.all_eq_true.1 hc i (List.mem_range.2 hi)
theorem okAt_z{kd l mark:Int}{xs:List bK}{x:bK}(hx:xs[0]? =some x):fF kd l mark xs 0=x.okB l mark:=by simp[fF,hx]
theorem okAt_s{kd l mark:Int}{xs:List bK}{j:Nat}{x y:bK}(hx:xs[j+1]? =some x)(hy:xs[j]? =some y):fF kd l mark xs (j+1)=(x.okB l mark&&fm kd y x):=by simp[fF,hx,hy]
theorem jh{kd l mark:Int}{xs:List bK}{i:Nat}{x:bK}(h0:i=0)(hx:xs[i]? =some x):fF kd l mark xs i=x.okB l mark:=by subst h0;exact okAt_z hx
theorem fY{kd l mark:Int}{xs:List bK}{i j:Nat}{x y:bK}(he:i=j+1)(hx:xs[i]? =some x)(hy:xs[j]? =some y):fF kd l mark xs i=(x.okB l mark&&fm kd y x):=by subst he;exact okAt_s hx hy
theorem fZ{kd l mark:Int}{xs:List bK}{i:Nat}{x:bK}(hx:xs[i]? =some x)(h:x.okB l mark=false):fF kd l mark xs i=false:=by simp[fF,hx,h]
theorem okAt_ok{kd l mark:Int}{xs:List bK}{i:Nat}{x:bK}(hx:xs[i]? =some x)(h:fF kd l mark xs i=true):x.okB l mark=true:=by
 simp only[fF,hx,Bool.and_eq_true]at h
 exact h.1
theorem ji{l mark:Int}{x:bK}(h:x.okB l mark=true):0≤x.st∧x.st<x.en∧x.en≤120:=by
 simp only[bK.okB,aO,Bool.and_eq_true]at h
 exact ib h.1.1.1.1.1.1.1.1.1.2
theorem aheadP_iff{ky st en ky' st' en':Int}:cC ky st en ky' st' en'=true↔(ky<ky'∨(ky=ky'∧(st<st'∨(st=st'∧en<en')))):=by
 by_cases h:ky=ky'
 ·subst h
  by_cases h2:st=st'
  ·subst h2
   rw[iU]
   simp
  ·rw[iT h2]
   simp
   omega
 ·rw[iS h]
  simp
  omega
theorem far_step{kd l mark:Int}{y x:bK}(hk:kd=3)(hx:x.okB l mark=true)(hy:y.okB l mark=true)(hn:fm kd y x=true):y.ky≤x.ky∧(y.ky=x.ky→y.en≤x.st):=by
 have h1:=ji hx
 have h2:=ji hy
 simp only[fm,dk,Bool.and_eq_true]at hn
 have h3:=aheadP_iff.1 hn.2
 refine⟨by omega,fun e=>?_⟩
 have h4:=hn.1
 rw[hk,e]at h4
 have h5:aT x.st x.en y.st y.en=false:=by simpa using h4
 simp only[aT]at h5
 have h6:¬ (x.st<y.en∧y.st<x.en):=by
  intro hh
  simp[hh.1,hh.2]at h5
 omega
/-- Where no two neighbours touch no two at all do. -/
theorem okUp_far{kd l mark:Int}{xs:List bK}{n:Nat}(hk:kd=3)(h:ea kd l mark xs n=true):∀i,i<n→∀k,k<i→∀x y,xs[i]? =some x→xs[k]? =some y→y.ky≤x.ky∧(y.ky=x.ky→y.en≤x.st):=by
 intro i
 induction i with
 |zero=>intro _ k hk;omega
 |succ i ih=>
  intro hi k hki x y hx hy
  have hil:i<xs.length:=by have:=(List.getElem?_eq_some_iff.1 hx).1;omega
  obtain⟨z,hz⟩:∃z,xs[i]? =some z:=⟨_,List.getElem?_eq_getElem hil⟩
  have a1:=okUp_at h hi
  have a0:=okUp_at h (Nat.lt_of_succ_lt hi)
  have hxb:=okAt_ok hx a1
  have hzb:=okAt_ok hz a0
  rw[okAt_s hx hz,Bool.and_eq_true]at a1
  have st:=far_step hk hxb hzb a1.2
  by_cases he:k=i
  ·subst he
   rw[hz]at hy
   cases hy
   exact st
  ·have st2:=ih (Nat.lt_of_succ_lt hi) k (by omega) z y hz hy
   have w1:=ji hzb
   refine⟨by omega,fun e=>?_⟩
   have e1:z.ky=x.ky:=by omega
   have e2:y.ky=z.ky:=by omega
   have:=st.2 e1
   have:=st2.2 e2
   omega
/-- A row that touches one ahead of it, however far, is not ok. -/
theorem ig{kd l mark:Int}{xs:List bK}{i k:Nat}{x y:bK}(hk:kd=3)(h:ea kd l mark xs i=true)(hki:k<i)(hx:xs[i]? =some x)(hy:xs[k]? =some y)(e:y.ky=x.ky)(ht:aT y.st y.en x.st x.en=true):fF kd l mark xs i=false:=by
 cases hc:fF kd l mark xs i
 ·rfl
 ·have h1:ea kd l mark xs (i+1)=true:=by rw[cT,h,hc];rfl
  have h2:=(okUp_far hk h1 i (by omega) k hki x y hx hy).2 e
  simp only[aT,Bool.and_eq_true,decide_eq_true_eq]at ht
  omega
/-- When an operator is ok. -/
def cl(s t k z p l e v r mark:Int)(xs:List bK):Bool:=aF s t k z p l e v r&&aP mark 0 1000&&decide (xs.length≤300)&&ea k l mark xs xs.length
theorem okJob_l{s t k z p l e v r:Int}(h:aF s t k z p l e v r=true):0≤l∧l≤20:=by
 simp only[aF,Bool.and_eq_true]at h
 exact aZ.1 h.1.1.1.2
theorem okOp_j{s t k z p l e v r mark:Int}{xs:List bK}(h:aF s t k z p l e v r=false):cl s t k z p l e v r mark xs=false:=by simp[cl,h]
theorem okOp_m{s t k z p l e v r mark:Int}{xs:List bK}(h:aP mark 0 1000=false):cl s t k z p l e v r mark xs=false:=by simp[cl,h]
theorem okOp_n{s t k z p l e v r mark:Int}{xs:List bK}(h:¬ xs.length≤300):cl s t k z p l e v r mark xs=false:=by simp[cl,h]
theorem okOp_t{s t k z p l e v r mark:Int}{xs:List bK}(h1:aF s t k z p l e v r=true)(h2:aP mark 0 1000=true)(h3:xs.length≤300):cl s t k z p l e v r mark xs=ea k l mark xs xs.length:=by simp[cl,h1,h2,h3]
end Go.Proofs.YtealpjmannopeaaGreat
