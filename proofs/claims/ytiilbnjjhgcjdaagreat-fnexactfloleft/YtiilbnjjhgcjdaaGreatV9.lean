/- Laid together: what the claim needs of the texts that were built one by one. -/
import Derived.Test.YtiilbnjjhgcjdaaGreatV3
import Derived.Test.YtiilbnjjhgcjdaaGreatV8
import Derived.Test.YtiilbnjjhgcjdaaGreatV6
import Derived.Test.YtiilbnjjhgcjdaaGreatV0
import Derived.Deep.RegionHeld3
import Derived.Deep.DeepCutAuto
set_option linter.unusedVariables false
namespace Go.Proofs.YtiilbnjjhgcjdaaGreat
open Go.ChangeShapes Go.WideShapes Go.ChangeAt Go.RowKit
/-- When a row may be open behind a mark. -/
def aL(l mark:Int)(ky st en an asu ale amo fn fsu fle fmo td:Int)(tm:Bool):Bool:=aM ky 0 3&&bC st en&&cT an asu ale amo&&cT fn fsu fle fmo&&aM td 0 1500&& !(an==0)&&decide (fn≤an)&&decide (mark<en+l)&&(tm==decide (en≤mark))&&(decide (0<td)==decide (en≤mark))&&((fn==0)==decide (en≤mark))
theorem fZ{st en:Int}(h:bC st en=true):0≤st∧st<en∧en≤120:=by
 simp only[bC,Bool.and_eq_true]at h
 have h1:=aW.1 h.1
 have h2:=aW.1 h.2
 omega
set_option maxRecDepth 20000 in
set_option maxHeartbeats 4000000 in
theorem dN(s t k z p l e:Int)(b:Bool)(v r:Int)(ky st en an asu ale amo fn fsu fle fmo td:Int)(tm:Bool)(mark:Int)(hl:0≤l∧l≤20)(w:World):Calls Tryz.prog 137 #[.agg #[.int .i64 s,.int .i64 t,.int .i64 k,.int .i64 z,.int .i64 p,.int .i64 l,.int .i64 e,.bool b,.int .i64 v,.int .i64 r],.agg #[.int .i64 ky,.int .i64 st,.int .i64 en,.int .i64 an,.int .i64 asu,.int .i64 ale,.int .i64 amo,.int .i64 fn,.int .i64 fsu,.int .i64 fle,.int .i64 fmo,.int .i64 td,.bool tm],.int .i64 mark] w fun e' w'=>e'= .returned (.bool (aL l mark ky st en an asu ale amo fn fsu fle fmo td tm))∧Below w.heap.size w w':=by
 cases c0:aM ky 0 3
 ·have hq:Hid (aL l mark ky st en an asu ale amo fn fsu fle fmo td tm=false):=ab (by simp[aL,c0])
  go_enter Tryz.func137,Tryz.ntmps137
  go_wp2_with (first
   |(go_at_call 41;refine(ak _ _ _ _).mono ?_;rintro e' w' ⟨rfl,rfl⟩)
   |(go_at_call 140;refine(ar _ _ _).mono ?_;rintro e w' ⟨rfl,hb⟩;obtain⟨hc,hf,hs⟩:=ac hb;(try have hz0:=zA hb w.heap.size);(try have hz1:=zA hb (w.heap.size+1)))
   |(go_at_call 141;refine(au _ _ _ _ _).mono ?_;rintro e w' ⟨rfl,hb⟩;obtain⟨hc,hf,hs⟩:=ac hb;(try have hz0:=zA hb w.heap.size);(try have hz1:=zA hb (w.heap.size+1))))
  go_ret
  exact⟨ad (aa hq).symm,(aq)⟩
 cases c1:bC st en
 ·have hq:Hid (aL l mark ky st en an asu ale amo fn fsu fle fmo td tm=false):=ab (by simp[aL,c0,c1])
  go_enter Tryz.func137,Tryz.ntmps137
  go_wp2_with (first
   |(go_at_call 41;refine(ak _ _ _ _).mono ?_;rintro e' w' ⟨rfl,rfl⟩)
   |(go_at_call 140;refine(ar _ _ _).mono ?_;rintro e w' ⟨rfl,hb⟩;obtain⟨hc,hf,hs⟩:=ac hb;(try have hz0:=zA hb w.heap.size);(try have hz1:=zA hb (w.heap.size+1)))
   |(go_at_call 141;refine(au _ _ _ _ _).mono ?_;rintro e w' ⟨rfl,hb⟩;obtain⟨hc,hf,hs⟩:=ac hb;(try have hz0:=zA hb w.heap.size);(try have hz1:=zA hb (w.heap.size+1))))
  go_ret
  exact⟨ad (aa hq).symm,(aq)⟩
 have hen:=fZ c1
 cases c2:cT an asu ale amo
 ·have hq:Hid (aL l mark ky st en an asu ale amo fn fsu fle fmo td tm=false):=ab (by simp[aL,c0,c1,c2])
  go_enter Tryz.func137,Tryz.ntmps137
  go_wp2_with (first
   |(go_at_call 41;refine(ak _ _ _ _).mono ?_;rintro e' w' ⟨rfl,rfl⟩)
   |(go_at_call 140;refine(ar _ _ _).mono ?_;rintro e w' ⟨rfl,hb⟩;obtain⟨hc,hf,hs⟩:=ac hb;(try have hz0:=zA hb w.heap.size);(try have hz1:=zA hb (w.heap.size+1)))
   |(go_at_call 141;refine(au _ _ _ _ _).mono ?_;rintro e w' ⟨rfl,hb⟩;obtain⟨hc,hf,hs⟩:=ac hb;(try have hz0:=zA hb w.heap.size);(try have hz1:=zA hb (w.heap.size+1))))
  go_ret
  exact⟨ad (aa hq).symm,(aq)⟩
 cases c3:(an==0)
 ·cases c4:cT fn fsu fle fmo
  ·have hq:Hid (aL l mark ky st en an asu ale amo fn fsu fle fmo td tm=false):=ab (by simp[aL,c0,c1,c2,c3,c4])
   go_enter Tryz.func137,Tryz.ntmps137
   go_wp2_with (first
    |(go_at_call 41;refine(ak _ _ _ _).mono ?_;rintro e' w' ⟨rfl,rfl⟩)
    |(go_at_call 140;refine(ar _ _ _).mono ?_;rintro e w' ⟨rfl,hb⟩;obtain⟨hc,hf,hs⟩:=ac hb;(try have hz0:=zA hb w.heap.size);(try have hz1:=zA hb (w.heap.size+1)))
    |(go_at_call 141;refine(au _ _ _ _ _).mono ?_;rintro e w' ⟨rfl,hb⟩;obtain⟨hc,hf,hs⟩:=ac hb;(try have hz0:=zA hb w.heap.size);(try have hz1:=zA hb (w.heap.size+1))))
   go_ret
   exact⟨ad (aa hq).symm,(aq)⟩
  by_cases c5:fn≤an
  ·cases c6:aM td 0 1500
   ·have hq:Hid (aL l mark ky st en an asu ale amo fn fsu fle fmo td tm=false):=ab (by simp[aL,c0,c1,c2,c3,c4,c5,c6])
    go_enter Tryz.func137,Tryz.ntmps137
    go_wp2_with (first
     |(go_at_call 41;refine(ak _ _ _ _).mono ?_;rintro e' w' ⟨rfl,rfl⟩)
     |(go_at_call 140;refine(ar _ _ _).mono ?_;rintro e w' ⟨rfl,hb⟩;obtain⟨hc,hf,hs⟩:=ac hb;(try have hz0:=zA hb w.heap.size);(try have hz1:=zA hb (w.heap.size+1)))
     |(go_at_call 141;refine(au _ _ _ _ _).mono ?_;rintro e w' ⟨rfl,hb⟩;obtain⟨hc,hf,hs⟩:=ac hb;(try have hz0:=zA hb w.heap.size);(try have hz1:=zA hb (w.heap.size+1))))
    go_ret
    exact⟨ad (aa hq).symm,(aq)⟩
   by_cases ov:en≤mark
   ·cases tm
    ·have hq:Hid (aL l mark ky st en an asu ale amo fn fsu fle fmo td false=false):=ab (by simp[aL,c0,c1,c2,c3,c4,c5,c6,ov])
     go_enter Tryz.func137,Tryz.ntmps137
     go_wp2_with (first
      |(go_at_call 41;refine(ak _ _ _ _).mono ?_;rintro e' w' ⟨rfl,rfl⟩)
      |(go_at_call 140;refine(ar _ _ _).mono ?_;rintro e w' ⟨rfl,hb⟩;obtain⟨hc,hf,hs⟩:=ac hb;(try have hz0:=zA hb w.heap.size);(try have hz1:=zA hb (w.heap.size+1)))
      |(go_at_call 141;refine(au _ _ _ _ _).mono ?_;rintro e w' ⟨rfl,hb⟩;obtain⟨hc,hf,hs⟩:=ac hb;(try have hz0:=zA hb w.heap.size);(try have hz1:=zA hb (w.heap.size+1))))
     go_ret
     exact⟨ad (aa hq).symm,(aq)⟩
    ·by_cases c7:mark<en+l
     ·by_cases tp:0<td
      ·cases fz:(fn==0)
       ·have hq:Hid (aL l mark ky st en an asu ale amo fn fsu fle fmo td true=false):=ab (by simp[aL,c0,c1,c2,c3,c4,c5,c6,c7,ov,tp,fz])
        go_enter Tryz.func137,Tryz.ntmps137
        go_wp2_with (first
         |(go_at_call 41;refine(ak _ _ _ _).mono ?_;rintro e' w' ⟨rfl,rfl⟩)
         |(go_at_call 140;refine(ar _ _ _).mono ?_;rintro e w' ⟨rfl,hb⟩;obtain⟨hc,hf,hs⟩:=ac hb;(try have hz0:=zA hb w.heap.size);(try have hz1:=zA hb (w.heap.size+1)))
         |(go_at_call 141;refine(au _ _ _ _ _).mono ?_;rintro e w' ⟨rfl,hb⟩;obtain⟨hc,hf,hs⟩:=ac hb;(try have hz0:=zA hb w.heap.size);(try have hz1:=zA hb (w.heap.size+1))))
        go_ret
        exact⟨ad (aa hq).symm,(aq)⟩
       ·have hq:Hid (aL l mark ky st en an asu ale amo fn fsu fle fmo td true=true):=ab (by simp[aL,c0,c1,c2,c3,c4,c5,c6,c7,ov,tp,fz])
        go_enter Tryz.func137,Tryz.ntmps137
        go_wp2_with (first
         |(go_at_call 41;refine(ak _ _ _ _).mono ?_;rintro e' w' ⟨rfl,rfl⟩)
         |(go_at_call 140;refine(ar _ _ _).mono ?_;rintro e w' ⟨rfl,hb⟩;obtain⟨hc,hf,hs⟩:=ac hb;(try have hz0:=zA hb w.heap.size);(try have hz1:=zA hb (w.heap.size+1)))
         |(go_at_call 141;refine(au _ _ _ _ _).mono ?_;rintro e w' ⟨rfl,hb⟩;obtain⟨hc,hf,hs⟩:=ac hb;(try have hz0:=zA hb w.heap.size);(try have hz1:=zA hb (w.heap.size+1))))
        go_ret
        exact⟨ad (by first|exact(aa hq).symm|(rw[aa hq];simp[ov,tp])),(aq)⟩
      ·have hq:Hid (aL l mark ky st en an asu ale amo fn fsu fle fmo td true=false):=ab (by simp[aL,c0,c1,c2,c3,c4,c5,c6,c7,ov,tp])
       go_enter Tryz.func137,Tryz.ntmps137
       go_wp2_with (first
        |(go_at_call 41;refine(ak _ _ _ _).mono ?_;rintro e' w' ⟨rfl,rfl⟩)
        |(go_at_call 140;refine(ar _ _ _).mono ?_;rintro e w' ⟨rfl,hb⟩;obtain⟨hc,hf,hs⟩:=ac hb;(try have hz0:=zA hb w.heap.size);(try have hz1:=zA hb (w.heap.size+1)))
        |(go_at_call 141;refine(au _ _ _ _ _).mono ?_;rintro e w' ⟨rfl,hb⟩;obtain⟨hc,hf,hs⟩:=ac hb;(try have hz0:=zA hb w.heap.size);(try have hz1:=zA hb (w.heap.size+1))))
       go_ret
       exact⟨ad (aa hq).symm,(aq)⟩
     ·have hq:Hid (aL l mark ky st en an asu ale amo fn fsu fle fmo td true=false):=ab (by simp[aL,c0,c1,c2,c3,c4,c5,c6,ov,c7])
      go_enter Tryz.func137,Tryz.ntmps137
      go_wp2_with (first
       |(go_at_call 41;refine(ak _ _ _ _).mono ?_;rintro e' w' ⟨rfl,rfl⟩)
       |(go_at_call 140;refine(ar _ _ _).mono ?_;rintro e w' ⟨rfl,hb⟩;obtain⟨hc,hf,hs⟩:=ac hb;(try have hz0:=zA hb w.heap.size);(try have hz1:=zA hb (w.heap.size+1)))
       |(go_at_call 141;refine(au _ _ _ _ _).mono ?_;rintro e w' ⟨rfl,hb⟩;obtain⟨hc,hf,hs⟩:=ac hb;(try have hz0:=zA hb w.heap.size);(try have hz1:=zA hb (w.heap.size+1))))
      go_ret
      exact⟨ad (aa hq).symm,(aq)⟩
   ·cases tm
    ·by_cases c7:mark<en+l
     ·by_cases tp:0<td
      ·have hq:Hid (aL l mark ky st en an asu ale amo fn fsu fle fmo td false=false):=ab (by simp[aL,c0,c1,c2,c3,c4,c5,c6,c7,ov,tp])
       go_enter Tryz.func137,Tryz.ntmps137
       go_wp2_with (first
        |(go_at_call 41;refine(ak _ _ _ _).mono ?_;rintro e' w' ⟨rfl,rfl⟩)
        |(go_at_call 140;refine(ar _ _ _).mono ?_;rintro e w' ⟨rfl,hb⟩;obtain⟨hc,hf,hs⟩:=ac hb;(try have hz0:=zA hb w.heap.size);(try have hz1:=zA hb (w.heap.size+1)))
        |(go_at_call 141;refine(au _ _ _ _ _).mono ?_;rintro e w' ⟨rfl,hb⟩;obtain⟨hc,hf,hs⟩:=ac hb;(try have hz0:=zA hb w.heap.size);(try have hz1:=zA hb (w.heap.size+1))))
       go_ret
       exact⟨ad (aa hq).symm,(aq)⟩
      ·cases fz:(fn==0)
       ·have hq:Hid (aL l mark ky st en an asu ale amo fn fsu fle fmo td false=true):=ab (by simp[aL,c0,c1,c2,c3,c4,c5,c6,c7,ov,tp,fz])
        go_enter Tryz.func137,Tryz.ntmps137
        go_wp2_with (first
         |(go_at_call 41;refine(ak _ _ _ _).mono ?_;rintro e' w' ⟨rfl,rfl⟩)
         |(go_at_call 140;refine(ar _ _ _).mono ?_;rintro e w' ⟨rfl,hb⟩;obtain⟨hc,hf,hs⟩:=ac hb;(try have hz0:=zA hb w.heap.size);(try have hz1:=zA hb (w.heap.size+1)))
         |(go_at_call 141;refine(au _ _ _ _ _).mono ?_;rintro e w' ⟨rfl,hb⟩;obtain⟨hc,hf,hs⟩:=ac hb;(try have hz0:=zA hb w.heap.size);(try have hz1:=zA hb (w.heap.size+1))))
        go_ret
        exact⟨ad (by first|exact(aa hq).symm|(rw[aa hq];simp[ov,tp])),(aq)⟩
       ·have hq:Hid (aL l mark ky st en an asu ale amo fn fsu fle fmo td false=false):=ab (by simp[aL,c0,c1,c2,c3,c4,c5,c6,c7,ov,tp,fz])
        go_enter Tryz.func137,Tryz.ntmps137
        go_wp2_with (first
         |(go_at_call 41;refine(ak _ _ _ _).mono ?_;rintro e' w' ⟨rfl,rfl⟩)
         |(go_at_call 140;refine(ar _ _ _).mono ?_;rintro e w' ⟨rfl,hb⟩;obtain⟨hc,hf,hs⟩:=ac hb;(try have hz0:=zA hb w.heap.size);(try have hz1:=zA hb (w.heap.size+1)))
         |(go_at_call 141;refine(au _ _ _ _ _).mono ?_;rintro e w' ⟨rfl,hb⟩;obtain⟨hc,hf,hs⟩:=ac hb;(try have hz0:=zA hb w.heap.size);(try have hz1:=zA hb (w.heap.size+1))))
        go_ret
        exact⟨ad (aa hq).symm,(aq)⟩
     ·exfalso;omega
    ·have hq:Hid (aL l mark ky st en an asu ale amo fn fsu fle fmo td true=false):=ab (by simp[aL,c0,c1,c2,c3,c4,c5,c6,ov])
     go_enter Tryz.func137,Tryz.ntmps137
     go_wp2_with (first
      |(go_at_call 41;refine(ak _ _ _ _).mono ?_;rintro e' w' ⟨rfl,rfl⟩)
      |(go_at_call 140;refine(ar _ _ _).mono ?_;rintro e w' ⟨rfl,hb⟩;obtain⟨hc,hf,hs⟩:=ac hb;(try have hz0:=zA hb w.heap.size);(try have hz1:=zA hb (w.heap.size+1)))
      |(go_at_call 141;refine(au _ _ _ _ _).mono ?_;rintro e w' ⟨rfl,hb⟩;obtain⟨hc,hf,hs⟩:=ac hb;(try have hz0:=zA hb w.heap.size);(try have hz1:=zA hb (w.heap.size+1))))
     go_ret
     exact⟨ad (aa hq).symm,(aq)⟩
  ·have hq:Hid (aL l mark ky st en an asu ale amo fn fsu fle fmo td tm=false):=ab (by simp[aL,c0,c1,c2,c3,c4,c5])
   go_enter Tryz.func137,Tryz.ntmps137
   go_wp2_with (first
    |(go_at_call 41;refine(ak _ _ _ _).mono ?_;rintro e' w' ⟨rfl,rfl⟩)
    |(go_at_call 140;refine(ar _ _ _).mono ?_;rintro e w' ⟨rfl,hb⟩;obtain⟨hc,hf,hs⟩:=ac hb;(try have hz0:=zA hb w.heap.size);(try have hz1:=zA hb (w.heap.size+1)))
    |(go_at_call 141;refine(au _ _ _ _ _).mono ?_;rintro e w' ⟨rfl,hb⟩;obtain⟨hc,hf,hs⟩:=ac hb;(try have hz0:=zA hb w.heap.size);(try have hz1:=zA hb (w.heap.size+1))))
   go_ret
   exact⟨ad (aa hq).symm,(aq)⟩
 ·have hq:Hid (aL l mark ky st en an asu ale amo fn fsu fle fmo td tm=false):=ab (by simp[aL,c0,c1,c2,c3])
  go_enter Tryz.func137,Tryz.ntmps137
  go_wp2_with (first
   |(go_at_call 41;refine(ak _ _ _ _).mono ?_;rintro e' w' ⟨rfl,rfl⟩)
   |(go_at_call 140;refine(ar _ _ _).mono ?_;rintro e w' ⟨rfl,hb⟩;obtain⟨hc,hf,hs⟩:=ac hb;(try have hz0:=zA hb w.heap.size);(try have hz1:=zA hb (w.heap.size+1)))
   |(go_at_call 141;refine(au _ _ _ _ _).mono ?_;rintro e w' ⟨rfl,hb⟩;obtain⟨hc,hf,hs⟩:=ac hb;(try have hz0:=zA hb w.heap.size);(try have hz1:=zA hb (w.heap.size+1))))
  go_ret
  exact⟨ad (aa hq).symm,(aq)⟩
theorem bk{l mark:Int}(ky st en an asu ale amo fn fsu fle fmo td:Int)(tm:Bool):aL l mark ky st en an asu ale amo fn fsu fle fmo td tm=(bf ky st en&&cT an asu ale amo&&cT fn fsu fle fmo&&aM td 0 1500&& !(an==0)&&decide (fn≤an)&&decide (mark<en+l)&&(tm==decide (en≤mark))&&(decide (0<td)==decide (en≤mark))&&((fn==0)==decide (en≤mark))):=rfl
set_option maxRecDepth 20000 in
set_option maxHeartbeats 4000000 in
theorem dO(ky st en an asu ale amo fn fsu fle fmo td:Int)(tm:Bool)(mark l:Int)(hl:0≤l∧l≤20)(w:World):Calls Tryz.prog 194 #[.agg #[.int .i64 ky,.int .i64 st,.int .i64 en,.int .i64 an,.int .i64 asu,.int .i64 ale,.int .i64 amo,.int .i64 fn,.int .i64 fsu,.int .i64 fle,.int .i64 fmo,.int .i64 td,.bool tm],.int .i64 mark,.int .i64 l] w fun e' w'=>e'= .returned (.bool (aL l mark ky st en an asu ale amo fn fsu fle fmo td tm))∧Below w.heap.size w w':=by
 cases c0:bf ky st en
 ·have hq:Hid (aL l mark ky st en an asu ale amo fn fsu fle fmo td tm=false):=ab (by simp[bk,c0])
  go_enter Tryz.func194,Tryz.ntmps194
  go_wp2_with (first
   |(go_at_call 211;refine(aA _ _ _ _ _ _ _ _ _ _ _ _ _ _).mono ?_;rintro e w' ⟨rfl,hb⟩;obtain⟨hc,hf,hs⟩:=ac hb;(try have hz0:=zA hb w.heap.size);(try have hz1:=zA hb (w.heap.size+1)))
   |(go_at_call 199;refine(aw _ _ _ _).mono ?_;rintro e w' ⟨rfl,hb⟩;obtain⟨hc,hf,hs⟩:=ac hb;(try have hz0:=zA hb w.heap.size);(try have hz1:=zA hb (w.heap.size+1)))
   |(go_at_call 102;refine(ag _ _ _ _).mono ?_;rintro e' w' ⟨rfl,rfl⟩)
   |(go_at_call 200;refine(az _ _ _ _ _).mono ?_;rintro e w' ⟨rfl,hb⟩;obtain⟨hc,hf,hs⟩:=ac hb;(try have hz0:=zA hb w.heap.size);(try have hz1:=zA hb (w.heap.size+1))))
  go_ret
  exact⟨ad (aa hq).symm,(aq)⟩
 have c1:bC st en=true:=by simp only[bf,Bool.and_eq_true]at c0;exact c0.2
 have cc0:aM ky 0 3=true:=by simp only[bf,Bool.and_eq_true]at c0;exact c0.1
 have hen:=fZ c1
 cases c2:cT an asu ale amo
 ·have hq:Hid (aL l mark ky st en an asu ale amo fn fsu fle fmo td tm=false):=ab (by simp[bk,c0,c2])
  go_enter Tryz.func194,Tryz.ntmps194
  go_wp2_with (first
   |(go_at_call 211;refine(aA _ _ _ _ _ _ _ _ _ _ _ _ _ _).mono ?_;rintro e w' ⟨rfl,hb⟩;obtain⟨hc,hf,hs⟩:=ac hb;(try have hz0:=zA hb w.heap.size);(try have hz1:=zA hb (w.heap.size+1)))
   |(go_at_call 199;refine(aw _ _ _ _).mono ?_;rintro e w' ⟨rfl,hb⟩;obtain⟨hc,hf,hs⟩:=ac hb;(try have hz0:=zA hb w.heap.size);(try have hz1:=zA hb (w.heap.size+1)))
   |(go_at_call 102;refine(ag _ _ _ _).mono ?_;rintro e' w' ⟨rfl,rfl⟩)
   |(go_at_call 200;refine(az _ _ _ _ _).mono ?_;rintro e w' ⟨rfl,hb⟩;obtain⟨hc,hf,hs⟩:=ac hb;(try have hz0:=zA hb w.heap.size);(try have hz1:=zA hb (w.heap.size+1))))
  go_ret
  exact⟨ad (aa hq).symm,(aq)⟩
 cases c4:cT fn fsu fle fmo
 ·have hq:Hid (aL l mark ky st en an asu ale amo fn fsu fle fmo td tm=false):=ab (by simp[bk,c0,c2,c4])
  go_enter Tryz.func194,Tryz.ntmps194
  go_wp2_with (first
   |(go_at_call 211;refine(aA _ _ _ _ _ _ _ _ _ _ _ _ _ _).mono ?_;rintro e w' ⟨rfl,hb⟩;obtain⟨hc,hf,hs⟩:=ac hb;(try have hz0:=zA hb w.heap.size);(try have hz1:=zA hb (w.heap.size+1)))
   |(go_at_call 199;refine(aw _ _ _ _).mono ?_;rintro e w' ⟨rfl,hb⟩;obtain⟨hc,hf,hs⟩:=ac hb;(try have hz0:=zA hb w.heap.size);(try have hz1:=zA hb (w.heap.size+1)))
   |(go_at_call 102;refine(ag _ _ _ _).mono ?_;rintro e' w' ⟨rfl,rfl⟩)
   |(go_at_call 200;refine(az _ _ _ _ _).mono ?_;rintro e w' ⟨rfl,hb⟩;obtain⟨hc,hf,hs⟩:=ac hb;(try have hz0:=zA hb w.heap.size);(try have hz1:=zA hb (w.heap.size+1))))
  go_ret
  exact⟨ad (aa hq).symm,(aq)⟩
 cases c6:aM td 0 1500
 ·have hq:Hid (aL l mark ky st en an asu ale amo fn fsu fle fmo td tm=false):=ab (by simp[bk,c0,c2,c4,c6])
  go_enter Tryz.func194,Tryz.ntmps194
  go_wp2_with (first
   |(go_at_call 211;refine(aA _ _ _ _ _ _ _ _ _ _ _ _ _ _).mono ?_;rintro e w' ⟨rfl,hb⟩;obtain⟨hc,hf,hs⟩:=ac hb;(try have hz0:=zA hb w.heap.size);(try have hz1:=zA hb (w.heap.size+1)))
   |(go_at_call 199;refine(aw _ _ _ _).mono ?_;rintro e w' ⟨rfl,hb⟩;obtain⟨hc,hf,hs⟩:=ac hb;(try have hz0:=zA hb w.heap.size);(try have hz1:=zA hb (w.heap.size+1)))
   |(go_at_call 102;refine(ag _ _ _ _).mono ?_;rintro e' w' ⟨rfl,rfl⟩)
   |(go_at_call 200;refine(az _ _ _ _ _).mono ?_;rintro e w' ⟨rfl,hb⟩;obtain⟨hc,hf,hs⟩:=ac hb;(try have hz0:=zA hb w.heap.size);(try have hz1:=zA hb (w.heap.size+1))))
  go_ret
  exact⟨ad (aa hq).symm,(aq)⟩
 cases c3:(an==0)
 ·by_cases c5:fn≤an
  ·by_cases c7:mark<en+l
   ·by_cases ov:en≤mark
    ·cases tm
     ·have hq:Hid (aL l mark ky st en an asu ale amo fn fsu fle fmo td false=false):=ab (by simp[bk,c0,c2,c4,c6,c3,c5,c7,ov])
      go_enter Tryz.func194,Tryz.ntmps194
      go_wp2_with (first
       |(go_at_call 211;refine(aA _ _ _ _ _ _ _ _ _ _ _ _ _ _).mono ?_;rintro e w' ⟨rfl,hb⟩;obtain⟨hc,hf,hs⟩:=ac hb;(try have hz0:=zA hb w.heap.size);(try have hz1:=zA hb (w.heap.size+1)))
       |(go_at_call 199;refine(aw _ _ _ _).mono ?_;rintro e w' ⟨rfl,hb⟩;obtain⟨hc,hf,hs⟩:=ac hb;(try have hz0:=zA hb w.heap.size);(try have hz1:=zA hb (w.heap.size+1)))
       |(go_at_call 102;refine(ag _ _ _ _).mono ?_;rintro e' w' ⟨rfl,rfl⟩)
       |(go_at_call 200;refine(az _ _ _ _ _).mono ?_;rintro e w' ⟨rfl,hb⟩;obtain⟨hc,hf,hs⟩:=ac hb;(try have hz0:=zA hb w.heap.size);(try have hz1:=zA hb (w.heap.size+1))))
      go_ret
      exact⟨ad (aa hq).symm,(aq)⟩
     ·by_cases tp:0<td
      ·cases fz:(fn==0)
       ·have hq:Hid (aL l mark ky st en an asu ale amo fn fsu fle fmo td true=false):=ab (by simp[bk,c0,c2,c4,c6,c3,c5,c7,ov,tp,fz])
        go_enter Tryz.func194,Tryz.ntmps194
        go_wp2_with (first
         |(go_at_call 211;refine(aA _ _ _ _ _ _ _ _ _ _ _ _ _ _).mono ?_;rintro e w' ⟨rfl,hb⟩;obtain⟨hc,hf,hs⟩:=ac hb;(try have hz0:=zA hb w.heap.size);(try have hz1:=zA hb (w.heap.size+1)))
         |(go_at_call 199;refine(aw _ _ _ _).mono ?_;rintro e w' ⟨rfl,hb⟩;obtain⟨hc,hf,hs⟩:=ac hb;(try have hz0:=zA hb w.heap.size);(try have hz1:=zA hb (w.heap.size+1)))
         |(go_at_call 102;refine(ag _ _ _ _).mono ?_;rintro e' w' ⟨rfl,rfl⟩)
         |(go_at_call 200;refine(az _ _ _ _ _).mono ?_;rintro e w' ⟨rfl,hb⟩;obtain⟨hc,hf,hs⟩:=ac hb;(try have hz0:=zA hb w.heap.size);(try have hz1:=zA hb (w.heap.size+1))))
        go_ret
        exact⟨ad (aa hq).symm,(aq)⟩
       ·have hq:Hid (aL l mark ky st en an asu ale amo fn fsu fle fmo td true=true):=ab (by simp[bk,c0,c2,c4,c6,c3,c5,c7,ov,tp,fz])
        go_enter Tryz.func194,Tryz.ntmps194
        go_wp2_with (first
         |(go_at_call 211;refine(aA _ _ _ _ _ _ _ _ _ _ _ _ _ _).mono ?_;rintro e w' ⟨rfl,hb⟩;obtain⟨hc,hf,hs⟩:=ac hb;(try have hz0:=zA hb w.heap.size);(try have hz1:=zA hb (w.heap.size+1)))
         |(go_at_call 199;refine(aw _ _ _ _).mono ?_;rintro e w' ⟨rfl,hb⟩;obtain⟨hc,hf,hs⟩:=ac hb;(try have hz0:=zA hb w.heap.size);(try have hz1:=zA hb (w.heap.size+1)))
         |(go_at_call 102;refine(ag _ _ _ _).mono ?_;rintro e' w' ⟨rfl,rfl⟩)
         |(go_at_call 200;refine(az _ _ _ _ _).mono ?_;rintro e w' ⟨rfl,hb⟩;obtain⟨hc,hf,hs⟩:=ac hb;(try have hz0:=zA hb w.heap.size);(try have hz1:=zA hb (w.heap.size+1))))
        go_ret
        exact⟨ad (by first|exact(aa hq).symm|(rw[aa hq];simp[ov])),(aq)⟩
      ·have hq:Hid (aL l mark ky st en an asu ale amo fn fsu fle fmo td true=false):=ab (by simp[bk,c0,c2,c4,c6,c3,c5,c7,ov,tp])
       go_enter Tryz.func194,Tryz.ntmps194
       go_wp2_with (first
        |(go_at_call 211;refine(aA _ _ _ _ _ _ _ _ _ _ _ _ _ _).mono ?_;rintro e w' ⟨rfl,hb⟩;obtain⟨hc,hf,hs⟩:=ac hb;(try have hz0:=zA hb w.heap.size);(try have hz1:=zA hb (w.heap.size+1)))
        |(go_at_call 199;refine(aw _ _ _ _).mono ?_;rintro e w' ⟨rfl,hb⟩;obtain⟨hc,hf,hs⟩:=ac hb;(try have hz0:=zA hb w.heap.size);(try have hz1:=zA hb (w.heap.size+1)))
        |(go_at_call 102;refine(ag _ _ _ _).mono ?_;rintro e' w' ⟨rfl,rfl⟩)
        |(go_at_call 200;refine(az _ _ _ _ _).mono ?_;rintro e w' ⟨rfl,hb⟩;obtain⟨hc,hf,hs⟩:=ac hb;(try have hz0:=zA hb w.heap.size);(try have hz1:=zA hb (w.heap.size+1))))
       go_ret
       exact⟨ad (aa hq).symm,(aq)⟩
    ·cases tm
     ·by_cases tp:0<td
      ·have hq:Hid (aL l mark ky st en an asu ale amo fn fsu fle fmo td false=false):=ab (by simp[bk,c0,c2,c4,c6,c3,c5,c7,ov,tp])
       go_enter Tryz.func194,Tryz.ntmps194
       go_wp2_with (first
        |(go_at_call 211;refine(aA _ _ _ _ _ _ _ _ _ _ _ _ _ _).mono ?_;rintro e w' ⟨rfl,hb⟩;obtain⟨hc,hf,hs⟩:=ac hb;(try have hz0:=zA hb w.heap.size);(try have hz1:=zA hb (w.heap.size+1)))
        |(go_at_call 199;refine(aw _ _ _ _).mono ?_;rintro e w' ⟨rfl,hb⟩;obtain⟨hc,hf,hs⟩:=ac hb;(try have hz0:=zA hb w.heap.size);(try have hz1:=zA hb (w.heap.size+1)))
        |(go_at_call 102;refine(ag _ _ _ _).mono ?_;rintro e' w' ⟨rfl,rfl⟩)
        |(go_at_call 200;refine(az _ _ _ _ _).mono ?_;rintro e w' ⟨rfl,hb⟩;obtain⟨hc,hf,hs⟩:=ac hb;(try have hz0:=zA hb w.heap.size);(try have hz1:=zA hb (w.heap.size+1))))
       go_ret
       exact⟨ad (aa hq).symm,(aq)⟩
      ·cases fz:(fn==0)
       ·have hq:Hid (aL l mark ky st en an asu ale amo fn fsu fle fmo td false=true):=ab (by simp[bk,c0,c2,c4,c6,c3,c5,c7,ov,tp,fz])
        go_enter Tryz.func194,Tryz.ntmps194
        go_wp2_with (first
         |(go_at_call 211;refine(aA _ _ _ _ _ _ _ _ _ _ _ _ _ _).mono ?_;rintro e w' ⟨rfl,hb⟩;obtain⟨hc,hf,hs⟩:=ac hb;(try have hz0:=zA hb w.heap.size);(try have hz1:=zA hb (w.heap.size+1)))
         |(go_at_call 199;refine(aw _ _ _ _).mono ?_;rintro e w' ⟨rfl,hb⟩;obtain⟨hc,hf,hs⟩:=ac hb;(try have hz0:=zA hb w.heap.size);(try have hz1:=zA hb (w.heap.size+1)))
         |(go_at_call 102;refine(ag _ _ _ _).mono ?_;rintro e' w' ⟨rfl,rfl⟩)
         |(go_at_call 200;refine(az _ _ _ _ _).mono ?_;rintro e w' ⟨rfl,hb⟩;obtain⟨hc,hf,hs⟩:=ac hb;(try have hz0:=zA hb w.heap.size);(try have hz1:=zA hb (w.heap.size+1))))
        go_ret
        exact⟨ad (by first|exact(aa hq).symm|(rw[aa hq];simp[ov])),(aq)⟩
       ·have hq:Hid (aL l mark ky st en an asu ale amo fn fsu fle fmo td false=false):=ab (by simp[bk,c0,c2,c4,c6,c3,c5,c7,ov,tp,fz])
        go_enter Tryz.func194,Tryz.ntmps194
        go_wp2_with (first
         |(go_at_call 211;refine(aA _ _ _ _ _ _ _ _ _ _ _ _ _ _).mono ?_;rintro e w' ⟨rfl,hb⟩;obtain⟨hc,hf,hs⟩:=ac hb;(try have hz0:=zA hb w.heap.size);(try have hz1:=zA hb (w.heap.size+1)))
         |(go_at_call 199;refine(aw _ _ _ _).mono ?_;rintro e w' ⟨rfl,hb⟩;obtain⟨hc,hf,hs⟩:=ac hb;(try have hz0:=zA hb w.heap.size);(try have hz1:=zA hb (w.heap.size+1)))
         |(go_at_call 102;refine(ag _ _ _ _).mono ?_;rintro e' w' ⟨rfl,rfl⟩)
         |(go_at_call 200;refine(az _ _ _ _ _).mono ?_;rintro e w' ⟨rfl,hb⟩;obtain⟨hc,hf,hs⟩:=ac hb;(try have hz0:=zA hb w.heap.size);(try have hz1:=zA hb (w.heap.size+1))))
        go_ret
        exact⟨ad (aa hq).symm,(aq)⟩
     ·have hq:Hid (aL l mark ky st en an asu ale amo fn fsu fle fmo td true=false):=ab (by simp[bk,c0,c2,c4,c6,c3,c5,c7,ov])
      go_enter Tryz.func194,Tryz.ntmps194
      go_wp2_with (first
       |(go_at_call 211;refine(aA _ _ _ _ _ _ _ _ _ _ _ _ _ _).mono ?_;rintro e w' ⟨rfl,hb⟩;obtain⟨hc,hf,hs⟩:=ac hb;(try have hz0:=zA hb w.heap.size);(try have hz1:=zA hb (w.heap.size+1)))
       |(go_at_call 199;refine(aw _ _ _ _).mono ?_;rintro e w' ⟨rfl,hb⟩;obtain⟨hc,hf,hs⟩:=ac hb;(try have hz0:=zA hb w.heap.size);(try have hz1:=zA hb (w.heap.size+1)))
       |(go_at_call 102;refine(ag _ _ _ _).mono ?_;rintro e' w' ⟨rfl,rfl⟩)
       |(go_at_call 200;refine(az _ _ _ _ _).mono ?_;rintro e w' ⟨rfl,hb⟩;obtain⟨hc,hf,hs⟩:=ac hb;(try have hz0:=zA hb w.heap.size);(try have hz1:=zA hb (w.heap.size+1))))
      go_ret
      exact⟨ad (aa hq).symm,(aq)⟩
   ·have hq:Hid (aL l mark ky st en an asu ale amo fn fsu fle fmo td tm=false):=ab (by simp[bk,c0,c2,c4,c6,c3,c5,c7])
    go_enter Tryz.func194,Tryz.ntmps194
    go_wp2_with (first
     |(go_at_call 211;refine(aA _ _ _ _ _ _ _ _ _ _ _ _ _ _).mono ?_;rintro e w' ⟨rfl,hb⟩;obtain⟨hc,hf,hs⟩:=ac hb;(try have hz0:=zA hb w.heap.size);(try have hz1:=zA hb (w.heap.size+1)))
     |(go_at_call 199;refine(aw _ _ _ _).mono ?_;rintro e w' ⟨rfl,hb⟩;obtain⟨hc,hf,hs⟩:=ac hb;(try have hz0:=zA hb w.heap.size);(try have hz1:=zA hb (w.heap.size+1)))
     |(go_at_call 102;refine(ag _ _ _ _).mono ?_;rintro e' w' ⟨rfl,rfl⟩)
     |(go_at_call 200;refine(az _ _ _ _ _).mono ?_;rintro e w' ⟨rfl,hb⟩;obtain⟨hc,hf,hs⟩:=ac hb;(try have hz0:=zA hb w.heap.size);(try have hz1:=zA hb (w.heap.size+1))))
    go_ret
    exact⟨ad (aa hq).symm,(aq)⟩
  ·have hq:Hid (aL l mark ky st en an asu ale amo fn fsu fle fmo td tm=false):=ab (by simp[bk,c0,c2,c4,c6,c3,c5])
   go_enter Tryz.func194,Tryz.ntmps194
   go_wp2_with (first
    |(go_at_call 211;refine(aA _ _ _ _ _ _ _ _ _ _ _ _ _ _).mono ?_;rintro e w' ⟨rfl,hb⟩;obtain⟨hc,hf,hs⟩:=ac hb;(try have hz0:=zA hb w.heap.size);(try have hz1:=zA hb (w.heap.size+1)))
    |(go_at_call 199;refine(aw _ _ _ _).mono ?_;rintro e w' ⟨rfl,hb⟩;obtain⟨hc,hf,hs⟩:=ac hb;(try have hz0:=zA hb w.heap.size);(try have hz1:=zA hb (w.heap.size+1)))
    |(go_at_call 102;refine(ag _ _ _ _).mono ?_;rintro e' w' ⟨rfl,rfl⟩)
    |(go_at_call 200;refine(az _ _ _ _ _).mono ?_;rintro e w' ⟨rfl,hb⟩;obtain⟨hc,hf,hs⟩:=ac hb;(try have hz0:=zA hb w.heap.size);(try have hz1:=zA hb (w.heap.size+1))))
   go_ret
   exact⟨ad (aa hq).symm,(aq)⟩
 ·have hq:Hid (aL l mark ky st en an asu ale amo fn fsu fle fmo td tm=false):=ab (by simp[bk,c0,c2,c4,c6,c3])
  go_enter Tryz.func194,Tryz.ntmps194
  go_wp2_with (first
   |(go_at_call 211;refine(aA _ _ _ _ _ _ _ _ _ _ _ _ _ _).mono ?_;rintro e w' ⟨rfl,hb⟩;obtain⟨hc,hf,hs⟩:=ac hb;(try have hz0:=zA hb w.heap.size);(try have hz1:=zA hb (w.heap.size+1)))
   |(go_at_call 199;refine(aw _ _ _ _).mono ?_;rintro e w' ⟨rfl,hb⟩;obtain⟨hc,hf,hs⟩:=ac hb;(try have hz0:=zA hb w.heap.size);(try have hz1:=zA hb (w.heap.size+1)))
   |(go_at_call 102;refine(ag _ _ _ _).mono ?_;rintro e' w' ⟨rfl,rfl⟩)
   |(go_at_call 200;refine(az _ _ _ _ _).mono ?_;rintro e w' ⟨rfl,hb⟩;obtain⟨hc,hf,hs⟩:=ac hb;(try have hz0:=zA hb w.heap.size);(try have hz1:=zA hb (w.heap.size+1))))
  go_ret
  exact⟨ad (aa hq).symm,(aq)⟩
/-- Whether two windows touch. -/
def aQ(a b c d:Int):Bool:=decide (a<d)&&decide (c<b)
theorem bi(a b c d:Int)(w:World):Calls Tryz.prog 212 #[.agg #[.int .i64 a,.int .i64 b],.agg #[.int .i64 c,.int .i64 d]] w fun e w'=>e= .returned (.bool (aQ a b c d))∧Below w.heap.size w w':=by
 by_cases h1:a<d
 ·by_cases h2:c<b
  ·have h3:Hid (aQ a b c d=true):=ab (by simp only[aQ];simp[h1,h2])
   go_enter Tryz.func212,Tryz.ntmps212
   go_wp2
   go_ret
   exact⟨ad (aa h3).symm,aH (ai _ _) _⟩
  ·have h3:Hid (aQ a b c d=false):=ab (by simp only[aQ];simp[h1,h2])
   go_enter Tryz.func212,Tryz.ntmps212
   go_wp2
   go_ret
   exact⟨ad (aa h3).symm,aH (ai _ _) _⟩
 ·have h3:Hid (aQ a b c d=false):=ab (by simp only[aQ];simp[h1])
  go_enter Tryz.func212,Tryz.ntmps212
  go_wp2
  go_ret
  exact⟨ad (aa h3).symm,aH (ai _ _) _⟩
theorem cJ(a b c d:Int)(w:World):Calls Tryz.prog 139 #[.agg #[.int .i64 a,.int .i64 b],.agg #[.int .i64 c,.int .i64 d]] w fun e w'=>e= .returned (.bool (aQ a b c d))∧Below w.heap.size w w':=by
 by_cases h1:a<d
 ·by_cases h2:c<b
  ·have h3:Hid (aQ a b c d=true):=ab (by simp only[aQ];simp[h1,h2])
   go_enter Tryz.func139,Tryz.ntmps139
   go_wp2
   go_ret
   exact⟨ad (aa h3).symm,aH (ai _ _) _⟩
  ·have h3:Hid (aQ a b c d=false):=ab (by simp only[aQ];simp[h1,h2])
   go_enter Tryz.func139,Tryz.ntmps139
   go_wp2
   go_ret
   exact⟨ad (aa h3).symm,aH (ai _ _) _⟩
 ·have h3:Hid (aQ a b c d=false):=ab (by simp only[aQ];simp[h1])
  go_enter Tryz.func139,Tryz.ntmps139
  go_wp2
  go_ret
  exact⟨ad (aa h3).symm,aH (ai _ _) _⟩
theorem hH{a b:Bool}(h:b=a):Ending.returned (.bool a)= .returned (.bool b):=by rw[h]
/-- Whether a window of a key is ahead of another one. -/
def cf(ky st en ky' st' en':Int):Bool:=decide (fE ky st en ky' st' en'<0)
theorem gF{ky st en ky' st' en':Int}(h:¬ ky=ky'):cf ky st en ky' st' en'=decide (ky<ky'):=by
 unfold cf fE orI eX
 by_cases h1:ky<ky'
 ·simp[h1]
 ·have h2:ky'<ky:=by omega
  simp[h1,h2]
theorem gG{ky st en st' en':Int}(h2:¬ st=st'):cf ky st en ky st' en'=decide (st<st'):=by
 unfold cf fE orI eX
 by_cases h1:st<st'
 ·simp[h1]
 ·have h3:st'<st:=by omega
  simp[h1,h3]
theorem gH{ky st en en':Int}:cf ky st en ky st en'=decide (en<en'):=by
 unfold cf fE orI eX
 by_cases h1:en<en'
 ·simp[h1]
 ·by_cases h3:en'<en
  ·simp[h1,h3]
  ·simp[h1,h3]
/-- Whether a window is ahead of another one. -/
def lessW(st en st' en':Int):Bool:=if st=st' then decide (en<en')else decide (st<st')
theorem l2less_any(st en st' en':Int)(w:World):Calls Tryz.prog 184 #[.agg #[.int .i64 st,.int .i64 en],.agg #[.int .i64 st',.int .i64 en']] w fun e w'=>e= .returned (.bool (lessW st en st' en'))∧Below w.heap.size w w':=by
 by_cases h:st=st'
 ·have hq:lessW st en st' en'=decide (en<en'):=if_pos h
  have HQ:=ab hq
  have h':(st==st')=true:=by simpa using h
  clear hq
  go_enter Tryz.func184,Tryz.ntmps184
  go_wp2
  go_ret
  exact⟨hH (aa HQ),(aj)⟩
 ·have hq:lessW st en st' en'=decide (st<st'):=if_neg h
  have HQ:=ab hq
  have h':(st==st')=false:=by simpa using h
  clear hq
  go_enter Tryz.func184,Tryz.ntmps184
  go_wp2
  go_ret
  exact⟨hH (aa HQ),(aj)⟩
theorem ahead_kP{ky st en st' en':Int}:lessW st en st' en'=cf ky st en ky st' en':=by
 unfold lessW
 by_cases h2:st=st'
 ·subst h2;rw[if_pos rfl,gH]
 ·rw[if_neg h2,gG h2]
theorem fh(ky st en ky' st' en':Int)(w:World):Calls Tryz.prog 138 #[.int .i64 ky,.agg #[.int .i64 st,.int .i64 en],.int .i64 ky',.agg #[.int .i64 st',.int .i64 en']] w fun e w'=>e= .returned (.bool (cf ky st en ky' st' en'))∧Below w.heap.size w w':=by
 by_cases h:ky=ky'
 ·subst h
  have HQ:=ab (ahead_kP (ky:=ky) (st:=st) (en:=en) (st':=st') (en':=en')).symm
  go_enter Tryz.func138,Tryz.ntmps138
  go_wp2_with (go_at_call 184;refine(l2less_any _ _ _ _ _).mono ?_;rintro e w' ⟨rfl,hb⟩)
  go_ret
  exact⟨hH (aa HQ),(aj)⟩
 ·have HQ:=ab (gF (st:=st) (en:=en) (st':=st') (en':=en') h)
  have h':(ky==ky')=false:=by simpa using h
  go_enter Tryz.func138,Tryz.ntmps138
  go_wp2
  go_ret
  exact⟨hH (aa HQ),(aj)⟩
/-- Whether a row may stand behind another one. -/
def cU(kd ky st en ky' st' en':Int):Bool:= !(kd==3&&(ky==ky'&&aQ st en st' en'))&&cf ky' st' en' ky st en
set_option maxRecDepth 20000 in
set_option maxHeartbeats 4000000 in
theorem gb(ky st en an asu ale amo fn fsu fle fmo td:Int)(tm:Bool)(ky' st' en' an' asu' ale' amo' fn' fsu' fle' fmo' td':Int)(tm':Bool)(kd:Int)(w:World):Calls Tryz.prog 195 #[.agg #[.int .i64 ky,.int .i64 st,.int .i64 en,.int .i64 an,.int .i64 asu,.int .i64 ale,.int .i64 amo,.int .i64 fn,.int .i64 fsu,.int .i64 fle,.int .i64 fmo,.int .i64 td,.bool tm],.agg #[.int .i64 ky',.int .i64 st',.int .i64 en',.int .i64 an',.int .i64 asu',.int .i64 ale',.int .i64 amo',.int .i64 fn',.int .i64 fsu',.int .i64 fle',.int .i64 fmo',.int .i64 td',.bool tm'],.int .i64 kd] w fun e' w'=>e'= .returned (.bool (cU kd ky st en ky' st' en'))∧Below w.heap.size w w':=by
 cases c0:(kd==3)
 ·have hq:Hid (cU kd ky st en ky' st' en'=decide (fE ky' st' en' ky st en<0)):=ab (by simp[cU,c0,cf])
  go_enter Tryz.func195,Tryz.ntmps195
  go_wp2_with (first
   |(go_at_call 212;refine(bi _ _ _ _ _).mono ?_;rintro e w' ⟨rfl,hb⟩;obtain⟨hc,hf,hs⟩:=ac hb;(try have hz0:=zA hb w.heap.size);(try have hz1:=zA hb (w.heap.size+1)))
   |(go_at_call 211;refine(aA _ _ _ _ _ _ _ _ _ _ _ _ _ _).mono ?_;rintro e w' ⟨rfl,hb⟩;obtain⟨hc,hf,hs⟩:=ac hb;(try have hz0:=zA hb w.heap.size);(try have hz1:=zA hb (w.heap.size+1)))
   |(go_at_call 213;refine(bh _ _ _ _ _ _ _).mono ?_;rintro e w' ⟨rfl,hb⟩;obtain⟨hc,hf,hs⟩:=ac hb;(try have hz0:=zA hb w.heap.size);(try have hz1:=zA hb (w.heap.size+1))))
  go_region_held3 (fun W=>((W.cell? ⟨w.heap.size,0,none⟩=some (.int .i64 ky)∧W.cell? ⟨w.heap.size,1,none⟩=some (.int .i64 st)∧W.cell? ⟨w.heap.size,2,none⟩=some (.int .i64 en)∧W.cell? ⟨w.heap.size,3,none⟩=some (.int .i64 an)∧W.cell? ⟨w.heap.size,4,none⟩=some (.int .i64 asu)∧W.cell? ⟨w.heap.size,5,none⟩=some (.int .i64 ale)∧W.cell? ⟨w.heap.size,6,none⟩=some (.int .i64 amo)∧W.cell? ⟨w.heap.size,7,none⟩=some (.int .i64 fn)∧W.cell? ⟨w.heap.size,8,none⟩=some (.int .i64 fsu)∧W.cell? ⟨w.heap.size,9,none⟩=some (.int .i64 fle)∧W.cell? ⟨w.heap.size,10,none⟩=some (.int .i64 fmo)∧W.cell? ⟨w.heap.size,11,none⟩=some (.int .i64 td)∧W.cell? ⟨w.heap.size,12,none⟩=some (.bool tm)∧W.cell? ⟨w.heap.size+1,0,none⟩=some (.int .i64 ky')∧W.cell? ⟨w.heap.size+1,1,none⟩=some (.int .i64 st')∧W.cell? ⟨w.heap.size+1,2,none⟩=some (.int .i64 en')∧W.cell? ⟨w.heap.size+1,3,none⟩=some (.int .i64 an')∧W.cell? ⟨w.heap.size+1,4,none⟩=some (.int .i64 asu')∧W.cell? ⟨w.heap.size+1,5,none⟩=some (.int .i64 ale')∧W.cell? ⟨w.heap.size+1,6,none⟩=some (.int .i64 amo')∧W.cell? ⟨w.heap.size+1,7,none⟩=some (.int .i64 fn')∧W.cell? ⟨w.heap.size+1,8,none⟩=some (.int .i64 fsu')∧W.cell? ⟨w.heap.size+1,9,none⟩=some (.int .i64 fle')∧W.cell? ⟨w.heap.size+1,10,none⟩=some (.int .i64 fmo')∧W.cell? ⟨w.heap.size+1,11,none⟩=some (.int .i64 td')∧W.cell? ⟨w.heap.size+1,12,none⟩=some (.bool tm'))∧w.heap.size<W.heap.size∧w.heap.size+1<W.heap.size)) ((first|((repeat(first|(with_reducible assumption)|(with_reducible refine bz ?_ (iJ))|(with_reducible refine bz ?_ (ah (Below.refl _ _)))|(with_reducible refine bz ?_ (ai _ _))));done)|(refine⟨⟨?_,?_,?_,?_,?_,?_,?_,?_,?_,?_,?_,?_,?_,?_,?_,?_,?_,?_,?_,?_,?_,?_,?_,?_,?_,?_⟩,?_,?_⟩<;>first|(go_keep;done)|(simp;done)|(simp;omega)|omega)))
   (first
   |(go_at_call 212;refine(bi _ _ _ _ _).mono ?_;rintro e w' ⟨rfl,hb⟩;obtain⟨hc,hf,hs⟩:=ac hb)
   |(go_at_call 211;refine(aA _ _ _ _ _ _ _ _ _ _ _ _ _ _).mono ?_;rintro e w' ⟨rfl,hb⟩;obtain⟨hc,hf,hs⟩:=ac hb)
   |(go_at_call 213;refine(bh _ _ _ _ _ _ _).mono ?_;rintro e w' ⟨rfl,hb⟩;obtain⟨hc,hf,hs⟩:=ac hb))
  all_goals
   go_wp2_with (first
    |(go_at_call 212;refine(bi _ _ _ _ _).mono ?_;rintro e w' ⟨rfl,hb⟩;obtain⟨hc,hf,hs⟩:=ac hb;(try have hz0:=zA hb w.heap.size);(try have hz1:=zA hb (w.heap.size+1)))
    |(go_at_call 211;refine(aA _ _ _ _ _ _ _ _ _ _ _ _ _ _).mono ?_;rintro e w' ⟨rfl,hb⟩;obtain⟨hc,hf,hs⟩:=ac hb;(try have hz0:=zA hb w.heap.size);(try have hz1:=zA hb (w.heap.size+1)))
    |(go_at_call 213;refine(bh _ _ _ _ _ _ _).mono ?_;rintro e w' ⟨rfl,hb⟩;obtain⟨hc,hf,hs⟩:=ac hb;(try have hz0:=zA hb w.heap.size);(try have hz1:=zA hb (w.heap.size+1))))
   go_ret
   exact⟨ad (aa hq).symm,(aq)⟩
 ·cases c1:(ky==ky')
  ·have hq:Hid (cU kd ky st en ky' st' en'=decide (fE ky' st' en' ky st en<0)):=ab (by simp[cU,c1,cf])
   go_enter Tryz.func195,Tryz.ntmps195
   go_wp2_with (first
    |(go_at_call 212;refine(bi _ _ _ _ _).mono ?_;rintro e w' ⟨rfl,hb⟩;obtain⟨hc,hf,hs⟩:=ac hb;(try have hz0:=zA hb w.heap.size);(try have hz1:=zA hb (w.heap.size+1)))
    |(go_at_call 211;refine(aA _ _ _ _ _ _ _ _ _ _ _ _ _ _).mono ?_;rintro e w' ⟨rfl,hb⟩;obtain⟨hc,hf,hs⟩:=ac hb;(try have hz0:=zA hb w.heap.size);(try have hz1:=zA hb (w.heap.size+1)))
    |(go_at_call 213;refine(bh _ _ _ _ _ _ _).mono ?_;rintro e w' ⟨rfl,hb⟩;obtain⟨hc,hf,hs⟩:=ac hb;(try have hz0:=zA hb w.heap.size);(try have hz1:=zA hb (w.heap.size+1))))
   go_region_held3 (fun W=>((W.cell? ⟨w.heap.size,0,none⟩=some (.int .i64 ky)∧W.cell? ⟨w.heap.size,1,none⟩=some (.int .i64 st)∧W.cell? ⟨w.heap.size,2,none⟩=some (.int .i64 en)∧W.cell? ⟨w.heap.size,3,none⟩=some (.int .i64 an)∧W.cell? ⟨w.heap.size,4,none⟩=some (.int .i64 asu)∧W.cell? ⟨w.heap.size,5,none⟩=some (.int .i64 ale)∧W.cell? ⟨w.heap.size,6,none⟩=some (.int .i64 amo)∧W.cell? ⟨w.heap.size,7,none⟩=some (.int .i64 fn)∧W.cell? ⟨w.heap.size,8,none⟩=some (.int .i64 fsu)∧W.cell? ⟨w.heap.size,9,none⟩=some (.int .i64 fle)∧W.cell? ⟨w.heap.size,10,none⟩=some (.int .i64 fmo)∧W.cell? ⟨w.heap.size,11,none⟩=some (.int .i64 td)∧W.cell? ⟨w.heap.size,12,none⟩=some (.bool tm)∧W.cell? ⟨w.heap.size+1,0,none⟩=some (.int .i64 ky')∧W.cell? ⟨w.heap.size+1,1,none⟩=some (.int .i64 st')∧W.cell? ⟨w.heap.size+1,2,none⟩=some (.int .i64 en')∧W.cell? ⟨w.heap.size+1,3,none⟩=some (.int .i64 an')∧W.cell? ⟨w.heap.size+1,4,none⟩=some (.int .i64 asu')∧W.cell? ⟨w.heap.size+1,5,none⟩=some (.int .i64 ale')∧W.cell? ⟨w.heap.size+1,6,none⟩=some (.int .i64 amo')∧W.cell? ⟨w.heap.size+1,7,none⟩=some (.int .i64 fn')∧W.cell? ⟨w.heap.size+1,8,none⟩=some (.int .i64 fsu')∧W.cell? ⟨w.heap.size+1,9,none⟩=some (.int .i64 fle')∧W.cell? ⟨w.heap.size+1,10,none⟩=some (.int .i64 fmo')∧W.cell? ⟨w.heap.size+1,11,none⟩=some (.int .i64 td')∧W.cell? ⟨w.heap.size+1,12,none⟩=some (.bool tm'))∧w.heap.size<W.heap.size∧w.heap.size+1<W.heap.size)) ((first|((repeat(first|(with_reducible assumption)|(with_reducible refine bz ?_ (iJ))|(with_reducible refine bz ?_ (ah (Below.refl _ _)))|(with_reducible refine bz ?_ (ai _ _))));done)|(refine⟨⟨?_,?_,?_,?_,?_,?_,?_,?_,?_,?_,?_,?_,?_,?_,?_,?_,?_,?_,?_,?_,?_,?_,?_,?_,?_,?_⟩,?_,?_⟩<;>first|(go_keep;done)|(simp;done)|(simp;omega)|omega)))
    (first
    |(go_at_call 212;refine(bi _ _ _ _ _).mono ?_;rintro e w' ⟨rfl,hb⟩;obtain⟨hc,hf,hs⟩:=ac hb)
    |(go_at_call 211;refine(aA _ _ _ _ _ _ _ _ _ _ _ _ _ _).mono ?_;rintro e w' ⟨rfl,hb⟩;obtain⟨hc,hf,hs⟩:=ac hb)
    |(go_at_call 213;refine(bh _ _ _ _ _ _ _).mono ?_;rintro e w' ⟨rfl,hb⟩;obtain⟨hc,hf,hs⟩:=ac hb))
   all_goals
    go_wp2_with (first
     |(go_at_call 212;refine(bi _ _ _ _ _).mono ?_;rintro e w' ⟨rfl,hb⟩;obtain⟨hc,hf,hs⟩:=ac hb;(try have hz0:=zA hb w.heap.size);(try have hz1:=zA hb (w.heap.size+1)))
     |(go_at_call 211;refine(aA _ _ _ _ _ _ _ _ _ _ _ _ _ _).mono ?_;rintro e w' ⟨rfl,hb⟩;obtain⟨hc,hf,hs⟩:=ac hb;(try have hz0:=zA hb w.heap.size);(try have hz1:=zA hb (w.heap.size+1)))
     |(go_at_call 213;refine(bh _ _ _ _ _ _ _).mono ?_;rintro e w' ⟨rfl,hb⟩;obtain⟨hc,hf,hs⟩:=ac hb;(try have hz0:=zA hb w.heap.size);(try have hz1:=zA hb (w.heap.size+1))))
    go_ret
    exact⟨ad (aa hq).symm,(aq)⟩
  ·cases c2:aQ st en st' en'
   ·have hq:Hid (cU kd ky st en ky' st' en'=decide (fE ky' st' en' ky st en<0)):=ab (by simp[cU,c2,cf])
    go_enter Tryz.func195,Tryz.ntmps195
    go_wp2_with (first
     |(go_at_call 212;refine(bi _ _ _ _ _).mono ?_;rintro e w' ⟨rfl,hb⟩;obtain⟨hc,hf,hs⟩:=ac hb;(try have hz0:=zA hb w.heap.size);(try have hz1:=zA hb (w.heap.size+1)))
     |(go_at_call 211;refine(aA _ _ _ _ _ _ _ _ _ _ _ _ _ _).mono ?_;rintro e w' ⟨rfl,hb⟩;obtain⟨hc,hf,hs⟩:=ac hb;(try have hz0:=zA hb w.heap.size);(try have hz1:=zA hb (w.heap.size+1)))
     |(go_at_call 213;refine(bh _ _ _ _ _ _ _).mono ?_;rintro e w' ⟨rfl,hb⟩;obtain⟨hc,hf,hs⟩:=ac hb;(try have hz0:=zA hb w.heap.size);(try have hz1:=zA hb (w.heap.size+1))))
    have hS:((w'.cell? ⟨w.heap.size,0,none⟩=some (.int .i64 ky)∧w'.cell? ⟨w.heap.size,1,none⟩=some (.int .i64 st)∧w'.cell? ⟨w.heap.size,2,none⟩=some (.int .i64 en)∧w'.cell? ⟨w.heap.size,3,none⟩=some (.int .i64 an)∧w'.cell? ⟨w.heap.size,4,none⟩=some (.int .i64 asu)∧w'.cell? ⟨w.heap.size,5,none⟩=some (.int .i64 ale)∧w'.cell? ⟨w.heap.size,6,none⟩=some (.int .i64 amo)∧w'.cell? ⟨w.heap.size,7,none⟩=some (.int .i64 fn)∧w'.cell? ⟨w.heap.size,8,none⟩=some (.int .i64 fsu)∧w'.cell? ⟨w.heap.size,9,none⟩=some (.int .i64 fle)∧w'.cell? ⟨w.heap.size,10,none⟩=some (.int .i64 fmo)∧w'.cell? ⟨w.heap.size,11,none⟩=some (.int .i64 td)∧w'.cell? ⟨w.heap.size,12,none⟩=some (.bool tm)∧w'.cell? ⟨w.heap.size+1,0,none⟩=some (.int .i64 ky')∧w'.cell? ⟨w.heap.size+1,1,none⟩=some (.int .i64 st')∧w'.cell? ⟨w.heap.size+1,2,none⟩=some (.int .i64 en')∧w'.cell? ⟨w.heap.size+1,3,none⟩=some (.int .i64 an')∧w'.cell? ⟨w.heap.size+1,4,none⟩=some (.int .i64 asu')∧w'.cell? ⟨w.heap.size+1,5,none⟩=some (.int .i64 ale')∧w'.cell? ⟨w.heap.size+1,6,none⟩=some (.int .i64 amo')∧w'.cell? ⟨w.heap.size+1,7,none⟩=some (.int .i64 fn')∧w'.cell? ⟨w.heap.size+1,8,none⟩=some (.int .i64 fsu')∧w'.cell? ⟨w.heap.size+1,9,none⟩=some (.int .i64 fle')∧w'.cell? ⟨w.heap.size+1,10,none⟩=some (.int .i64 fmo')∧w'.cell? ⟨w.heap.size+1,11,none⟩=some (.int .i64 td')∧w'.cell? ⟨w.heap.size+1,12,none⟩=some (.bool tm'))∧w.heap.size<w'.heap.size∧w.heap.size+1<w'.heap.size):=⟨⟨(hb.cell (p:=⟨w.heap.size,0,none⟩) (iL)).trans (iM),(hb.cell (p:=⟨w.heap.size,1,none⟩) (iL)).trans (iM),(hb.cell (p:=⟨w.heap.size,2,none⟩) (iL)).trans (iM),(hb.cell (p:=⟨w.heap.size,3,none⟩) (iL)).trans (iM),(hb.cell (p:=⟨w.heap.size,4,none⟩) (iL)).trans (iM),(hb.cell (p:=⟨w.heap.size,5,none⟩) (iL)).trans (iM),(hb.cell (p:=⟨w.heap.size,6,none⟩) (iL)).trans (iM),(hb.cell (p:=⟨w.heap.size,7,none⟩) (iL)).trans (iM),(hb.cell (p:=⟨w.heap.size,8,none⟩) (iL)).trans (iM),(hb.cell (p:=⟨w.heap.size,9,none⟩) (iL)).trans (iM),(hb.cell (p:=⟨w.heap.size,10,none⟩) (iL)).trans (iM),(hb.cell (p:=⟨w.heap.size,11,none⟩) (iL)).trans (iM),(hb.cell (p:=⟨w.heap.size,12,none⟩) (iL)).trans (iM),(hb.cell (p:=⟨w.heap.size+1,0,none⟩) (iL)).trans (iM),(hb.cell (p:=⟨w.heap.size+1,1,none⟩) (iL)).trans (iM),(hb.cell (p:=⟨w.heap.size+1,2,none⟩) (iL)).trans (iM),(hb.cell (p:=⟨w.heap.size+1,3,none⟩) (iL)).trans (iM),(hb.cell (p:=⟨w.heap.size+1,4,none⟩) (iL)).trans (iM),(hb.cell (p:=⟨w.heap.size+1,5,none⟩) (iL)).trans (iM),(hb.cell (p:=⟨w.heap.size+1,6,none⟩) (iL)).trans (iM),(hb.cell (p:=⟨w.heap.size+1,7,none⟩) (iL)).trans (iM),(hb.cell (p:=⟨w.heap.size+1,8,none⟩) (iL)).trans (iM),(hb.cell (p:=⟨w.heap.size+1,9,none⟩) (iL)).trans (iM),(hb.cell (p:=⟨w.heap.size+1,10,none⟩) (iL)).trans (iM),(hb.cell (p:=⟨w.heap.size+1,11,none⟩) (iL)).trans (iM),(hb.cell (p:=⟨w.heap.size+1,12,none⟩) (iL)).trans (iM)⟩,by have h9:=hb.size;simp at h9;omega,by have h9:=hb.size;simp at h9;omega⟩
    go_region_held3 (fun W=>((W.cell? ⟨w.heap.size,0,none⟩=some (.int .i64 ky)∧W.cell? ⟨w.heap.size,1,none⟩=some (.int .i64 st)∧W.cell? ⟨w.heap.size,2,none⟩=some (.int .i64 en)∧W.cell? ⟨w.heap.size,3,none⟩=some (.int .i64 an)∧W.cell? ⟨w.heap.size,4,none⟩=some (.int .i64 asu)∧W.cell? ⟨w.heap.size,5,none⟩=some (.int .i64 ale)∧W.cell? ⟨w.heap.size,6,none⟩=some (.int .i64 amo)∧W.cell? ⟨w.heap.size,7,none⟩=some (.int .i64 fn)∧W.cell? ⟨w.heap.size,8,none⟩=some (.int .i64 fsu)∧W.cell? ⟨w.heap.size,9,none⟩=some (.int .i64 fle)∧W.cell? ⟨w.heap.size,10,none⟩=some (.int .i64 fmo)∧W.cell? ⟨w.heap.size,11,none⟩=some (.int .i64 td)∧W.cell? ⟨w.heap.size,12,none⟩=some (.bool tm)∧W.cell? ⟨w.heap.size+1,0,none⟩=some (.int .i64 ky')∧W.cell? ⟨w.heap.size+1,1,none⟩=some (.int .i64 st')∧W.cell? ⟨w.heap.size+1,2,none⟩=some (.int .i64 en')∧W.cell? ⟨w.heap.size+1,3,none⟩=some (.int .i64 an')∧W.cell? ⟨w.heap.size+1,4,none⟩=some (.int .i64 asu')∧W.cell? ⟨w.heap.size+1,5,none⟩=some (.int .i64 ale')∧W.cell? ⟨w.heap.size+1,6,none⟩=some (.int .i64 amo')∧W.cell? ⟨w.heap.size+1,7,none⟩=some (.int .i64 fn')∧W.cell? ⟨w.heap.size+1,8,none⟩=some (.int .i64 fsu')∧W.cell? ⟨w.heap.size+1,9,none⟩=some (.int .i64 fle')∧W.cell? ⟨w.heap.size+1,10,none⟩=some (.int .i64 fmo')∧W.cell? ⟨w.heap.size+1,11,none⟩=some (.int .i64 td')∧W.cell? ⟨w.heap.size+1,12,none⟩=some (.bool tm'))∧w.heap.size<W.heap.size∧w.heap.size+1<W.heap.size)) ((first|((repeat(first|(with_reducible assumption)|(with_reducible refine bz ?_ (iJ))|(with_reducible refine bz ?_ (ah (Below.refl _ _)))|(with_reducible refine bz ?_ (ai _ _))));done)|(refine⟨⟨?_,?_,?_,?_,?_,?_,?_,?_,?_,?_,?_,?_,?_,?_,?_,?_,?_,?_,?_,?_,?_,?_,?_,?_,?_,?_⟩,?_,?_⟩<;>first|(go_keep;done)|(simp;done)|(simp;omega)|omega)))
     (first
     |(go_at_call 212;refine(bi _ _ _ _ _).mono ?_;rintro e w' ⟨rfl,hb⟩;obtain⟨hc,hf,hs⟩:=ac hb)
     |(go_at_call 211;refine(aA _ _ _ _ _ _ _ _ _ _ _ _ _ _).mono ?_;rintro e w' ⟨rfl,hb⟩;obtain⟨hc,hf,hs⟩:=ac hb)
     |(go_at_call 213;refine(bh _ _ _ _ _ _ _).mono ?_;rintro e w' ⟨rfl,hb⟩;obtain⟨hc,hf,hs⟩:=ac hb))
    all_goals
     go_wp2_with (first
      |(go_at_call 212;refine(bi _ _ _ _ _).mono ?_;rintro e w' ⟨rfl,hb⟩;obtain⟨hc,hf,hs⟩:=ac hb;(try have hz0:=zA hb w.heap.size);(try have hz1:=zA hb (w.heap.size+1)))
      |(go_at_call 211;refine(aA _ _ _ _ _ _ _ _ _ _ _ _ _ _).mono ?_;rintro e w' ⟨rfl,hb⟩;obtain⟨hc,hf,hs⟩:=ac hb;(try have hz0:=zA hb w.heap.size);(try have hz1:=zA hb (w.heap.size+1)))
      |(go_at_call 213;refine(bh _ _ _ _ _ _ _).mono ?_;rintro e w' ⟨rfl,hb⟩;obtain⟨hc,hf,hs⟩:=ac hb;(try have hz0:=zA hb w.heap.size);(try have hz1:=zA hb (w.heap.size+1))))
     go_ret
     exact⟨ad (aa hq).symm,(aq)⟩
   ·have hq:Hid (cU kd ky st en ky' st' en'=false):=ab (by simp[cU,c0,c1,c2])
    go_enter Tryz.func195,Tryz.ntmps195
    go_wp2_with (first
     |(go_at_call 212;refine(bi _ _ _ _ _).mono ?_;rintro e w' ⟨rfl,hb⟩;obtain⟨hc,hf,hs⟩:=ac hb;(try have hz0:=zA hb w.heap.size);(try have hz1:=zA hb (w.heap.size+1)))
     |(go_at_call 211;refine(aA _ _ _ _ _ _ _ _ _ _ _ _ _ _).mono ?_;rintro e w' ⟨rfl,hb⟩;obtain⟨hc,hf,hs⟩:=ac hb;(try have hz0:=zA hb w.heap.size);(try have hz1:=zA hb (w.heap.size+1)))
     |(go_at_call 213;refine(bh _ _ _ _ _ _ _).mono ?_;rintro e w' ⟨rfl,hb⟩;obtain⟨hc,hf,hs⟩:=ac hb;(try have hz0:=zA hb w.heap.size);(try have hz1:=zA hb (w.heap.size+1))))
    go_ret
    exact⟨ad (aa hq).symm,(aq)⟩
/-- A row is ok; it may stand behind another one; so far all rows are and do. -/
def bt.okB(l mark:Int)(x:bt):Bool:=aL l mark x.ky x.st x.en x.an x.asu x.ale x.amo x.fn x.fsu x.fle x.fmo x.td x.tm
def eH(kd:Int)(y x:bt):Bool:=cU kd x.ky x.st x.en y.ky y.st y.en
def eR(kd l mark:Int)(xs:List bt)(i:Nat):Bool:=match xs[i]? with
 |none=>true
 |some x=>x.okB l mark&&match i with
  |0=>true
  |j+1=>match xs[j]? with
   |some y=>eH kd y x
   |none=>true
def dE(kd l mark:Int)(xs:List bt)(n:Nat):Bool:=(List.range n).all (eR kd l mark xs)
theorem cB(kd l mark:Int)(xs:List bt)(n:Nat):dE kd l mark xs (n+1)=(dE kd l mark xs n&&eR kd l mark xs n):=by
 simp[dE,List.range_succ]
theorem cO{kd l mark:Int}{xs:List bt}{n i:Nat}(hi:i<n)(h:eR kd l mark xs i=false):dE kd l mark xs n=false:=by
 cases hc:dE kd l mark xs n
 ·rfl
 ·have:=List.all_eq_true.1 hc i (List.mem_range.2 hi)
  rw[h]at this
  cases this
theorem okUp_at{kd l mark:Int}{xs:List bt}{n i:Nat}(hc:dE kd l mark xs n=true)(hi:i<n):eR kd l mark xs i=true:=List.all_eq_true.1 hc i (List.mem_range.2 hi)
theorem okAt_z{kd l mark:Int}{xs:List bt}{x:bt}(hx:xs[0]? =some x):eR kd l mark xs 0=x.okB l mark:=by simp[eR,hx]
theorem okAt_s{kd l mark:Int}{xs:List bt}{j:Nat}{x y:bt}(hx:xs[j+1]? =some x)(hy:xs[j]? =some y):eR kd l mark xs (j+1)=(x.okB l mark&&eH kd y x):=by simp[eR,hx,hy]
theorem hU{kd l mark:Int}{xs:List bt}{i:Nat}{x:bt}(h0:i=0)(hx:xs[i]? =some x):eR kd l mark xs i=x.okB l mark:=by subst h0;exact okAt_z hx
theorem fi{kd l mark:Int}{xs:List bt}{i j:Nat}{x y:bt}(he:i=j+1)(hx:xs[i]? =some x)(hy:xs[j]? =some y):eR kd l mark xs i=(x.okB l mark&&eH kd y x):=by subst he;exact okAt_s hx hy
theorem fj{kd l mark:Int}{xs:List bt}{i:Nat}{x:bt}(hx:xs[i]? =some x)(h:x.okB l mark=false):eR kd l mark xs i=false:=by simp[eR,hx,h]
theorem okAt_ok{kd l mark:Int}{xs:List bt}{i:Nat}{x:bt}(hx:xs[i]? =some x)(h:eR kd l mark xs i=true):x.okB l mark=true:=by
 simp only[eR,hx,Bool.and_eq_true]at h
 exact h.1
theorem ib{l mark:Int}{x:bt}(h:x.okB l mark=true):0≤x.st∧x.st<x.en∧x.en≤120:=by
 simp only[bt.okB,aL,Bool.and_eq_true]at h
 exact fZ h.1.1.1.1.1.1.1.1.1.2
theorem aheadP_iff{ky st en ky' st' en':Int}:cf ky st en ky' st' en'=true↔(ky<ky'∨(ky=ky'∧(st<st'∨(st=st'∧en<en')))):=by
 by_cases h:ky=ky'
 ·subst h
  by_cases h2:st=st'
  ·subst h2
   rw[gH]
   simp
  ·rw[gG h2]
   simp
   omega
 ·rw[gF h]
  simp
  omega
theorem far_step{kd l mark:Int}{y x:bt}(hk:kd=3)(hx:x.okB l mark=true)(hy:y.okB l mark=true)(hn:eH kd y x=true):y.ky≤x.ky∧(y.ky=x.ky→y.en≤x.st):=by
 have h1:=ib hx
 have h2:=ib hy
 simp only[eH,cU,Bool.and_eq_true]at hn
 have h3:=aheadP_iff.1 hn.2
 refine⟨by omega,fun e=>?_⟩
 have h4:=hn.1
 rw[hk,e]at h4
 have h5:aQ x.st x.en y.st y.en=false:=by simpa using h4
 simp only[aQ]at h5
 have h6:¬ (x.st<y.en∧y.st<x.en):=by
  intro hh
  simp[hh.1,hh.2]at h5
 omega
/-- Where no two neighbours touch no two at all do. -/
theorem okUp_far{kd l mark:Int}{xs:List bt}{n:Nat}(hk:kd=3)(h:dE kd l mark xs n=true):∀i,i<n→∀k,k<i→∀x y,xs[i]? =some x→xs[k]? =some y→y.ky≤x.ky∧(y.ky=x.ky→y.en≤x.st):=by
 intro i
 induction i with
 |zero=>intro _ k hk;omega
 |succ i ih=>
  intro hi k hki x y hx hy
  have hil:i<xs.length:=by have:=(List.getElem?_eq_some_iff.1 hx).1;omega
  obtain⟨z,hz⟩:∃z,xs[i]? =some z:=⟨_,List.getElem?_eq_getElem hil⟩
  have a1:=okUp_at h hi
  have a0:=okUp_at h (Nat.lt_of_succ_lt hi)
  have hxb:=okAt_ok hx a1
  have hzb:=okAt_ok hz a0
  rw[okAt_s hx hz,Bool.and_eq_true]at a1
  have st:=far_step hk hxb hzb a1.2
  by_cases he:k=i
  ·subst he
   rw[hz]at hy
   cases hy
   exact st
  ·have st2:=ih (Nat.lt_of_succ_lt hi) k (by omega) z y hz hy
   have w1:=ib hzb
   refine⟨by omega,fun e=>?_⟩
   have e1:z.ky=x.ky:=by omega
   have e2:y.ky=z.ky:=by omega
   have:=st.2 e1
   have:=st2.2 e2
   omega
/-- A row that touches one ahead of it, however far, is not ok. -/
theorem gc{kd l mark:Int}{xs:List bt}{i k:Nat}{x y:bt}(hk:kd=3)(h:dE kd l mark xs i=true)(hki:k<i)(hx:xs[i]? =some x)(hy:xs[k]? =some y)(e:y.ky=x.ky)(ht:aQ y.st y.en x.st x.en=true):eR kd l mark xs i=false:=by
 cases hc:eR kd l mark xs i
 ·rfl
 ·have h1:dE kd l mark xs (i+1)=true:=by rw[cB,h,hc];rfl
  have h2:=(okUp_far hk h1 i (by omega) k hki x y hx hy).2 e
  simp only[aQ,Bool.and_eq_true,decide_eq_true_eq]at ht
  omega
/-- When an operator is ok. -/
def bQ(s t k z p l e v r mark:Int)(xs:List bt):Bool:=aC s t k z p l e v r&&aM mark 0 1000&&decide (xs.length≤300)&&dE k l mark xs xs.length
theorem okJob_l{s t k z p l e v r:Int}(h:aC s t k z p l e v r=true):0≤l∧l≤20:=by
 simp only[aC,Bool.and_eq_true]at h
 exact aW.1 h.1.1.1.2
theorem okOp_j{s t k z p l e v r mark:Int}{xs:List bt}(h:aC s t k z p l e v r=false):bQ s t k z p l e v r mark xs=false:=by simp[bQ,h]
theorem okOp_m{s t k z p l e v r mark:Int}{xs:List bt}(h:aM mark 0 1000=false):bQ s t k z p l e v r mark xs=false:=by simp[bQ,h]
theorem okOp_n{s t k z p l e v r mark:Int}{xs:List bt}(h:¬ xs.length≤300):bQ s t k z p l e v r mark xs=false:=by simp[bQ,h]
theorem okOp_t{s t k z p l e v r mark:Int}{xs:List bt}(h1:aC s t k z p l e v r=true)(h2:aM mark 0 1000=true)(h3:xs.length≤300):bQ s t k z p l e v r mark xs=dE k l mark xs xs.length:=by simp[bQ,h1,h2,h3]
end Go.Proofs.YtiilbnjjhgcjdaaGreat
