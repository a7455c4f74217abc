/- Laid together: what the claim needs of the texts that were built one by one. -/
import Derived.Test.YtdmhihcipkhecaaGreatT1
import Derived.Test.YtdmhihcipkhecaaGreatT0
import Derived.Deep.RegionHeld3
import Derived.Deep.DeepCutAuto
set_option linter.unusedVariables false
namespace Go.Proofs.YtdmhihcipkhecaaGreat
open Go.ChangeShapes Go.WideShapes Go.ChangeAt Go.RowKit
/-- When a row may be open behind a mark. -/
def aY(l mark:Int)(ky st en an asu ale amo fn fsu fle fmo td:Int)(tm:Bool):Bool:=bH ky 0 3&&dN st en&&eA an asu ale amo&&eA fn fsu fle fmo&&bH td 0 1500&& !(an==0)&&decide (fn≤an)&&decide (mark<en+l)&&(tm==decide (en≤mark))&&(decide (0<td)==decide (en≤mark))&&((fn==0)==decide (en≤mark))
theorem ji{st en:Int}(h:dN st en=true):0≤st∧st<en∧en≤120:=by
 simp only[dN,Bool.and_eq_true]at h
 have h1:=br.1 h.1
 have h2:=br.1 h.2
 omega
set_option maxRecDepth 20000 in
set_option maxHeartbeats 4000000 in
theorem fi(s t k z p l e:Int)(b:Bool)(v r:Int)(ky st en an asu ale amo fn fsu fle fmo td:Int)(tm:Bool)(mark:Int)(hl:0≤l∧l≤20)(w:World):Calls Tryz.prog 38 #[.agg #[.int .i64 s,.int .i64 t,.int .i64 k,.int .i64 z,.int .i64 p,.int .i64 l,.int .i64 e,.bool b,.int .i64 v,.int .i64 r],.agg #[.int .i64 ky,.int .i64 st,.int .i64 en,.int .i64 an,.int .i64 asu,.int .i64 ale,.int .i64 amo,.int .i64 fn,.int .i64 fsu,.int .i64 fle,.int .i64 fmo,.int .i64 td,.bool tm],.int .i64 mark] w fun e' w'=>e'= .returned (.bool (aY l mark ky st en an asu ale amo fn fsu fle fmo td tm))∧Below w.heap.size w w':=by
 cases c0:bH ky 0 3
 ·have hq:Hid (aY l mark ky st en an asu ale amo fn fsu fle fmo td tm=false):=ae (by simp[aY,c0])
  go_enter Tryz.func38,Tryz.ntmps38
  go_wp2_with (first
   |(go_at_call 26;refine(aI _ _ _ _).mono ?_;rintro e' w' ⟨rfl,rfl⟩)
   |(go_at_call 67;refine(bc _ _ _).mono ?_;rintro e w' ⟨rfl,hb⟩;obtain⟨hc,hf,hs⟩:=az hb;(try have hz0:=zA hb w.heap.size);(try have hz1:=zA hb (w.heap.size+1)))
   |(go_at_call 68;refine(bd _ _ _ _ _).mono ?_;rintro e w' ⟨rfl,hb⟩;obtain⟨hc,hf,hs⟩:=az hb;(try have hz0:=zA hb w.heap.size);(try have hz1:=zA hb (w.heap.size+1))))
  go_ret
  exact⟨aD (ab hq).symm,(bC)⟩
 cases c1:dN st en
 ·have hq:Hid (aY l mark ky st en an asu ale amo fn fsu fle fmo td tm=false):=ae (by simp[aY,c0,c1])
  go_enter Tryz.func38,Tryz.ntmps38
  go_wp2_with (first
   |(go_at_call 26;refine(aI _ _ _ _).mono ?_;rintro e' w' ⟨rfl,rfl⟩)
   |(go_at_call 67;refine(bc _ _ _).mono ?_;rintro e w' ⟨rfl,hb⟩;obtain⟨hc,hf,hs⟩:=az hb;(try have hz0:=zA hb w.heap.size);(try have hz1:=zA hb (w.heap.size+1)))
   |(go_at_call 68;refine(bd _ _ _ _ _).mono ?_;rintro e w' ⟨rfl,hb⟩;obtain⟨hc,hf,hs⟩:=az hb;(try have hz0:=zA hb w.heap.size);(try have hz1:=zA hb (w.heap.size+1))))
  go_ret
  exact⟨aD (ab hq).symm,(bC)⟩
 have hen:=ji c1
 cases c2:eA an asu ale amo
 ·have hq:Hid (aY l mark ky st en an asu ale amo fn fsu fle fmo td tm=false):=ae (by simp[aY,c0,c1,c2])
  go_enter Tryz.func38,Tryz.ntmps38
  go_wp2_with (first
   |(go_at_call 26;refine(aI _ _ _ _).mono ?_;rintro e' w' ⟨rfl,rfl⟩)
   |(go_at_call 67;refine(bc _ _ _).mono ?_;rintro e w' ⟨rfl,hb⟩;obtain⟨hc,hf,hs⟩:=az hb;(try have hz0:=zA hb w.heap.size);(try have hz1:=zA hb (w.heap.size+1)))
   |(go_at_call 68;refine(bd _ _ _ _ _).mono ?_;rintro e w' ⟨rfl,hb⟩;obtain⟨hc,hf,hs⟩:=az hb;(try have hz0:=zA hb w.heap.size);(try have hz1:=zA hb (w.heap.size+1))))
  go_ret
  exact⟨aD (ab hq).symm,(bC)⟩
 cases c3:(an==0)
 ·cases c4:eA fn fsu fle fmo
  ·have hq:Hid (aY l mark ky st en an asu ale amo fn fsu fle fmo td tm=false):=ae (by simp[aY,c0,c1,c2,c3,c4])
   go_enter Tryz.func38,Tryz.ntmps38
   go_wp2_with (first
    |(go_at_call 26;refine(aI _ _ _ _).mono ?_;rintro e' w' ⟨rfl,rfl⟩)
    |(go_at_call 67;refine(bc _ _ _).mono ?_;rintro e w' ⟨rfl,hb⟩;obtain⟨hc,hf,hs⟩:=az hb;(try have hz0:=zA hb w.heap.size);(try have hz1:=zA hb (w.heap.size+1)))
    |(go_at_call 68;refine(bd _ _ _ _ _).mono ?_;rintro e w' ⟨rfl,hb⟩;obtain⟨hc,hf,hs⟩:=az hb;(try have hz0:=zA hb w.heap.size);(try have hz1:=zA hb (w.heap.size+1))))
   go_ret
   exact⟨aD (ab hq).symm,(bC)⟩
  by_cases c5:fn≤an
  ·cases c6:bH td 0 1500
   ·have hq:Hid (aY l mark ky st en an asu ale amo fn fsu fle fmo td tm=false):=ae (by simp[aY,c0,c1,c2,c3,c4,c5,c6])
    go_enter Tryz.func38,Tryz.ntmps38
    go_wp2_with (first
     |(go_at_call 26;refine(aI _ _ _ _).mono ?_;rintro e' w' ⟨rfl,rfl⟩)
     |(go_at_call 67;refine(bc _ _ _).mono ?_;rintro e w' ⟨rfl,hb⟩;obtain⟨hc,hf,hs⟩:=az hb;(try have hz0:=zA hb w.heap.size);(try have hz1:=zA hb (w.heap.size+1)))
     |(go_at_call 68;refine(bd _ _ _ _ _).mono ?_;rintro e w' ⟨rfl,hb⟩;obtain⟨hc,hf,hs⟩:=az hb;(try have hz0:=zA hb w.heap.size);(try have hz1:=zA hb (w.heap.size+1))))
    go_ret
    exact⟨aD (ab hq).symm,(bC)⟩
   by_cases ov:en≤mark
   ·cases tm
    ·have hq:Hid (aY l mark ky st en an asu ale amo fn fsu fle fmo td false=false):=ae (by simp[aY,c0,c1,c2,c3,c4,c5,c6,ov])
     go_enter Tryz.func38,Tryz.ntmps38
     go_wp2_with (first
      |(go_at_call 26;refine(aI _ _ _ _).mono ?_;rintro e' w' ⟨rfl,rfl⟩)
      |(go_at_call 67;refine(bc _ _ _).mono ?_;rintro e w' ⟨rfl,hb⟩;obtain⟨hc,hf,hs⟩:=az hb;(try have hz0:=zA hb w.heap.size);(try have hz1:=zA hb (w.heap.size+1)))
      |(go_at_call 68;refine(bd _ _ _ _ _).mono ?_;rintro e w' ⟨rfl,hb⟩;obtain⟨hc,hf,hs⟩:=az hb;(try have hz0:=zA hb w.heap.size);(try have hz1:=zA hb (w.heap.size+1))))
     go_ret
     exact⟨aD (ab hq).symm,(bC)⟩
    ·by_cases c7:mark<en+l
     ·by_cases tp:0<td
      ·cases fz:(fn==0)
       ·have hq:Hid (aY l mark ky st en an asu ale amo fn fsu fle fmo td true=false):=ae (by simp[aY,c0,c1,c2,c3,c4,c5,c6,c7,ov,tp,fz])
        go_enter Tryz.func38,Tryz.ntmps38
        go_wp2_with (first
         |(go_at_call 26;refine(aI _ _ _ _).mono ?_;rintro e' w' ⟨rfl,rfl⟩)
         |(go_at_call 67;refine(bc _ _ _).mono ?_;rintro e w' ⟨rfl,hb⟩;obtain⟨hc,hf,hs⟩:=az hb;(try have hz0:=zA hb w.heap.size);(try have hz1:=zA hb (w.heap.size+1)))
         |(go_at_call 68;refine(bd _ _ _ _ _).mono ?_;rintro e w' ⟨rfl,hb⟩;obtain⟨hc,hf,hs⟩:=az hb;(try have hz0:=zA hb w.heap.size);(try have hz1:=zA hb (w.heap.size+1))))
        go_ret
        exact⟨aD (ab hq).symm,(bC)⟩
       ·have hq:Hid (aY l mark ky st en an asu ale amo fn fsu fle fmo td true=true):=ae (by simp[aY,c0,c1,c2,c3,c4,c5,c6,c7,ov,tp,fz])
        go_enter Tryz.func38,Tryz.ntmps38
        go_wp2_with (first
         |(go_at_call 26;refine(aI _ _ _ _).mono ?_;rintro e' w' ⟨rfl,rfl⟩)
         |(go_at_call 67;refine(bc _ _ _).mono ?_;rintro e w' ⟨rfl,hb⟩;obtain⟨hc,hf,hs⟩:=az hb;(try have hz0:=zA hb w.heap.size);(try have hz1:=zA hb (w.heap.size+1)))
         |(go_at_call 68;refine(bd _ _ _ _ _).mono ?_;rintro e w' ⟨rfl,hb⟩;obtain⟨hc,hf,hs⟩:=az hb;(try have hz0:=zA hb w.heap.size);(try have hz1:=zA hb (w.heap.size+1))))
        go_ret
        exact⟨aD (by first|exact(ab hq).symm|(rw[ab hq];simp[ov,tp])),(bC)⟩
      ·have hq:Hid (aY l mark ky st en an asu ale amo fn fsu fle fmo td true=false):=ae (by simp[aY,c0,c1,c2,c3,c4,c5,c6,c7,ov,tp])
       go_enter Tryz.func38,Tryz.ntmps38
       go_wp2_with (first
        |(go_at_call 26;refine(aI _ _ _ _).mono ?_;rintro e' w' ⟨rfl,rfl⟩)
        |(go_at_call 67;refine(bc _ _ _).mono ?_;rintro e w' ⟨rfl,hb⟩;obtain⟨hc,hf,hs⟩:=az hb;(try have hz0:=zA hb w.heap.size);(try have hz1:=zA hb (w.heap.size+1)))
        |(go_at_call 68;refine(bd _ _ _ _ _).mono ?_;rintro e w' ⟨rfl,hb⟩;obtain⟨hc,hf,hs⟩:=az hb;(try have hz0:=zA hb w.heap.size);(try have hz1:=zA hb (w.heap.size+1))))
       go_ret
       exact⟨aD (ab hq).symm,(bC)⟩
     ·have hq:Hid (aY l mark ky st en an asu ale amo fn fsu fle fmo td true=false):=ae (by simp[aY,c0,c1,c2,c3,c4,c5,c6,ov,c7])
      go_enter Tryz.func38,Tryz.ntmps38
      go_wp2_with (first
       |(go_at_call 26;refine(aI _ _ _ _).mono ?_;rintro e' w' ⟨rfl,rfl⟩)
       |(go_at_call 67;refine(bc _ _ _).mono ?_;rintro e w' ⟨rfl,hb⟩;obtain⟨hc,hf,hs⟩:=az hb;(try have hz0:=zA hb w.heap.size);(try have hz1:=zA hb (w.heap.size+1)))
       |(go_at_call 68;refine(bd _ _ _ _ _).mono ?_;rintro e w' ⟨rfl,hb⟩;obtain⟨hc,hf,hs⟩:=az hb;(try have hz0:=zA hb w.heap.size);(try have hz1:=zA hb (w.heap.size+1))))
      go_ret
      exact⟨aD (ab hq).symm,(bC)⟩
   ·cases tm
    ·by_cases c7:mark<en+l
     ·by_cases tp:0<td
      ·have hq:Hid (aY l mark ky st en an asu ale amo fn fsu fle fmo td false=false):=ae (by simp[aY,c0,c1,c2,c3,c4,c5,c6,c7,ov,tp])
       go_enter Tryz.func38,Tryz.ntmps38
       go_wp2_with (first
        |(go_at_call 26;refine(aI _ _ _ _).mono ?_;rintro e' w' ⟨rfl,rfl⟩)
        |(go_at_call 67;refine(bc _ _ _).mono ?_;rintro e w' ⟨rfl,hb⟩;obtain⟨hc,hf,hs⟩:=az hb;(try have hz0:=zA hb w.heap.size);(try have hz1:=zA hb (w.heap.size+1)))
        |(go_at_call 68;refine(bd _ _ _ _ _).mono ?_;rintro e w' ⟨rfl,hb⟩;obtain⟨hc,hf,hs⟩:=az hb;(try have hz0:=zA hb w.heap.size);(try have hz1:=zA hb (w.heap.size+1))))
       go_ret
       exact⟨aD (ab hq).symm,(bC)⟩
      ·cases fz:(fn==0)
       ·have hq:Hid (aY l mark ky st en an asu ale amo fn fsu fle fmo td false=true):=ae (by simp[aY,c0,c1,c2,c3,c4,c5,c6,c7,ov,tp,fz])
        go_enter Tryz.func38,Tryz.ntmps38
        go_wp2_with (first
         |(go_at_call 26;refine(aI _ _ _ _).mono ?_;rintro e' w' ⟨rfl,rfl⟩)
         |(go_at_call 67;refine(bc _ _ _).mono ?_;rintro e w' ⟨rfl,hb⟩;obtain⟨hc,hf,hs⟩:=az hb;(try have hz0:=zA hb w.heap.size);(try have hz1:=zA hb (w.heap.size+1)))
         |(go_at_call 68;refine(bd _ _ _ _ _).mono ?_;rintro e w' ⟨rfl,hb⟩;obtain⟨hc,hf,hs⟩:=az hb;(try have hz0:=zA hb w.heap.size);(try have hz1:=zA hb (w.heap.size+1))))
        go_ret
        exact⟨aD (by first|exact(ab hq).symm|(rw[ab hq];simp[ov,tp])),(bC)⟩
       ·have hq:Hid (aY l mark ky st en an asu ale amo fn fsu fle fmo td false=false):=ae (by simp[aY,c0,c1,c2,c3,c4,c5,c6,c7,ov,tp,fz])
        go_enter Tryz.func38,Tryz.ntmps38
        go_wp2_with (first
         |(go_at_call 26;refine(aI _ _ _ _).mono ?_;rintro e' w' ⟨rfl,rfl⟩)
         |(go_at_call 67;refine(bc _ _ _).mono ?_;rintro e w' ⟨rfl,hb⟩;obtain⟨hc,hf,hs⟩:=az hb;(try have hz0:=zA hb w.heap.size);(try have hz1:=zA hb (w.heap.size+1)))
         |(go_at_call 68;refine(bd _ _ _ _ _).mono ?_;rintro e w' ⟨rfl,hb⟩;obtain⟨hc,hf,hs⟩:=az hb;(try have hz0:=zA hb w.heap.size);(try have hz1:=zA hb (w.heap.size+1))))
        go_ret
        exact⟨aD (ab hq).symm,(bC)⟩
     ·exfalso;omega
    ·have hq:Hid (aY l mark ky st en an asu ale amo fn fsu fle fmo td true=false):=ae (by simp[aY,c0,c1,c2,c3,c4,c5,c6,ov])
     go_enter Tryz.func38,Tryz.ntmps38
     go_wp2_with (first
      |(go_at_call 26;refine(aI _ _ _ _).mono ?_;rintro e' w' ⟨rfl,rfl⟩)
      |(go_at_call 67;refine(bc _ _ _).mono ?_;rintro e w' ⟨rfl,hb⟩;obtain⟨hc,hf,hs⟩:=az hb;(try have hz0:=zA hb w.heap.size);(try have hz1:=zA hb (w.heap.size+1)))
      |(go_at_call 68;refine(bd _ _ _ _ _).mono ?_;rintro e w' ⟨rfl,hb⟩;obtain⟨hc,hf,hs⟩:=az hb;(try have hz0:=zA hb w.heap.size);(try have hz1:=zA hb (w.heap.size+1))))
     go_ret
     exact⟨aD (ab hq).symm,(bC)⟩
  ·have hq:Hid (aY l mark ky st en an asu ale amo fn fsu fle fmo td tm=false):=ae (by simp[aY,c0,c1,c2,c3,c4,c5])
   go_enter Tryz.func38,Tryz.ntmps38
   go_wp2_with (first
    |(go_at_call 26;refine(aI _ _ _ _).mono ?_;rintro e' w' ⟨rfl,rfl⟩)
    |(go_at_call 67;refine(bc _ _ _).mono ?_;rintro e w' ⟨rfl,hb⟩;obtain⟨hc,hf,hs⟩:=az hb;(try have hz0:=zA hb w.heap.size);(try have hz1:=zA hb (w.heap.size+1)))
    |(go_at_call 68;refine(bd _ _ _ _ _).mono ?_;rintro e w' ⟨rfl,hb⟩;obtain⟨hc,hf,hs⟩:=az hb;(try have hz0:=zA hb w.heap.size);(try have hz1:=zA hb (w.heap.size+1))))
   go_ret
   exact⟨aD (ab hq).symm,(bC)⟩
 ·have hq:Hid (aY l mark ky st en an asu ale amo fn fsu fle fmo td tm=false):=ae (by simp[aY,c0,c1,c2,c3])
  go_enter Tryz.func38,Tryz.ntmps38
  go_wp2_with (first
   |(go_at_call 26;refine(aI _ _ _ _).mono ?_;rintro e' w' ⟨rfl,rfl⟩)
   |(go_at_call 67;refine(bc _ _ _).mono ?_;rintro e w' ⟨rfl,hb⟩;obtain⟨hc,hf,hs⟩:=az hb;(try have hz0:=zA hb w.heap.size);(try have hz1:=zA hb (w.heap.size+1)))
   |(go_at_call 68;refine(bd _ _ _ _ _).mono ?_;rintro e w' ⟨rfl,hb⟩;obtain⟨hc,hf,hs⟩:=az hb;(try have hz0:=zA hb w.heap.size);(try have hz1:=zA hb (w.heap.size+1))))
  go_ret
  exact⟨aD (ab hq).symm,(bC)⟩
theorem cq{l mark:Int}(ky st en an asu ale amo fn fsu fle fmo td:Int)(tm:Bool):aY l mark ky st en an asu ale amo fn fsu fle fmo td tm=(eq ky st en&&eA an asu ale amo&&eA fn fsu fle fmo&&bH td 0 1500&& !(an==0)&&decide (fn≤an)&&decide (mark<en+l)&&(tm==decide (en≤mark))&&(decide (0<td)==decide (en≤mark))&&((fn==0)==decide (en≤mark))):=rfl
set_option maxRecDepth 20000 in
set_option maxHeartbeats 4000000 in
theorem fj(ky st en an asu ale amo fn fsu fle fmo td:Int)(tm:Bool)(mark l:Int)(hl:0≤l∧l≤20)(w:World):Calls Tryz.prog 42 #[.agg #[.int .i64 ky,.int .i64 st,.int .i64 en,.int .i64 an,.int .i64 asu,.int .i64 ale,.int .i64 amo,.int .i64 fn,.int .i64 fsu,.int .i64 fle,.int .i64 fmo,.int .i64 td,.bool tm],.int .i64 mark,.int .i64 l] w fun e' w'=>e'= .returned (.bool (aY l mark ky st en an asu ale amo fn fsu fle fmo td tm))∧Below w.heap.size w w':=by
 cases c0:eq ky st en
 ·have hq:Hid (aY l mark ky st en an asu ale amo fn fsu fle fmo td tm=false):=ae (by simp[cq,c0])
  go_enter Tryz.func42,Tryz.ntmps42
  go_wp2_with (first
   |(go_at_call 58;refine(aT _ _ _ _ _ _ _ _ _ _ _ _ _ _).mono ?_;rintro e w' ⟨rfl,hb⟩;obtain⟨hc,hf,hs⟩:=az hb;(try have hz0:=zA hb w.heap.size);(try have hz1:=zA hb (w.heap.size+1)))
   |(go_at_call 46;refine(bu _ _ _ _).mono ?_;rintro e w' ⟨rfl,hb⟩;obtain⟨hc,hf,hs⟩:=az hb;(try have hz0:=zA hb w.heap.size);(try have hz1:=zA hb (w.heap.size+1)))
   |(go_at_call 34;refine(aA _ _ _ _).mono ?_;rintro e' w' ⟨rfl,rfl⟩)
   |(go_at_call 47;refine(bV _ _ _ _ _).mono ?_;rintro e w' ⟨rfl,hb⟩;obtain⟨hc,hf,hs⟩:=az hb;(try have hz0:=zA hb w.heap.size);(try have hz1:=zA hb (w.heap.size+1))))
  go_ret
  exact⟨aD (ab hq).symm,(bC)⟩
 have c1:dN st en=true:=by simp only[eq,Bool.and_eq_true]at c0;exact c0.2
 have cc0:bH ky 0 3=true:=by simp only[eq,Bool.and_eq_true]at c0;exact c0.1
 have hen:=ji c1
 cases c2:eA an asu ale amo
 ·have hq:Hid (aY l mark ky st en an asu ale amo fn fsu fle fmo td tm=false):=ae (by simp[cq,c0,c2])
  go_enter Tryz.func42,Tryz.ntmps42
  go_wp2_with (first
   |(go_at_call 58;refine(aT _ _ _ _ _ _ _ _ _ _ _ _ _ _).mono ?_;rintro e w' ⟨rfl,hb⟩;obtain⟨hc,hf,hs⟩:=az hb;(try have hz0:=zA hb w.heap.size);(try have hz1:=zA hb (w.heap.size+1)))
   |(go_at_call 46;refine(bu _ _ _ _).mono ?_;rintro e w' ⟨rfl,hb⟩;obtain⟨hc,hf,hs⟩:=az hb;(try have hz0:=zA hb w.heap.size);(try have hz1:=zA hb (w.heap.size+1)))
   |(go_at_call 34;refine(aA _ _ _ _).mono ?_;rintro e' w' ⟨rfl,rfl⟩)
   |(go_at_call 47;refine(bV _ _ _ _ _).mono ?_;rintro e w' ⟨rfl,hb⟩;obtain⟨hc,hf,hs⟩:=az hb;(try have hz0:=zA hb w.heap.size);(try have hz1:=zA hb (w.heap.size+1))))
  go_ret
  exact⟨aD (ab hq).symm,(bC)⟩
 cases c4:eA fn fsu fle fmo
 ·have hq:Hid (aY l mark ky st en an asu ale amo fn fsu fle fmo td tm=false):=ae (by simp[cq,c0,c2,c4])
  go_enter Tryz.func42,Tryz.ntmps42
  go_wp2_with (first
   |(go_at_call 58;refine(aT _ _ _ _ _ _ _ _ _ _ _ _ _ _).mono ?_;rintro e w' ⟨rfl,hb⟩;obtain⟨hc,hf,hs⟩:=az hb;(try have hz0:=zA hb w.heap.size);(try have hz1:=zA hb (w.heap.size+1)))
   |(go_at_call 46;refine(bu _ _ _ _).mono ?_;rintro e w' ⟨rfl,hb⟩;obtain⟨hc,hf,hs⟩:=az hb;(try have hz0:=zA hb w.heap.size);(try have hz1:=zA hb (w.heap.size+1)))
   |(go_at_call 34;refine(aA _ _ _ _).mono ?_;rintro e' w' ⟨rfl,rfl⟩)
   |(go_at_call 47;refine(bV _ _ _ _ _).mono ?_;rintro e w' ⟨rfl,hb⟩;obtain⟨hc,hf,hs⟩:=az hb;(try have hz0:=zA hb w.heap.size);(try have hz1:=zA hb (w.heap.size+1))))
  go_ret
  exact⟨aD (ab hq).symm,(bC)⟩
 cases c6:bH td 0 1500
 ·have hq:Hid (aY l mark ky st en an asu ale amo fn fsu fle fmo td tm=false):=ae (by simp[cq,c0,c2,c4,c6])
  go_enter Tryz.func42,Tryz.ntmps42
  go_wp2_with (first
   |(go_at_call 58;refine(aT _ _ _ _ _ _ _ _ _ _ _ _ _ _).mono ?_;rintro e w' ⟨rfl,hb⟩;obtain⟨hc,hf,hs⟩:=az hb;(try have hz0:=zA hb w.heap.size);(try have hz1:=zA hb (w.heap.size+1)))
   |(go_at_call 46;refine(bu _ _ _ _).mono ?_;rintro e w' ⟨rfl,hb⟩;obtain⟨hc,hf,hs⟩:=az hb;(try have hz0:=zA hb w.heap.size);(try have hz1:=zA hb (w.heap.size+1)))
   |(go_at_call 34;refine(aA _ _ _ _).mono ?_;rintro e' w' ⟨rfl,rfl⟩)
   |(go_at_call 47;refine(bV _ _ _ _ _).mono ?_;rintro e w' ⟨rfl,hb⟩;obtain⟨hc,hf,hs⟩:=az hb;(try have hz0:=zA hb w.heap.size);(try have hz1:=zA hb (w.heap.size+1))))
  go_ret
  exact⟨aD (ab hq).symm,(bC)⟩
 cases c3:(an==0)
 ·by_cases c5:fn≤an
  ·by_cases c7:mark<en+l
   ·by_cases ov:en≤mark
    ·cases tm
     ·have hq:Hid (aY l mark ky st en an asu ale amo fn fsu fle fmo td false=false):=ae (by simp[cq,c0,c2,c4,c6,c3,c5,c7,ov])
      go_enter Tryz.func42,Tryz.ntmps42
      go_wp2_with (first
       |(go_at_call 58;refine(aT _ _ _ _ _ _ _ _ _ _ _ _ _ _).mono ?_;rintro e w' ⟨rfl,hb⟩;obtain⟨hc,hf,hs⟩:=az hb;(try have hz0:=zA hb w.heap.size);(try have hz1:=zA hb (w.heap.size+1)))
       |(go_at_call 46;refine(bu _ _ _ _).mono ?_;rintro e w' ⟨rfl,hb⟩;obtain⟨hc,hf,hs⟩:=az hb;(try have hz0:=zA hb w.heap.size);(try have hz1:=zA hb (w.heap.size+1)))
       |(go_at_call 34;refine(aA _ _ _ _).mono ?_;rintro e' w' ⟨rfl,rfl⟩)
       |(go_at_call 47;refine(bV _ _ _ _ _).mono ?_;rintro e w' ⟨rfl,hb⟩;obtain⟨hc,hf,hs⟩:=az hb;(try have hz0:=zA hb w.heap.size);(try have hz1:=zA hb (w.heap.size+1))))
      go_ret
      exact⟨aD (ab hq).symm,(bC)⟩
     ·by_cases tp:0<td
      ·cases fz:(fn==0)
       ·have hq:Hid (aY l mark ky st en an asu ale amo fn fsu fle fmo td true=false):=ae (by simp[cq,c0,c2,c4,c6,c3,c5,c7,ov,tp,fz])
        go_enter Tryz.func42,Tryz.ntmps42
        go_wp2_with (first
         |(go_at_call 58;refine(aT _ _ _ _ _ _ _ _ _ _ _ _ _ _).mono ?_;rintro e w' ⟨rfl,hb⟩;obtain⟨hc,hf,hs⟩:=az hb;(try have hz0:=zA hb w.heap.size);(try have hz1:=zA hb (w.heap.size+1)))
         |(go_at_call 46;refine(bu _ _ _ _).mono ?_;rintro e w' ⟨rfl,hb⟩;obtain⟨hc,hf,hs⟩:=az hb;(try have hz0:=zA hb w.heap.size);(try have hz1:=zA hb (w.heap.size+1)))
         |(go_at_call 34;refine(aA _ _ _ _).mono ?_;rintro e' w' ⟨rfl,rfl⟩)
         |(go_at_call 47;refine(bV _ _ _ _ _).mono ?_;rintro e w' ⟨rfl,hb⟩;obtain⟨hc,hf,hs⟩:=az hb;(try have hz0:=zA hb w.heap.size);(try have hz1:=zA hb (w.heap.size+1))))
        go_ret
        exact⟨aD (ab hq).symm,(bC)⟩
       ·have hq:Hid (aY l mark ky st en an asu ale amo fn fsu fle fmo td true=true):=ae (by simp[cq,c0,c2,c4,c6,c3,c5,c7,ov,tp,fz])
        go_enter Tryz.func42,Tryz.ntmps42
        go_wp2_with (first
         |(go_at_call 58;refine(aT _ _ _ _ _ _ _ _ _ _ _ _ _ _).mono ?_;rintro e w' ⟨rfl,hb⟩;obtain⟨hc,hf,hs⟩:=az hb;(try have hz0:=zA hb w.heap.size);(try have hz1:=zA hb (w.heap.size+1)))
         |(go_at_call 46;refine(bu _ _ _ _).mono ?_;rintro e w' ⟨rfl,hb⟩;obtain⟨hc,hf,hs⟩:=az hb;(try have hz0:=zA hb w.heap.size);(try have hz1:=zA hb (w.heap.size+1)))
         |(go_at_call 34;refine(aA _ _ _ _).mono ?_;rintro e' w' ⟨rfl,rfl⟩)
         |(go_at_call 47;refine(bV _ _ _ _ _).mono ?_;rintro e w' ⟨rfl,hb⟩;obtain⟨hc,hf,hs⟩:=az hb;(try have hz0:=zA hb w.heap.size);(try have hz1:=zA hb (w.heap.size+1))))
        go_ret
        exact⟨aD (by first|exact(ab hq).symm|(rw[ab hq];simp[ov])),(bC)⟩
      ·have hq:Hid (aY l mark ky st en an asu ale amo fn fsu fle fmo td true=false):=ae (by simp[cq,c0,c2,c4,c6,c3,c5,c7,ov,tp])
       go_enter Tryz.func42,Tryz.ntmps42
       go_wp2_with (first
        |(go_at_call 58;refine(aT _ _ _ _ _ _ _ _ _ _ _ _ _ _).mono ?_;rintro e w' ⟨rfl,hb⟩;obtain⟨hc,hf,hs⟩:=az hb;(try have hz0:=zA hb w.heap.size);(try have hz1:=zA hb (w.heap.size+1)))
        |(go_at_call 46;refine(bu _ _ _ _).mono ?_;rintro e w' ⟨rfl,hb⟩;obtain⟨hc,hf,hs⟩:=az hb;(try have hz0:=zA hb w.heap.size);(try have hz1:=zA hb (w.heap.size+1)))
        |(go_at_call 34;refine(aA _ _ _ _).mono ?_;rintro e' w' ⟨rfl,rfl⟩)
        |(go_at_call 47;refine(bV _ _ _ _ _).mono ?_;rintro e w' ⟨rfl,hb⟩;obtain⟨hc,hf,hs⟩:=az hb;(try have hz0:=zA hb w.heap.size);(try have hz1:=zA hb (w.heap.size+1))))
       go_ret
       exact⟨aD (ab hq).symm,(bC)⟩
    ·cases tm
     ·by_cases tp:0<td
      ·have hq:Hid (aY l mark ky st en an asu ale amo fn fsu fle fmo td false=false):=ae (by simp[cq,c0,c2,c4,c6,c3,c5,c7,ov,tp])
       go_enter Tryz.func42,Tryz.ntmps42
       go_wp2_with (first
        |(go_at_call 58;refine(aT _ _ _ _ _ _ _ _ _ _ _ _ _ _).mono ?_;rintro e w' ⟨rfl,hb⟩;obtain⟨hc,hf,hs⟩:=az hb;(try have hz0:=zA hb w.heap.size);(try have hz1:=zA hb (w.heap.size+1)))
        |(go_at_call 46;refine(bu _ _ _ _).mono ?_;rintro e w' ⟨rfl,hb⟩;obtain⟨hc,hf,hs⟩:=az hb;(try have hz0:=zA hb w.heap.size);(try have hz1:=zA hb (w.heap.size+1)))
        |(go_at_call 34;refine(aA _ _ _ _).mono ?_;rintro e' w' ⟨rfl,rfl⟩)
        |(go_at_call 47;refine(bV _ _ _ _ _).mono ?_;rintro e w' ⟨rfl,hb⟩;obtain⟨hc,hf,hs⟩:=az hb;(try have hz0:=zA hb w.heap.size);(try have hz1:=zA hb (w.heap.size+1))))
       go_ret
       exact⟨aD (ab hq).symm,(bC)⟩
      ·cases fz:(fn==0)
       ·have hq:Hid (aY l mark ky st en an asu ale amo fn fsu fle fmo td false=true):=ae (by simp[cq,c0,c2,c4,c6,c3,c5,c7,ov,tp,fz])
        go_enter Tryz.func42,Tryz.ntmps42
        go_wp2_with (first
         |(go_at_call 58;refine(aT _ _ _ _ _ _ _ _ _ _ _ _ _ _).mono ?_;rintro e w' ⟨rfl,hb⟩;obtain⟨hc,hf,hs⟩:=az hb;(try have hz0:=zA hb w.heap.size);(try have hz1:=zA hb (w.heap.size+1)))
         |(go_at_call 46;refine(bu _ _ _ _).mono ?_;rintro e w' ⟨rfl,hb⟩;obtain⟨hc,hf,hs⟩:=az hb;(try have hz0:=zA hb w.heap.size);(try have hz1:=zA hb (w.heap.size+1)))
         |(go_at_call 34;refine(aA _ _ _ _).mono ?_;rintro e' w' ⟨rfl,rfl⟩)
         |(go_at_call 47;refine(bV _ _ _ _ _).mono ?_;rintro e w' ⟨rfl,hb⟩;obtain⟨hc,hf,hs⟩:=az hb;(try have hz0:=zA hb w.heap.size);(try have hz1:=zA hb (w.heap.size+1))))
        go_ret
        exact⟨aD (by first|exact(ab hq).symm|(rw[ab hq];simp[ov])),(bC)⟩
       ·have hq:Hid (aY l mark ky st en an asu ale amo fn fsu fle fmo td false=false):=ae (by simp[cq,c0,c2,c4,c6,c3,c5,c7,ov,tp,fz])
        go_enter Tryz.func42,Tryz.ntmps42
        go_wp2_with (first
         |(go_at_call 58;refine(aT _ _ _ _ _ _ _ _ _ _ _ _ _ _).mono ?_;rintro e w' ⟨rfl,hb⟩;obtain⟨hc,hf,hs⟩:=az hb;(try have hz0:=zA hb w.heap.size);(try have hz1:=zA hb (w.heap.size+1)))
         |(go_at_call 46;refine(bu _ _ _ _).mono ?_;rintro e w' ⟨rfl,hb⟩;obtain⟨hc,hf,hs⟩:=az hb;(try have hz0:=zA hb w.heap.size);(try have hz1:=zA hb (w.heap.size+1)))
         |(go_at_call 34;refine(aA _ _ _ _).mono ?_;rintro e' w' ⟨rfl,rfl⟩)
         |(go_at_call 47;refine(bV _ _ _ _ _).mono ?_;rintro e w' ⟨rfl,hb⟩;obtain⟨hc,hf,hs⟩:=az hb;(try have hz0:=zA hb w.heap.size);(try have hz1:=zA hb (w.heap.size+1))))
        go_ret
        exact⟨aD (ab hq).symm,(bC)⟩
     ·have hq:Hid (aY l mark ky st en an asu ale amo fn fsu fle fmo td true=false):=ae (by simp[cq,c0,c2,c4,c6,c3,c5,c7,ov])
      go_enter Tryz.func42,Tryz.ntmps42
      go_wp2_with (first
       |(go_at_call 58;refine(aT _ _ _ _ _ _ _ _ _ _ _ _ _ _).mono ?_;rintro e w' ⟨rfl,hb⟩;obtain⟨hc,hf,hs⟩:=az hb;(try have hz0:=zA hb w.heap.size);(try have hz1:=zA hb (w.heap.size+1)))
       |(go_at_call 46;refine(bu _ _ _ _).mono ?_;rintro e w' ⟨rfl,hb⟩;obtain⟨hc,hf,hs⟩:=az hb;(try have hz0:=zA hb w.heap.size);(try have hz1:=zA hb (w.heap.size+1)))
       |(go_at_call 34;refine(aA _ _ _ _).mono ?_;rintro e' w' ⟨rfl,rfl⟩)
       |(go_at_call 47;refine(bV _ _ _ _ _).mono ?_;rintro e w' ⟨rfl,hb⟩;obtain⟨hc,hf,hs⟩:=az hb;(try have hz0:=zA hb w.heap.size);(try have hz1:=zA hb (w.heap.size+1))))
      go_ret
      exact⟨aD (ab hq).symm,(bC)⟩
   ·have hq:Hid (aY l mark ky st en an asu ale amo fn fsu fle fmo td tm=false):=ae (by simp[cq,c0,c2,c4,c6,c3,c5,c7])
    go_enter Tryz.func42,Tryz.ntmps42
    go_wp2_with (first
     |(go_at_call 58;refine(aT _ _ _ _ _ _ _ _ _ _ _ _ _ _).mono ?_;rintro e w' ⟨rfl,hb⟩;obtain⟨hc,hf,hs⟩:=az hb;(try have hz0:=zA hb w.heap.size);(try have hz1:=zA hb (w.heap.size+1)))
     |(go_at_call 46;refine(bu _ _ _ _).mono ?_;rintro e w' ⟨rfl,hb⟩;obtain⟨hc,hf,hs⟩:=az hb;(try have hz0:=zA hb w.heap.size);(try have hz1:=zA hb (w.heap.size+1)))
     |(go_at_call 34;refine(aA _ _ _ _).mono ?_;rintro e' w' ⟨rfl,rfl⟩)
     |(go_at_call 47;refine(bV _ _ _ _ _).mono ?_;rintro e w' ⟨rfl,hb⟩;obtain⟨hc,hf,hs⟩:=az hb;(try have hz0:=zA hb w.heap.size);(try have hz1:=zA hb (w.heap.size+1))))
    go_ret
    exact⟨aD (ab hq).symm,(bC)⟩
  ·have hq:Hid (aY l mark ky st en an asu ale amo fn fsu fle fmo td tm=false):=ae (by simp[cq,c0,c2,c4,c6,c3,c5])
   go_enter Tryz.func42,Tryz.ntmps42
   go_wp2_with (first
    |(go_at_call 58;refine(aT _ _ _ _ _ _ _ _ _ _ _ _ _ _).mono ?_;rintro e w' ⟨rfl,hb⟩;obtain⟨hc,hf,hs⟩:=az hb;(try have hz0:=zA hb w.heap.size);(try have hz1:=zA hb (w.heap.size+1)))
    |(go_at_call 46;refine(bu _ _ _ _).mono ?_;rintro e w' ⟨rfl,hb⟩;obtain⟨hc,hf,hs⟩:=az hb;(try have hz0:=zA hb w.heap.size);(try have hz1:=zA hb (w.heap.size+1)))
    |(go_at_call 34;refine(aA _ _ _ _).mono ?_;rintro e' w' ⟨rfl,rfl⟩)
    |(go_at_call 47;refine(bV _ _ _ _ _).mono ?_;rintro e w' ⟨rfl,hb⟩;obtain⟨hc,hf,hs⟩:=az hb;(try have hz0:=zA hb w.heap.size);(try have hz1:=zA hb (w.heap.size+1))))
   go_ret
   exact⟨aD (ab hq).symm,(bC)⟩
 ·have hq:Hid (aY l mark ky st en an asu ale amo fn fsu fle fmo td tm=false):=ae (by simp[cq,c0,c2,c4,c6,c3])
  go_enter Tryz.func42,Tryz.ntmps42
  go_wp2_with (first
   |(go_at_call 58;refine(aT _ _ _ _ _ _ _ _ _ _ _ _ _ _).mono ?_;rintro e w' ⟨rfl,hb⟩;obtain⟨hc,hf,hs⟩:=az hb;(try have hz0:=zA hb w.heap.size);(try have hz1:=zA hb (w.heap.size+1)))
   |(go_at_call 46;refine(bu _ _ _ _).mono ?_;rintro e w' ⟨rfl,hb⟩;obtain⟨hc,hf,hs⟩:=az hb;(try have hz0:=zA hb w.heap.size);(try have hz1:=zA hb (w.heap.size+1)))
   |(go_at_call 34;refine(aA _ _ _ _).mono ?_;rintro e' w' ⟨rfl,rfl⟩)
   |(go_at_call 47;refine(bV _ _ _ _ _).mono ?_;rintro e w' ⟨rfl,hb⟩;obtain⟨hc,hf,hs⟩:=az hb;(try have hz0:=zA hb w.heap.size);(try have hz1:=zA hb (w.heap.size+1))))
  go_ret
  exact⟨aD (ab hq).symm,(bC)⟩
/-- Whether two windows touch. -/
def bg(a b c d:Int):Bool:=decide (a<d)&&decide (c<b)
theorem cd(a b c d:Int)(w:World):Calls Tryz.prog 71 #[.agg #[.int .i64 a,.int .i64 b],.agg #[.int .i64 c,.int .i64 d]] w fun e w'=>e= .returned (.bool (bg a b c d))∧Below w.heap.size w w':=by
 by_cases h1:a<d
 ·by_cases h2:c<b
  ·have h3:Hid (bg a b c d=true):=ae (by simp only[bg];simp[h1,h2])
   go_enter Tryz.func71,Tryz.ntmps71
   go_wp2
   go_ret
   exact⟨aD (ab h3).symm,ag (aq _ _) _⟩
  ·have h3:Hid (bg a b c d=false):=ae (by simp only[bg];simp[h1,h2])
   go_enter Tryz.func71,Tryz.ntmps71
   go_wp2
   go_ret
   exact⟨aD (ab h3).symm,ag (aq _ _) _⟩
 ·have h3:Hid (bg a b c d=false):=ae (by simp only[bg];simp[h1])
  go_enter Tryz.func71,Tryz.ntmps71
  go_wp2
  go_ret
  exact⟨aD (ab h3).symm,ag (aq _ _) _⟩
theorem dA(a b c d:Int)(w:World):Calls Tryz.prog 40 #[.agg #[.int .i64 a,.int .i64 b],.agg #[.int .i64 c,.int .i64 d]] w fun e w'=>e= .returned (.bool (bg a b c d))∧Below w.heap.size w w':=by
 by_cases h1:a<d
 ·by_cases h2:c<b
  ·have h3:Hid (bg a b c d=true):=ae (by simp only[bg];simp[h1,h2])
   go_enter Tryz.func40,Tryz.ntmps40
   go_wp2
   go_ret
   exact⟨aD (ab h3).symm,ag (aq _ _) _⟩
  ·have h3:Hid (bg a b c d=false):=ae (by simp only[bg];simp[h1,h2])
   go_enter Tryz.func40,Tryz.ntmps40
   go_wp2
   go_ret
   exact⟨aD (ab h3).symm,ag (aq _ _) _⟩
 ·have h3:Hid (bg a b c d=false):=ae (by simp only[bg];simp[h1])
  go_enter Tryz.func40,Tryz.ntmps40
  go_wp2
  go_ret
  exact⟨aD (ab h3).symm,ag (aq _ _) _⟩
theorem ec{a b c d:Int}(h:a=c)(k:b=d):Ending.returned (.agg #[.int .i64 a,.int .i64 b])= .returned (.agg #[.int .i64 c,.int .i64 d]):=by rw[h,k]
theorem span_any(a b c d:Int)(w:World):Calls Tryz.prog 79 #[.agg #[.int .i64 a,.int .i64 b],.agg #[.int .i64 c,.int .i64 d]] w fun e w'=>e= .returned (.agg #[.int .i64 (ft a c),.int .i64 (fp b d)])∧Below w.heap.size w w':=by
 by_cases h1:c<a<;>by_cases h2:b<d
 ·have h3:=ae (iH h1)
  have h4:=ae (iK h2)
  go_enter Tryz.func79,Tryz.ntmps79
  go_wp2
  refine bodyPost_ret (v:= .agg #[.int .i64 c,.int .i64 d]) (nC) rfl ⟨ec (ab h3).symm (ab h4).symm,?_⟩
  exact(aW)
 ·have h3:=ae (iH h1)
  have h4:=ae (iI h2)
  go_enter Tryz.func79,Tryz.ntmps79
  go_wp2
  refine bodyPost_ret (v:= .agg #[.int .i64 c,.int .i64 b]) (nC) rfl ⟨ec (ab h3).symm (ab h4).symm,?_⟩
  exact(aW)
 ·have h3:=ae (iG h1)
  have h4:=ae (iK h2)
  go_enter Tryz.func79,Tryz.ntmps79
  go_wp2
  refine bodyPost_ret (v:= .agg #[.int .i64 a,.int .i64 d]) (nC) rfl ⟨ec (ab h3).symm (ab h4).symm,?_⟩
  exact(aW)
 ·have h3:=ae (iG h1)
  have h4:=ae (iI h2)
  go_enter Tryz.func79,Tryz.ntmps79
  go_wp2
  refine bodyPost_ret (v:= .agg #[.int .i64 a,.int .i64 b]) (nC) rfl ⟨ec (ab h3).symm (ab h4).symm,?_⟩
  exact(aW)
theorem kX(a b c d:Int)(w:World):Calls Tryz.prog 87 #[.agg #[.int .i64 a,.int .i64 b],.agg #[.int .i64 c,.int .i64 d]] w fun e w'=>e= .returned (.agg #[.int .i64 (ft a c),.int .i64 (fp b d)])∧Below w.heap.size w w':=by
 by_cases h1:c<a<;>by_cases h2:b<d
 ·have h3:=ae (iH h1)
  have h4:=ae (iK h2)
  go_enter Tryz.func87,Tryz.ntmps87
  go_wp2
  refine bodyPost_ret (v:= .agg #[.int .i64 c,.int .i64 d]) (nD) rfl ⟨ec (ab h3).symm (ab h4).symm,?_⟩
  exact(aW)
 ·have h3:=ae (iH h1)
  have h4:=ae (iI h2)
  go_enter Tryz.func87,Tryz.ntmps87
  go_wp2
  refine bodyPost_ret (v:= .agg #[.int .i64 c,.int .i64 b]) (nD) rfl ⟨ec (ab h3).symm (ab h4).symm,?_⟩
  exact(aW)
 ·have h3:=ae (iG h1)
  have h4:=ae (iK h2)
  go_enter Tryz.func87,Tryz.ntmps87
  go_wp2
  refine bodyPost_ret (v:= .agg #[.int .i64 a,.int .i64 d]) (nD) rfl ⟨ec (ab h3).symm (ab h4).symm,?_⟩
  exact(aW)
 ·have h3:=ae (iG h1)
  have h4:=ae (iI h2)
  go_enter Tryz.func87,Tryz.ntmps87
  go_wp2
  refine bodyPost_ret (v:= .agg #[.int .i64 a,.int .i64 b]) (nD) rfl ⟨ec (ab h3).symm (ab h4).symm,?_⟩
  exact(aW)
theorem kY{a b:Bool}(h:b=a):Ending.returned (.bool a)= .returned (.bool b):=by rw[h]
/-- Whether a window of a key is ahead of another one. -/
def cQ(ky st en ky' st' en':Int):Bool:=decide (fB ky st en ky' st' en'<0)
theorem kk{ky st en ky' st' en':Int}(h:¬ ky=ky'):cQ ky st en ky' st' en'=decide (ky<ky'):=by
 unfold cQ fB orI fu
 by_cases h1:ky<ky'
 ·simp[h1]
 ·have h2:ky'<ky:=by omega
  simp[h1,h2]
theorem km{ky st en st' en':Int}(h2:¬ st=st'):cQ ky st en ky st' en'=decide (st<st'):=by
 unfold cQ fB orI fu
 by_cases h1:st<st'
 ·simp[h1]
 ·have h3:st'<st:=by omega
  simp[h1,h3]
theorem ko{ky st en en':Int}:cQ ky st en ky st en'=decide (en<en'):=by
 unfold cQ fB orI fu
 by_cases h1:en<en'
 ·simp[h1]
 ·by_cases h3:en'<en
  ·simp[h1,h3]
  ·simp[h1,h3]
/-- Whether a window is ahead of another one. -/
def lessW(st en st' en':Int):Bool:=if st=st' then decide (en<en')else decide (st<st')
theorem l2less_any(st en st' en':Int)(w:World):Calls Tryz.prog 69 #[.agg #[.int .i64 st,.int .i64 en],.agg #[.int .i64 st',.int .i64 en']] w fun e w'=>e= .returned (.bool (lessW st en st' en'))∧Below w.heap.size w w':=by
 by_cases h:st=st'
 ·have hq:lessW st en st' en'=decide (en<en'):=if_pos h
  have HQ:=ae hq
  have h':(st==st')=true:=by simpa using h
  clear hq
  go_enter Tryz.func69,Tryz.ntmps69
  go_wp2
  go_ret
  exact⟨kY (ab HQ),(el)⟩
 ·have hq:lessW st en st' en'=decide (st<st'):=if_neg h
  have HQ:=ae hq
  have h':(st==st')=false:=by simpa using h
  clear hq
  go_enter Tryz.func69,Tryz.ntmps69
  go_wp2
  go_ret
  exact⟨kY (ab HQ),(el)⟩
theorem ahead_kP{ky st en st' en':Int}:lessW st en st' en'=cQ ky st en ky st' en':=by
 unfold lessW
 by_cases h2:st=st'
 ·subst h2;rw[if_pos rfl,ko]
 ·rw[if_neg h2,km h2]
theorem dO(ky st en ky' st' en':Int)(w:World):Calls Tryz.prog 39 #[.int .i64 ky,.agg #[.int .i64 st,.int .i64 en],.int .i64 ky',.agg #[.int .i64 st',.int .i64 en']] w fun e w'=>e= .returned (.bool (cQ ky st en ky' st' en'))∧Below w.heap.size w w':=by
 by_cases h:ky=ky'
 ·subst h
  have HQ:=ae (ahead_kP (ky:=ky) (st:=st) (en:=en) (st':=st') (en':=en')).symm
  go_enter Tryz.func39,Tryz.ntmps39
  go_wp2_with (go_at_call 69;refine(l2less_any _ _ _ _ _).mono ?_;rintro e w' ⟨rfl,hb⟩)
  go_ret
  exact⟨kY (ab HQ),(el)⟩
 ·have HQ:=ae (kk (st:=st) (en:=en) (st':=st') (en':=en') h)
  have h':(ky==ky')=false:=by simpa using h
  go_enter Tryz.func39,Tryz.ntmps39
  go_wp2
  go_ret
  exact⟨kY (ab HQ),(el)⟩
/-- Whether a row may stand behind another one. -/
def ed(kd ky st en ky' st' en':Int):Bool:= !(kd==3&&(ky==ky'&&bg st en st' en'))&&cQ ky' st' en' ky st en
set_option maxRecDepth 20000 in
set_option maxHeartbeats 4000000 in
theorem jj(ky st en an asu ale amo fn fsu fle fmo td:Int)(tm:Bool)(ky' st' en' an' asu' ale' amo' fn' fsu' fle' fmo' td':Int)(tm':Bool)(kd:Int)(w:World):Calls Tryz.prog 43 #[.agg #[.int .i64 ky,.int .i64 st,.int .i64 en,.int .i64 an,.int .i64 asu,.int .i64 ale,.int .i64 amo,.int .i64 fn,.int .i64 fsu,.int .i64 fle,.int .i64 fmo,.int .i64 td,.bool tm],.agg #[.int .i64 ky',.int .i64 st',.int .i64 en',.int .i64 an',.int .i64 asu',.int .i64 ale',.int .i64 amo',.int .i64 fn',.int .i64 fsu',.int .i64 fle',.int .i64 fmo',.int .i64 td',.bool tm'],.int .i64 kd] w fun e' w'=>e'= .returned (.bool (ed kd ky st en ky' st' en'))∧Below w.heap.size w w':=by
 cases c0:(kd==3)
 ·have hq:Hid (ed kd ky st en ky' st' en'=decide (fB ky' st' en' ky st en<0)):=ae (by simp[ed,c0,cQ])
  go_enter Tryz.func43,Tryz.ntmps43
  go_wp2_with (first
   |(go_at_call 71;refine(cd _ _ _ _ _).mono ?_;rintro e w' ⟨rfl,hb⟩;obtain⟨hc,hf,hs⟩:=az hb;(try have hz0:=zA hb w.heap.size);(try have hz1:=zA hb (w.heap.size+1)))
   |(go_at_call 58;refine(aT _ _ _ _ _ _ _ _ _ _ _ _ _ _).mono ?_;rintro e w' ⟨rfl,hb⟩;obtain⟨hc,hf,hs⟩:=az hb;(try have hz0:=zA hb w.heap.size);(try have hz1:=zA hb (w.heap.size+1)))
   |(go_at_call 72;refine(cn _ _ _ _ _ _ _).mono ?_;rintro e w' ⟨rfl,hb⟩;obtain⟨hc,hf,hs⟩:=az hb;(try have hz0:=zA hb w.heap.size);(try have hz1:=zA hb (w.heap.size+1))))
  go_region_held3 (fun W=>((W.cell? ⟨w.heap.size,0,none⟩=some (.int .i64 ky)∧W.cell? ⟨w.heap.size,1,none⟩=some (.int .i64 st)∧W.cell? ⟨w.heap.size,2,none⟩=some (.int .i64 en)∧W.cell? ⟨w.heap.size,3,none⟩=some (.int .i64 an)∧W.cell? ⟨w.heap.size,4,none⟩=some (.int .i64 asu)∧W.cell? ⟨w.heap.size,5,none⟩=some (.int .i64 ale)∧W.cell? ⟨w.heap.size,6,none⟩=some (.int .i64 amo)∧W.cell? ⟨w.heap.size,7,none⟩=some (.int .i64 fn)∧W.cell? ⟨w.heap.size,8,none⟩=some (.int .i64 fsu)∧W.cell? ⟨w.heap.size,9,none⟩=some (.int .i64 fle)∧W.cell? ⟨w.heap.size,10,none⟩=some (.int .i64 fmo)∧W.cell? ⟨w.heap.size,11,none⟩=some (.int .i64 td)∧W.cell? ⟨w.heap.size,12,none⟩=some (.bool tm)∧W.cell? ⟨w.heap.size+1,0,none⟩=some (.int .i64 ky')∧W.cell? ⟨w.heap.size+1,1,none⟩=some (.int .i64 st')∧W.cell? ⟨w.heap.size+1,2,none⟩=some (.int .i64 en')∧W.cell? ⟨w.heap.size+1,3,none⟩=some (.int .i64 an')∧W.cell? ⟨w.heap.size+1,4,none⟩=some (.int .i64 asu')∧W.cell? ⟨w.heap.size+1,5,none⟩=some (.int .i64 ale')∧W.cell? ⟨w.heap.size+1,6,none⟩=some (.int .i64 amo')∧W.cell? ⟨w.heap.size+1,7,none⟩=some (.int .i64 fn')∧W.cell? ⟨w.heap.size+1,8,none⟩=some (.int .i64 fsu')∧W.cell? ⟨w.heap.size+1,9,none⟩=some (.int .i64 fle')∧W.cell? ⟨w.heap.size+1,10,none⟩=some (.int .i64 fmo')∧W.cell? ⟨w.heap.size+1,11,none⟩=some (.int .i64 td')∧W.cell? ⟨w.heap.size+1,12,none⟩=some (.bool tm'))∧w.heap.size<W.heap.size∧w.heap.size+1<W.heap.size)) ((first|((repeat(first|(with_reducible assumption)|(with_reducible refine dM ?_ (nK))|(with_reducible refine dM ?_ (ap (Below.refl _ _)))|(with_reducible refine dM ?_ (aq _ _))));done)|(refine⟨⟨?_,?_,?_,?_,?_,?_,?_,?_,?_,?_,?_,?_,?_,?_,?_,?_,?_,?_,?_,?_,?_,?_,?_,?_,?_,?_⟩,?_,?_⟩<;>first|(go_keep;done)|(simp;done)|(simp;omega)|omega)))
   (first
   |(go_at_call 71;refine(cd _ _ _ _ _).mono ?_;rintro e w' ⟨rfl,hb⟩;obtain⟨hc,hf,hs⟩:=az hb)
   |(go_at_call 58;refine(aT _ _ _ _ _ _ _ _ _ _ _ _ _ _).mono ?_;rintro e w' ⟨rfl,hb⟩;obtain⟨hc,hf,hs⟩:=az hb)
   |(go_at_call 72;refine(cn _ _ _ _ _ _ _).mono ?_;rintro e w' ⟨rfl,hb⟩;obtain⟨hc,hf,hs⟩:=az hb))
  all_goals
   go_wp2_with (first
    |(go_at_call 71;refine(cd _ _ _ _ _).mono ?_;rintro e w' ⟨rfl,hb⟩;obtain⟨hc,hf,hs⟩:=az hb;(try have hz0:=zA hb w.heap.size);(try have hz1:=zA hb (w.heap.size+1)))
    |(go_at_call 58;refine(aT _ _ _ _ _ _ _ _ _ _ _ _ _ _).mono ?_;rintro e w' ⟨rfl,hb⟩;obtain⟨hc,hf,hs⟩:=az hb;(try have hz0:=zA hb w.heap.size);(try have hz1:=zA hb (w.heap.size+1)))
    |(go_at_call 72;refine(cn _ _ _ _ _ _ _).mono ?_;rintro e w' ⟨rfl,hb⟩;obtain⟨hc,hf,hs⟩:=az hb;(try have hz0:=zA hb w.heap.size);(try have hz1:=zA hb (w.heap.size+1))))
   go_ret
   exact⟨aD (ab hq).symm,(bC)⟩
 ·cases c1:(ky==ky')
  ·have hq:Hid (ed kd ky st en ky' st' en'=decide (fB ky' st' en' ky st en<0)):=ae (by simp[ed,c1,cQ])
   go_enter Tryz.func43,Tryz.ntmps43
   go_wp2_with (first
    |(go_at_call 71;refine(cd _ _ _ _ _).mono ?_;rintro e w' ⟨rfl,hb⟩;obtain⟨hc,hf,hs⟩:=az hb;(try have hz0:=zA hb w.heap.size);(try have hz1:=zA hb (w.heap.size+1)))
    |(go_at_call 58;refine(aT _ _ _ _ _ _ _ _ _ _ _ _ _ _).mono ?_;rintro e w' ⟨rfl,hb⟩;obtain⟨hc,hf,hs⟩:=az hb;(try have hz0:=zA hb w.heap.size);(try have hz1:=zA hb (w.heap.size+1)))
    |(go_at_call 72;refine(cn _ _ _ _ _ _ _).mono ?_;rintro e w' ⟨rfl,hb⟩;obtain⟨hc,hf,hs⟩:=az hb;(try have hz0:=zA hb w.heap.size);(try have hz1:=zA hb (w.heap.size+1))))
   go_region_held3 (fun W=>((W.cell? ⟨w.heap.size,0,none⟩=some (.int .i64 ky)∧W.cell? ⟨w.heap.size,1,none⟩=some (.int .i64 st)∧W.cell? ⟨w.heap.size,2,none⟩=some (.int .i64 en)∧W.cell? ⟨w.heap.size,3,none⟩=some (.int .i64 an)∧W.cell? ⟨w.heap.size,4,none⟩=some (.int .i64 asu)∧W.cell? ⟨w.heap.size,5,none⟩=some (.int .i64 ale)∧W.cell? ⟨w.heap.size,6,none⟩=some (.int .i64 amo)∧W.cell? ⟨w.heap.size,7,none⟩=some (.int .i64 fn)∧W.cell? ⟨w.heap.size,8,none⟩=some (.int .i64 fsu)∧W.cell? ⟨w.heap.size,9,none⟩=some (.int .i64 fle)∧W.cell? ⟨w.heap.size,10,none⟩=some (.int .i64 fmo)∧W.cell? ⟨w.heap.size,11,none⟩=some (.int .i64 td)∧W.cell? ⟨w.heap.size,12,none⟩=some (.bool tm)∧W.cell? ⟨w.heap.size+1,0,none⟩=some (.int .i64 ky')∧W.cell? ⟨w.heap.size+1,1,none⟩=some (.int .i64 st')∧W.cell? ⟨w.heap.size+1,2,none⟩=some (.int .i64 en')∧W.cell? ⟨w.heap.size+1,3,none⟩=some (.int .i64 an')∧W.cell? ⟨w.heap.size+1,4,none⟩=some (.int .i64 asu')∧W.cell? ⟨w.heap.size+1,5,none⟩=some (.int .i64 ale')∧W.cell? ⟨w.heap.size+1,6,none⟩=some (.int .i64 amo')∧W.cell? ⟨w.heap.size+1,7,none⟩=some (.int .i64 fn')∧W.cell? ⟨w.heap.size+1,8,none⟩=some (.int .i64 fsu')∧W.cell? ⟨w.heap.size+1,9,none⟩=some (.int .i64 fle')∧W.cell? ⟨w.heap.size+1,10,none⟩=some (.int .i64 fmo')∧W.cell? ⟨w.heap.size+1,11,none⟩=some (.int .i64 td')∧W.cell? ⟨w.heap.size+1,12,none⟩=some (.bool tm'))∧w.heap.size<W.heap.size∧w.heap.size+1<W.heap.size)) ((first|((repeat(first|(with_reducible assumption)|(with_reducible refine dM ?_ (nK))|(with_reducible refine dM ?_ (ap (Below.refl _ _)))|(with_reducible refine dM ?_ (aq _ _))));done)|(refine⟨⟨?_,?_,?_,?_,?_,?_,?_,?_,?_,?_,?_,?_,?_,?_,?_,?_,?_,?_,?_,?_,?_,?_,?_,?_,?_,?_⟩,?_,?_⟩<;>first|(go_keep;done)|(simp;done)|(simp;omega)|omega)))
    (first
    |(go_at_call 71;refine(cd _ _ _ _ _).mono ?_;rintro e w' ⟨rfl,hb⟩;obtain⟨hc,hf,hs⟩:=az hb)
    |(go_at_call 58;refine(aT _ _ _ _ _ _ _ _ _ _ _ _ _ _).mono ?_;rintro e w' ⟨rfl,hb⟩;obtain⟨hc,hf,hs⟩:=az hb)
    |(go_at_call 72;refine(cn _ _ _ _ _ _ _).mono ?_;rintro e w' ⟨rfl,hb⟩;obtain⟨hc,hf,hs⟩:=az hb))
   all_goals
    go_wp2_with (first
     |(go_at_call 71;refine(cd _ _ _ _ _).mono ?_;rintro e w' ⟨rfl,hb⟩;obtain⟨hc,hf,hs⟩:=az hb;(try have hz0:=zA hb w.heap.size);(try have hz1:=zA hb (w.heap.size+1)))
     |(go_at_call 58;refine(aT _ _ _ _ _ _ _ _ _ _ _ _ _ _).mono ?_;rintro e w' ⟨rfl,hb⟩;obtain⟨hc,hf,hs⟩:=az hb;(try have hz0:=zA hb w.heap.size);(try have hz1:=zA hb (w.heap.size+1)))
     |(go_at_call 72;refine(cn _ _ _ _ _ _ _).mono ?_;rintro e w' ⟨rfl,hb⟩;obtain⟨hc,hf,hs⟩:=az hb;(try have hz0:=zA hb w.heap.size);(try have hz1:=zA hb (w.heap.size+1))))
    go_ret
    exact⟨aD (ab hq).symm,(bC)⟩
  ·cases c2:bg st en st' en'
   ·have hq:Hid (ed kd ky st en ky' st' en'=decide (fB ky' st' en' ky st en<0)):=ae (by simp[ed,c2,cQ])
    go_enter Tryz.func43,Tryz.ntmps43
    go_wp2_with (first
     |(go_at_call 71;refine(cd _ _ _ _ _).mono ?_;rintro e w' ⟨rfl,hb⟩;obtain⟨hc,hf,hs⟩:=az hb;(try have hz0:=zA hb w.heap.size);(try have hz1:=zA hb (w.heap.size+1)))
     |(go_at_call 58;refine(aT _ _ _ _ _ _ _ _ _ _ _ _ _ _).mono ?_;rintro e w' ⟨rfl,hb⟩;obtain⟨hc,hf,hs⟩:=az hb;(try have hz0:=zA hb w.heap.size);(try have hz1:=zA hb (w.heap.size+1)))
     |(go_at_call 72;refine(cn _ _ _ _ _ _ _).mono ?_;rintro e w' ⟨rfl,hb⟩;obtain⟨hc,hf,hs⟩:=az hb;(try have hz0:=zA hb w.heap.size);(try have hz1:=zA hb (w.heap.size+1))))
    have hS:((w'.cell? ⟨w.heap.size,0,none⟩=some (.int .i64 ky)∧w'.cell? ⟨w.heap.size,1,none⟩=some (.int .i64 st)∧w'.cell? ⟨w.heap.size,2,none⟩=some (.int .i64 en)∧w'.cell? ⟨w.heap.size,3,none⟩=some (.int .i64 an)∧w'.cell? ⟨w.heap.size,4,none⟩=some (.int .i64 asu)∧w'.cell? ⟨w.heap.size,5,none⟩=some (.int .i64 ale)∧w'.cell? ⟨w.heap.size,6,none⟩=some (.int .i64 amo)∧w'.cell? ⟨w.heap.size,7,none⟩=some (.int .i64 fn)∧w'.cell? ⟨w.heap.size,8,none⟩=some (.int .i64 fsu)∧w'.cell? ⟨w.heap.size,9,none⟩=some (.int .i64 fle)∧w'.cell? ⟨w.heap.size,10,none⟩=some (.int .i64 fmo)∧w'.cell? ⟨w.heap.size,11,none⟩=some (.int .i64 td)∧w'.cell? ⟨w.heap.size,12,none⟩=some (.bool tm)∧w'.cell? ⟨w.heap.size+1,0,none⟩=some (.int .i64 ky')∧w'.cell? ⟨w.heap.size+1,1,none⟩=some (.int .i64 st')∧w'.cell? ⟨w.heap.size+1,2,none⟩=some (.int .i64 en')∧w'.cell? ⟨w.heap.size+1,3,none⟩=some (.int .i64 an')∧w'.cell? ⟨w.heap.size+1,4,none⟩=some (.int .i64 asu')∧w'.cell? ⟨w.heap.size+1,5,none⟩=some (.int .i64 ale')∧w'.cell? ⟨w.heap.size+1,6,none⟩=some (.int .i64 amo')∧w'.cell? ⟨w.heap.size+1,7,none⟩=some (.int .i64 fn')∧w'.cell? ⟨w.heap.size+1,8,none⟩=some (.int .i64 fsu')∧w'.cell? ⟨w.heap.size+1,9,none⟩=some (.int .i64 fle')∧w'.cell? ⟨w.heap.size+1,10,none⟩=some (.int .i64 fmo')∧w'.cell? ⟨w.heap.size+1,11,none⟩=some (.int .i64 td')∧w'.cell? ⟨w.heap.size+1,12,none⟩=some (.bool tm'))∧w.heap.size<w'.heap.size∧w.heap.size+1<w'.heap.size):=⟨⟨(hb.cell (p:=⟨w.heap.size,0,none⟩) (nY)).trans (nV),(hb.cell (p:=⟨w.heap.size,1,none⟩) (nY)).trans (nV),(hb.cell (p:=⟨w.heap.size,2,none⟩) (nY)).trans (nV),(hb.cell (p:=⟨w.heap.size,3,none⟩) (nY)).trans (nV),(hb.cell (p:=⟨w.heap.size,4,none⟩) (nY)).trans (nV),(hb.cell (p:=⟨w.heap.size,5,none⟩) (nY)).trans (nV),(hb.cell (p:=⟨w.heap.size,6,none⟩) (nY)).trans (nV),(hb.cell (p:=⟨w.heap.size,7,none⟩) (nY)).trans (nV),(hb.cell (p:=⟨w.heap.size,8,none⟩) (nY)).trans (nV),(hb.cell (p:=⟨w.heap.size,9,none⟩) (nY)).trans (nV),(hb.cell (p:=⟨w.heap.size,10,none⟩) (nY)).trans (nV),(hb.cell (p:=⟨w.heap.size,11,none⟩) (nY)).trans (nV),(hb.cell (p:=⟨w.heap.size,12,none⟩) (nY)).trans (nV),(hb.cell (p:=⟨w.heap.size+1,0,none⟩) (nY)).trans (nV),(hb.cell (p:=⟨w.heap.size+1,1,none⟩) (nY)).trans (nV),(hb.cell (p:=⟨w.heap.size+1,2,none⟩) (nY)).trans (nV),(hb.cell (p:=⟨w.heap.size+1,3,none⟩) (nY)).trans (nV),(hb.cell (p:=⟨w.heap.size+1,4,none⟩) (nY)).trans (nV),(hb.cell (p:=⟨w.heap.size+1,5,none⟩) (nY)).trans (nV),(hb.cell (p:=⟨w.heap.size+1,6,none⟩) (nY)).trans (nV),(hb.cell (p:=⟨w.heap.size+1,7,none⟩) (nY)).trans (nV),(hb.cell (p:=⟨w.heap.size+1,8,none⟩) (nY)).trans (nV),(hb.cell (p:=⟨w.heap.size+1,9,none⟩) (nY)).trans (nV),(hb.cell (p:=⟨w.heap.size+1,10,none⟩) (nY)).trans (nV),(hb.cell (p:=⟨w.heap.size+1,11,none⟩) (nY)).trans (nV),(hb.cell (p:=⟨w.heap.size+1,12,none⟩) (nY)).trans (nV)⟩,by have h9:=hb.size;simp at h9;omega,by have h9:=hb.size;simp at h9;omega⟩
    go_region_held3 (fun W=>((W.cell? ⟨w.heap.size,0,none⟩=some (.int .i64 ky)∧W.cell? ⟨w.heap.size,1,none⟩=some (.int .i64 st)∧W.cell? ⟨w.heap.size,2,none⟩=some (.int .i64 en)∧W.cell? ⟨w.heap.size,3,none⟩=some (.int .i64 an)∧W.cell? ⟨w.heap.size,4,none⟩=some (.int .i64 asu)∧W.cell? ⟨w.heap.size,5,none⟩=some (.int .i64 ale)∧W.cell? ⟨w.heap.size,6,none⟩=some (.int .i64 amo)∧W.cell? ⟨w.heap.size,7,none⟩=some (.int .i64 fn)∧W.cell? ⟨w.heap.size,8,none⟩=some (.int .i64 fsu)∧W.cell? ⟨w.heap.size,9,none⟩=some (.int .i64 fle)∧W.cell? ⟨w.heap.size,10,none⟩=some (.int .i64 fmo)∧W.cell? ⟨w.heap.size,11,none⟩=some (.int .i64 td)∧W.cell? ⟨w.heap.size,12,none⟩=some (.bool tm)∧W.cell? ⟨w.heap.size+1,0,none⟩=some (.int .i64 ky')∧W.cell? ⟨w.heap.size+1,1,none⟩=some (.int .i64 st')∧W.cell? ⟨w.heap.size+1,2,none⟩=some (.int .i64 en')∧W.cell? ⟨w.heap.size+1,3,none⟩=some (.int .i64 an')∧W.cell? ⟨w.heap.size+1,4,none⟩=some (.int .i64 asu')∧W.cell? ⟨w.heap.size+1,5,none⟩=some (.int .i64 ale')∧W.cell? ⟨w.heap.size+1,6,none⟩=some (.int .i64 amo')∧W.cell? ⟨w.heap.size+1,7,none⟩=some (.int .i64 fn')∧W.cell? ⟨w.heap.size+1,8,none⟩=some (.int .i64 fsu')∧W.cell? ⟨w.heap.size+1,9,none⟩=some (.int .i64 fle')∧W.cell? ⟨w.heap.size+1,10,none⟩=some (.int .i64 fmo')∧W.cell? ⟨w.heap.size+1,11,none⟩=some (.int .i64 td')∧W.cell? ⟨w.heap.size+1,12,none⟩=some (.bool tm'))∧w.heap.size<W.heap.size∧w.heap.size+1<W.heap.size)) ((first|((repeat(first|(with_reducible assumption)|(with_reducible refine dM ?_ (nK))|(with_reducible refine dM ?_ (ap (Below.refl _ _)))|(with_reducible refine dM ?_ (aq _ _))));done)|(refine⟨⟨?_,?_,?_,?_,?_,?_,?_,?_,?_,?_,?_,?_,?_,?_,?_,?_,?_,?_,?_,?_,?_,?_,?_,?_,?_,?_⟩,?_,?_⟩<;>first|(go_keep;done)|(simp;done)|(simp;omega)|omega)))
     (first
     |(go_at_call 71;refine(cd _ _ _ _ _).mono ?_;rintro e w' ⟨rfl,hb⟩;obtain⟨hc,hf,hs⟩:=az hb)
     |(go_at_call 58;refine(aT _ _ _ _ _ _ _ _ _ _ _ _ _ _).mono ?_;rintro e w' ⟨rfl,hb⟩;obtain⟨hc,hf,hs⟩:=az hb)
     |(go_at_call 72;refine(cn _ _ _ _ _ _ _).mono ?_;rintro e w' ⟨rfl,hb⟩;obtain⟨hc,hf,hs⟩:=az hb))
    all_goals
     go_wp2_with (first
      |(go_at_call 71;refine(cd _ _ _ _ _).mono ?_;rintro e w' ⟨rfl,hb⟩;obtain⟨hc,hf,hs⟩:=az hb;(try have hz0:=zA hb w.heap.size);(try have hz1:=zA hb (w.heap.size+1)))
      |(go_at_call 58;refine(aT _ _ _ _ _ _ _ _ _ _ _ _ _ _).mono ?_;rintro e w' ⟨rfl,hb⟩;obtain⟨hc,hf,hs⟩:=az hb;(try have hz0:=zA hb w.heap.size);(try have hz1:=zA hb (w.heap.size+1)))
      |(go_at_call 72;refine(cn _ _ _ _ _ _ _).mono ?_;rintro e w' ⟨rfl,hb⟩;obtain⟨hc,hf,hs⟩:=az hb;(try have hz0:=zA hb w.heap.size);(try have hz1:=zA hb (w.heap.size+1))))
     go_ret
     exact⟨aD (ab hq).symm,(bC)⟩
   ·have hq:Hid (ed kd ky st en ky' st' en'=false):=ae (by simp[ed,c0,c1,c2])
    go_enter Tryz.func43,Tryz.ntmps43
    go_wp2_with (first
     |(go_at_call 71;refine(cd _ _ _ _ _).mono ?_;rintro e w' ⟨rfl,hb⟩;obtain⟨hc,hf,hs⟩:=az hb;(try have hz0:=zA hb w.heap.size);(try have hz1:=zA hb (w.heap.size+1)))
     |(go_at_call 58;refine(aT _ _ _ _ _ _ _ _ _ _ _ _ _ _).mono ?_;rintro e w' ⟨rfl,hb⟩;obtain⟨hc,hf,hs⟩:=az hb;(try have hz0:=zA hb w.heap.size);(try have hz1:=zA hb (w.heap.size+1)))
     |(go_at_call 72;refine(cn _ _ _ _ _ _ _).mono ?_;rintro e w' ⟨rfl,hb⟩;obtain⟨hc,hf,hs⟩:=az hb;(try have hz0:=zA hb w.heap.size);(try have hz1:=zA hb (w.heap.size+1))))
    go_ret
    exact⟨aD (ab hq).symm,(bC)⟩
/-- A row is ok; it may stand behind another one; so far all rows are and do. -/
def aC.okB(l mark:Int)(x:aC):Bool:=aY l mark x.ky x.st x.en x.an x.asu x.ale x.amo x.fn x.fsu x.fle x.fmo x.td x.tm
def fE(kd:Int)(y x:aC):Bool:=ed kd x.ky x.st x.en y.ky y.st y.en
def gh(kd l mark:Int)(xs:List aC)(i:Nat):Bool:=match xs[i]? with
 |none=>true
 |some x=>x.okB l mark&&match i with
  |0=>true
  |j+1=>match xs[j]? with
   |some y=>fE kd y x
   |none=>true
def fd(kd l mark:Int)(xs:List aC)(n:Nat):Bool:=(List.range n).all (gh kd l mark xs)
theorem dT(kd l mark:Int)(xs:List aC)(n:Nat):fd kd l mark xs (n+1)=(fd kd l mark xs n&&gh kd l mark xs n):=by
 simp[fd,List.range_succ]
theorem ee{kd l mark:Int}{xs:List aC}{n i:Nat}(hi:i<n)(h:gh kd l mark xs i=false):fd kd l mark xs n=false:=by
 cases hc:fd kd l mark xs n
 ·rfl
 ·have:=List.all_eq_true.1 hc i (List.mem_range.2 hi)
  rw[h]at this
  cases this
theorem i6{kd l mark:Int}{xs:List aC}{n i:Nat}(hc:fd kd l mark xs n=true)(hi:i<n):gh kd l mark xs i=true:=List.all_eq_true.1 hc i (List.mem_range.2 hi)
theorem okAt_z{kd l mark:Int}{xs:List aC}{x:aC}(hx:xs[0]? =some x):gh kd l mark xs 0=x.okB l mark:=by simp[gh,hx]
theorem okAt_s{kd l mark:Int}{xs:List aC}{j:Nat}{x y:aC}(hx:xs[j+1]? =some x)(hy:xs[j]? =some y):gh kd l mark xs (j+1)=(x.okB l mark&&fE kd y x):=by simp[gh,hx,hy]
theorem kZ{kd l mark:Int}{xs:List aC}{i:Nat}{x:aC}(h0:i=0)(hx:xs[i]? =some x):gh kd l mark xs i=x.okB l mark:=by subst h0;exact okAt_z hx
theorem gO{kd l mark:Int}{xs:List aC}{i j:Nat}{x y:aC}(he:i=j+1)(hx:xs[i]? =some x)(hy:xs[j]? =some y):gh kd l mark xs i=(x.okB l mark&&fE kd y x):=by subst he;exact okAt_s hx hy
theorem gP{kd l mark:Int}{xs:List aC}{i:Nat}{x:aC}(hx:xs[i]? =some x)(h:x.okB l mark=false):gh kd l mark xs i=false:=by simp[gh,hx,h]
theorem ld{kd l mark:Int}{xs:List aC}{i:Nat}{x:aC}(hx:xs[i]? =some x)(h:gh kd l mark xs i=true):x.okB l mark=true:=by
 simp only[gh,hx,Bool.and_eq_true]at h
 exact h.1
theorem i7{l mark:Int}{x:aC}(h:x.okB l mark=true):0≤x.st∧x.st<x.en∧x.en≤120:=by
 simp only[aC.okB,aY,Bool.and_eq_true]at h
 exact ji h.1.1.1.1.1.1.1.1.1.2
theorem gE{ky st en ky' st' en':Int}:cQ ky st en ky' st' en'=true↔(ky<ky'∨(ky=ky'∧(st<st'∨(st=st'∧en<en')))):=by
 by_cases h:ky=ky'
 ·subst h
  by_cases h2:st=st'
  ·subst h2
   rw[ko]
   simp
  ·rw[km h2]
   simp
   omega
 ·rw[kk h]
  simp
  omega
theorem far_step{kd l mark:Int}{y x:aC}(hk:kd=3)(hx:x.okB l mark=true)(hy:y.okB l mark=true)(hn:fE kd y x=true):y.ky≤x.ky∧(y.ky=x.ky→y.en≤x.st):=by
 have h1:=i7 hx
 have h2:=i7 hy
 simp only[fE,ed,Bool.and_eq_true]at hn
 have h3:=gE.1 hn.2
 refine⟨by omega,fun e=>?_⟩
 have h4:=hn.1
 rw[hk,e]at h4
 have h5:bg x.st x.en y.st y.en=false:=by simpa using h4
 simp only[bg]at h5
 have h6:¬ (x.st<y.en∧y.st<x.en):=by
  intro hh
  simp[hh.1,hh.2]at h5
 omega
/-- Where no two neighbours touch no two at all do. -/
theorem okUp_far{kd l mark:Int}{xs:List aC}{n:Nat}(hk:kd=3)(h:fd kd l mark xs n=true):∀i,i<n→∀k,k<i→∀x y,xs[i]? =some x→xs[k]? =some y→y.ky≤x.ky∧(y.ky=x.ky→y.en≤x.st):=by
 intro i
 induction i with
 |zero=>intro _ k hk;omega
 |succ i ih=>
  intro hi k hki x y hx hy
  have hil:i<xs.length:=by have:=(List.getElem?_eq_some_iff.1 hx).1;omega
  obtain⟨z,hz⟩:∃z,xs[i]? =some z:=⟨_,List.getElem?_eq_getElem hil⟩
  have a1:=i6 h hi
  have a0:=i6 h (Nat.lt_of_succ_lt hi)
  have hxb:=ld hx a1
  have hzb:=ld hz a0
  rw[okAt_s hx hz,Bool.and_eq_true]at a1
  have st:=far_step hk hxb hzb a1.2
  by_cases he:k=i
  ·subst he
   rw[hz]at hy
   cases hy
   exact st
  ·have st2:=ih (Nat.lt_of_succ_lt hi) k (by omega) z y hz hy
   have w1:=i7 hzb
   refine⟨by omega,fun e=>?_⟩
   have e1:z.ky=x.ky:=by omega
   have e2:y.ky=z.ky:=by omega
   have:=st.2 e1
   have:=st2.2 e2
   omega
/-- A row that touches one ahead of it, however far, is not ok. -/
theorem jk{kd l mark:Int}{xs:List aC}{i k:Nat}{x y:aC}(hk:kd=3)(h:fd kd l mark xs i=true)(hki:k<i)(hx:xs[i]? =some x)(hy:xs[k]? =some y)(e:y.ky=x.ky)(ht:bg y.st y.en x.st x.en=true):gh kd l mark xs i=false:=by
 cases hc:gh kd l mark xs i
 ·rfl
 ·have h1:fd kd l mark xs (i+1)=true:=by rw[dT,h,hc];rfl
  have h2:=(okUp_far hk h1 i (by omega) k hki x y hx hy).2 e
  simp only[bg,Bool.and_eq_true,decide_eq_true_eq]at ht
  omega
/-- When an operator is ok. -/
def cB(s t k z p l e v r mark:Int)(xs:List aC):Bool:=aV s t k z p l e v r&&bH mark 0 1000&&decide (xs.length≤300)&&fd k l mark xs xs.length
theorem gQ{s t k z p l e v r:Int}(h:aV s t k z p l e v r=true):0≤l∧l≤20:=by
 simp only[aV,Bool.and_eq_true]at h
 exact br.1 h.1.1.1.2
theorem okOp_j{s t k z p l e v r mark:Int}{xs:List aC}(h:aV s t k z p l e v r=false):cB s t k z p l e v r mark xs=false:=by simp[cB,h]
theorem okOp_m{s t k z p l e v r mark:Int}{xs:List aC}(h:bH mark 0 1000=false):cB s t k z p l e v r mark xs=false:=by simp[cB,h]
theorem okOp_n{s t k z p l e v r mark:Int}{xs:List aC}(h:¬ xs.length≤300):cB s t k z p l e v r mark xs=false:=by simp[cB,h]
theorem okOp_t{s t k z p l e v r mark:Int}{xs:List aC}(h1:aV s t k z p l e v r=true)(h2:bH mark 0 1000=true)(h3:xs.length≤300):cB s t k z p l e v r mark xs=fd k l mark xs xs.length:=by simp[cB,h1,h2,h3]
end Go.Proofs.YtdmhihcipkhecaaGreat
