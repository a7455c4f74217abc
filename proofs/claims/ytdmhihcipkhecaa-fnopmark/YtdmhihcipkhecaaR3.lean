/- Laid together: what the claim needs of the texts that were built one by one. -/
import Derived.Test.YtdmhihcipkhecaaR2
import Derived.Test.YtdmhihcipkhecaaR0
import Derived.Deep.RegionHeld3
import Derived.Deep.DeepCutAuto
set_option linter.unusedVariables false
namespace Go.Proofs.Ytdmhihcipkhecaa
open Go.ChangeShapes Go.WideShapes Go.ChangeAt Go.RowKit
/-- When a row may be open behind a mark. -/
def aY(l mark:Int)(ky st en an asu ale amo fn fsu fle fmo td:Int)(tm:Bool):Bool:=bz ky 0 3&&dz st en&&eB an asu ale amo&&eB fn fsu fle fmo&&bz td 0 1500&& !(an==0)&&decide (fn≤an)&&decide (mark<en+l)&&(tm==decide (en≤mark))&&(decide (0<td)==decide (en≤mark))&&((fn==0)==decide (en≤mark))
theorem iV{st en:Int}(h:dz st en=true):0≤st∧st<en∧en≤120:=by
 simp only[dz,Bool.and_eq_true]at h
 have h1:=bB.1 h.1
 have h2:=bB.1 h.2
 omega
set_option maxRecDepth 20000 in
set_option maxHeartbeats 4000000 in
theorem eC(s t k z p l e:Int)(b:Bool)(v r:Int)(ky st en an asu ale amo fn fsu fle fmo td:Int)(tm:Bool)(mark:Int)(hl:0≤l∧l≤20)(w:World):Calls Try.prog 25 #[.agg #[.int .i64 s,.int .i64 t,.int .i64 k,.int .i64 z,.int .i64 p,.int .i64 l,.int .i64 e,.bool b,.int .i64 v,.int .i64 r],.agg #[.int .i64 ky,.int .i64 st,.int .i64 en,.int .i64 an,.int .i64 asu,.int .i64 ale,.int .i64 amo,.int .i64 fn,.int .i64 fsu,.int .i64 fle,.int .i64 fmo,.int .i64 td,.bool tm],.int .i64 mark] w fun e' w'=>e'= .returned (.bool (aY l mark ky st en an asu ale amo fn fsu fle fmo td tm))∧Below w.heap.size w w':=by
 cases c0:bz ky 0 3
 ·have hq:Hid (aY l mark ky st en an asu ale amo fn fsu fle fmo td tm=false):=ae (by simp[aY,c0])
  go_enter Try.func25,Try.ntmps25
  go_wp2_with (first
   |(go_at_call 21;refine(aF _ _ _ _).mono ?_;rintro e' w' ⟨rfl,rfl⟩)
   |(go_at_call 41;refine(ba _ _ _).mono ?_;rintro e w' ⟨rfl,hb⟩;obtain⟨hc,hf,hs⟩:=aC hb;(try have hz0:=zA hb w.heap.size);(try have hz1:=zA hb (w.heap.size+1)))
   |(go_at_call 42;refine(bc _ _ _ _ _).mono ?_;rintro e w' ⟨rfl,hb⟩;obtain⟨hc,hf,hs⟩:=aC hb;(try have hz0:=zA hb w.heap.size);(try have hz1:=zA hb (w.heap.size+1))))
  go_ret
  exact⟨aG (ab hq).symm,(bx)⟩
 cases c1:dz st en
 ·have hq:Hid (aY l mark ky st en an asu ale amo fn fsu fle fmo td tm=false):=ae (by simp[aY,c0,c1])
  go_enter Try.func25,Try.ntmps25
  go_wp2_with (first
   |(go_at_call 21;refine(aF _ _ _ _).mono ?_;rintro e' w' ⟨rfl,rfl⟩)
   |(go_at_call 41;refine(ba _ _ _).mono ?_;rintro e w' ⟨rfl,hb⟩;obtain⟨hc,hf,hs⟩:=aC hb;(try have hz0:=zA hb w.heap.size);(try have hz1:=zA hb (w.heap.size+1)))
   |(go_at_call 42;refine(bc _ _ _ _ _).mono ?_;rintro e w' ⟨rfl,hb⟩;obtain⟨hc,hf,hs⟩:=aC hb;(try have hz0:=zA hb w.heap.size);(try have hz1:=zA hb (w.heap.size+1))))
  go_ret
  exact⟨aG (ab hq).symm,(bx)⟩
 have hen:=iV c1
 cases c2:eB an asu ale amo
 ·have hq:Hid (aY l mark ky st en an asu ale amo fn fsu fle fmo td tm=false):=ae (by simp[aY,c0,c1,c2])
  go_enter Try.func25,Try.ntmps25
  go_wp2_with (first
   |(go_at_call 21;refine(aF _ _ _ _).mono ?_;rintro e' w' ⟨rfl,rfl⟩)
   |(go_at_call 41;refine(ba _ _ _).mono ?_;rintro e w' ⟨rfl,hb⟩;obtain⟨hc,hf,hs⟩:=aC hb;(try have hz0:=zA hb w.heap.size);(try have hz1:=zA hb (w.heap.size+1)))
   |(go_at_call 42;refine(bc _ _ _ _ _).mono ?_;rintro e w' ⟨rfl,hb⟩;obtain⟨hc,hf,hs⟩:=aC hb;(try have hz0:=zA hb w.heap.size);(try have hz1:=zA hb (w.heap.size+1))))
  go_ret
  exact⟨aG (ab hq).symm,(bx)⟩
 cases c3:(an==0)
 ·cases c4:eB fn fsu fle fmo
  ·have hq:Hid (aY l mark ky st en an asu ale amo fn fsu fle fmo td tm=false):=ae (by simp[aY,c0,c1,c2,c3,c4])
   go_enter Try.func25,Try.ntmps25
   go_wp2_with (first
    |(go_at_call 21;refine(aF _ _ _ _).mono ?_;rintro e' w' ⟨rfl,rfl⟩)
    |(go_at_call 41;refine(ba _ _ _).mono ?_;rintro e w' ⟨rfl,hb⟩;obtain⟨hc,hf,hs⟩:=aC hb;(try have hz0:=zA hb w.heap.size);(try have hz1:=zA hb (w.heap.size+1)))
    |(go_at_call 42;refine(bc _ _ _ _ _).mono ?_;rintro e w' ⟨rfl,hb⟩;obtain⟨hc,hf,hs⟩:=aC hb;(try have hz0:=zA hb w.heap.size);(try have hz1:=zA hb (w.heap.size+1))))
   go_ret
   exact⟨aG (ab hq).symm,(bx)⟩
  by_cases c5:fn≤an
  ·cases c6:bz td 0 1500
   ·have hq:Hid (aY l mark ky st en an asu ale amo fn fsu fle fmo td tm=false):=ae (by simp[aY,c0,c1,c2,c3,c4,c5,c6])
    go_enter Try.func25,Try.ntmps25
    go_wp2_with (first
     |(go_at_call 21;refine(aF _ _ _ _).mono ?_;rintro e' w' ⟨rfl,rfl⟩)
     |(go_at_call 41;refine(ba _ _ _).mono ?_;rintro e w' ⟨rfl,hb⟩;obtain⟨hc,hf,hs⟩:=aC hb;(try have hz0:=zA hb w.heap.size);(try have hz1:=zA hb (w.heap.size+1)))
     |(go_at_call 42;refine(bc _ _ _ _ _).mono ?_;rintro e w' ⟨rfl,hb⟩;obtain⟨hc,hf,hs⟩:=aC hb;(try have hz0:=zA hb w.heap.size);(try have hz1:=zA hb (w.heap.size+1))))
    go_ret
    exact⟨aG (ab hq).symm,(bx)⟩
   by_cases ov:en≤mark
   ·cases tm
    ·have hq:Hid (aY l mark ky st en an asu ale amo fn fsu fle fmo td false=false):=ae (by simp[aY,c0,c1,c2,c3,c4,c5,c6,ov])
     go_enter Try.func25,Try.ntmps25
     go_wp2_with (first
      |(go_at_call 21;refine(aF _ _ _ _).mono ?_;rintro e' w' ⟨rfl,rfl⟩)
      |(go_at_call 41;refine(ba _ _ _).mono ?_;rintro e w' ⟨rfl,hb⟩;obtain⟨hc,hf,hs⟩:=aC hb;(try have hz0:=zA hb w.heap.size);(try have hz1:=zA hb (w.heap.size+1)))
      |(go_at_call 42;refine(bc _ _ _ _ _).mono ?_;rintro e w' ⟨rfl,hb⟩;obtain⟨hc,hf,hs⟩:=aC hb;(try have hz0:=zA hb w.heap.size);(try have hz1:=zA hb (w.heap.size+1))))
     go_ret
     exact⟨aG (ab hq).symm,(bx)⟩
    ·by_cases c7:mark<en+l
     ·by_cases tp:0<td
      ·cases fz:(fn==0)
       ·have hq:Hid (aY l mark ky st en an asu ale amo fn fsu fle fmo td true=false):=ae (by simp[aY,c0,c1,c2,c3,c4,c5,c6,c7,ov,tp,fz])
        go_enter Try.func25,Try.ntmps25
        go_wp2_with (first
         |(go_at_call 21;refine(aF _ _ _ _).mono ?_;rintro e' w' ⟨rfl,rfl⟩)
         |(go_at_call 41;refine(ba _ _ _).mono ?_;rintro e w' ⟨rfl,hb⟩;obtain⟨hc,hf,hs⟩:=aC hb;(try have hz0:=zA hb w.heap.size);(try have hz1:=zA hb (w.heap.size+1)))
         |(go_at_call 42;refine(bc _ _ _ _ _).mono ?_;rintro e w' ⟨rfl,hb⟩;obtain⟨hc,hf,hs⟩:=aC hb;(try have hz0:=zA hb w.heap.size);(try have hz1:=zA hb (w.heap.size+1))))
        go_ret
        exact⟨aG (ab hq).symm,(bx)⟩
       ·have hq:Hid (aY l mark ky st en an asu ale amo fn fsu fle fmo td true=true):=ae (by simp[aY,c0,c1,c2,c3,c4,c5,c6,c7,ov,tp,fz])
        go_enter Try.func25,Try.ntmps25
        go_wp2_with (first
         |(go_at_call 21;refine(aF _ _ _ _).mono ?_;rintro e' w' ⟨rfl,rfl⟩)
         |(go_at_call 41;refine(ba _ _ _).mono ?_;rintro e w' ⟨rfl,hb⟩;obtain⟨hc,hf,hs⟩:=aC hb;(try have hz0:=zA hb w.heap.size);(try have hz1:=zA hb (w.heap.size+1)))
         |(go_at_call 42;refine(bc _ _ _ _ _).mono ?_;rintro e w' ⟨rfl,hb⟩;obtain⟨hc,hf,hs⟩:=aC hb;(try have hz0:=zA hb w.heap.size);(try have hz1:=zA hb (w.heap.size+1))))
        go_ret
        exact⟨aG (by first|exact(ab hq).symm|(rw[ab hq];simp[ov,tp])),(bx)⟩
      ·have hq:Hid (aY l mark ky st en an asu ale amo fn fsu fle fmo td true=false):=ae (by simp[aY,c0,c1,c2,c3,c4,c5,c6,c7,ov,tp])
       go_enter Try.func25,Try.ntmps25
       go_wp2_with (first
        |(go_at_call 21;refine(aF _ _ _ _).mono ?_;rintro e' w' ⟨rfl,rfl⟩)
        |(go_at_call 41;refine(ba _ _ _).mono ?_;rintro e w' ⟨rfl,hb⟩;obtain⟨hc,hf,hs⟩:=aC hb;(try have hz0:=zA hb w.heap.size);(try have hz1:=zA hb (w.heap.size+1)))
        |(go_at_call 42;refine(bc _ _ _ _ _).mono ?_;rintro e w' ⟨rfl,hb⟩;obtain⟨hc,hf,hs⟩:=aC hb;(try have hz0:=zA hb w.heap.size);(try have hz1:=zA hb (w.heap.size+1))))
       go_ret
       exact⟨aG (ab hq).symm,(bx)⟩
     ·have hq:Hid (aY l mark ky st en an asu ale amo fn fsu fle fmo td true=false):=ae (by simp[aY,c0,c1,c2,c3,c4,c5,c6,ov,c7])
      go_enter Try.func25,Try.ntmps25
      go_wp2_with (first
       |(go_at_call 21;refine(aF _ _ _ _).mono ?_;rintro e' w' ⟨rfl,rfl⟩)
       |(go_at_call 41;refine(ba _ _ _).mono ?_;rintro e w' ⟨rfl,hb⟩;obtain⟨hc,hf,hs⟩:=aC hb;(try have hz0:=zA hb w.heap.size);(try have hz1:=zA hb (w.heap.size+1)))
       |(go_at_call 42;refine(bc _ _ _ _ _).mono ?_;rintro e w' ⟨rfl,hb⟩;obtain⟨hc,hf,hs⟩:=aC hb;(try have hz0:=zA hb w.heap.size);(try have hz1:=zA hb (w.heap.size+1))))
      go_ret
      exact⟨aG (ab hq).symm,(bx)⟩
   ·cases tm
    ·by_cases c7:mark<en+l
     ·by_cases tp:0<td
      ·have hq:Hid (aY l mark ky st en an asu ale amo fn fsu fle fmo td false=false):=ae (by simp[aY,c0,c1,c2,c3,c4,c5,c6,c7,ov,tp])
       go_enter Try.func25,Try.ntmps25
       go_wp2_with (first
        |(go_at_call 21;refine(aF _ _ _ _).mono ?_;rintro e' w' ⟨rfl,rfl⟩)
        |(go_at_call 41;refine(ba _ _ _).mono ?_;rintro e w' ⟨rfl,hb⟩;obtain⟨hc,hf,hs⟩:=aC hb;(try have hz0:=zA hb w.heap.size);(try have hz1:=zA hb (w.heap.size+1)))
        |(go_at_call 42;refine(bc _ _ _ _ _).mono ?_;rintro e w' ⟨rfl,hb⟩;obtain⟨hc,hf,hs⟩:=aC hb;(try have hz0:=zA hb w.heap.size);(try have hz1:=zA hb (w.heap.size+1))))
       go_ret
       exact⟨aG (ab hq).symm,(bx)⟩
      ·cases fz:(fn==0)
       ·have hq:Hid (aY l mark ky st en an asu ale amo fn fsu fle fmo td false=true):=ae (by simp[aY,c0,c1,c2,c3,c4,c5,c6,c7,ov,tp,fz])
        go_enter Try.func25,Try.ntmps25
        go_wp2_with (first
         |(go_at_call 21;refine(aF _ _ _ _).mono ?_;rintro e' w' ⟨rfl,rfl⟩)
         |(go_at_call 41;refine(ba _ _ _).mono ?_;rintro e w' ⟨rfl,hb⟩;obtain⟨hc,hf,hs⟩:=aC hb;(try have hz0:=zA hb w.heap.size);(try have hz1:=zA hb (w.heap.size+1)))
         |(go_at_call 42;refine(bc _ _ _ _ _).mono ?_;rintro e w' ⟨rfl,hb⟩;obtain⟨hc,hf,hs⟩:=aC hb;(try have hz0:=zA hb w.heap.size);(try have hz1:=zA hb (w.heap.size+1))))
        go_ret
        exact⟨aG (by first|exact(ab hq).symm|(rw[ab hq];simp[ov,tp])),(bx)⟩
       ·have hq:Hid (aY l mark ky st en an asu ale amo fn fsu fle fmo td false=false):=ae (by simp[aY,c0,c1,c2,c3,c4,c5,c6,c7,ov,tp,fz])
        go_enter Try.func25,Try.ntmps25
        go_wp2_with (first
         |(go_at_call 21;refine(aF _ _ _ _).mono ?_;rintro e' w' ⟨rfl,rfl⟩)
         |(go_at_call 41;refine(ba _ _ _).mono ?_;rintro e w' ⟨rfl,hb⟩;obtain⟨hc,hf,hs⟩:=aC hb;(try have hz0:=zA hb w.heap.size);(try have hz1:=zA hb (w.heap.size+1)))
         |(go_at_call 42;refine(bc _ _ _ _ _).mono ?_;rintro e w' ⟨rfl,hb⟩;obtain⟨hc,hf,hs⟩:=aC hb;(try have hz0:=zA hb w.heap.size);(try have hz1:=zA hb (w.heap.size+1))))
        go_ret
        exact⟨aG (ab hq).symm,(bx)⟩
     ·exfalso;omega
    ·have hq:Hid (aY l mark ky st en an asu ale amo fn fsu fle fmo td true=false):=ae (by simp[aY,c0,c1,c2,c3,c4,c5,c6,ov])
     go_enter Try.func25,Try.ntmps25
     go_wp2_with (first
      |(go_at_call 21;refine(aF _ _ _ _).mono ?_;rintro e' w' ⟨rfl,rfl⟩)
      |(go_at_call 41;refine(ba _ _ _).mono ?_;rintro e w' ⟨rfl,hb⟩;obtain⟨hc,hf,hs⟩:=aC hb;(try have hz0:=zA hb w.heap.size);(try have hz1:=zA hb (w.heap.size+1)))
      |(go_at_call 42;refine(bc _ _ _ _ _).mono ?_;rintro e w' ⟨rfl,hb⟩;obtain⟨hc,hf,hs⟩:=aC hb;(try have hz0:=zA hb w.heap.size);(try have hz1:=zA hb (w.heap.size+1))))
     go_ret
     exact⟨aG (ab hq).symm,(bx)⟩
  ·have hq:Hid (aY l mark ky st en an asu ale amo fn fsu fle fmo td tm=false):=ae (by simp[aY,c0,c1,c2,c3,c4,c5])
   go_enter Try.func25,Try.ntmps25
   go_wp2_with (first
    |(go_at_call 21;refine(aF _ _ _ _).mono ?_;rintro e' w' ⟨rfl,rfl⟩)
    |(go_at_call 41;refine(ba _ _ _).mono ?_;rintro e w' ⟨rfl,hb⟩;obtain⟨hc,hf,hs⟩:=aC hb;(try have hz0:=zA hb w.heap.size);(try have hz1:=zA hb (w.heap.size+1)))
    |(go_at_call 42;refine(bc _ _ _ _ _).mono ?_;rintro e w' ⟨rfl,hb⟩;obtain⟨hc,hf,hs⟩:=aC hb;(try have hz0:=zA hb w.heap.size);(try have hz1:=zA hb (w.heap.size+1))))
   go_ret
   exact⟨aG (ab hq).symm,(bx)⟩
 ·have hq:Hid (aY l mark ky st en an asu ale amo fn fsu fle fmo td tm=false):=ae (by simp[aY,c0,c1,c2,c3])
  go_enter Try.func25,Try.ntmps25
  go_wp2_with (first
   |(go_at_call 21;refine(aF _ _ _ _).mono ?_;rintro e' w' ⟨rfl,rfl⟩)
   |(go_at_call 41;refine(ba _ _ _).mono ?_;rintro e w' ⟨rfl,hb⟩;obtain⟨hc,hf,hs⟩:=aC hb;(try have hz0:=zA hb w.heap.size);(try have hz1:=zA hb (w.heap.size+1)))
   |(go_at_call 42;refine(bc _ _ _ _ _).mono ?_;rintro e w' ⟨rfl,hb⟩;obtain⟨hc,hf,hs⟩:=aC hb;(try have hz0:=zA hb w.heap.size);(try have hz1:=zA hb (w.heap.size+1))))
  go_ret
  exact⟨aG (ab hq).symm,(bx)⟩
theorem cd{l mark:Int}(ky st en an asu ale amo fn fsu fle fmo td:Int)(tm:Bool):aY l mark ky st en an asu ale amo fn fsu fle fmo td tm=(dX ky st en&&eB an asu ale amo&&eB fn fsu fle fmo&&bz td 0 1500&& !(an==0)&&decide (fn≤an)&&decide (mark<en+l)&&(tm==decide (en≤mark))&&(decide (0<td)==decide (en≤mark))&&((fn==0)==decide (en≤mark))):=rfl
set_option maxRecDepth 20000 in
set_option maxHeartbeats 4000000 in
theorem eD(ky st en an asu ale amo fn fsu fle fmo td:Int)(tm:Bool)(mark l:Int)(hl:0≤l∧l≤20)(w:World):Calls Try.prog 35 #[.agg #[.int .i64 ky,.int .i64 st,.int .i64 en,.int .i64 an,.int .i64 asu,.int .i64 ale,.int .i64 amo,.int .i64 fn,.int .i64 fsu,.int .i64 fle,.int .i64 fmo,.int .i64 td,.bool tm],.int .i64 mark,.int .i64 l] w fun e' w'=>e'= .returned (.bool (aY l mark ky st en an asu ale amo fn fsu fle fmo td tm))∧Below w.heap.size w w':=by
 cases c0:dX ky st en
 ·have hq:Hid (aY l mark ky st en an asu ale amo fn fsu fle fmo td tm=false):=ae (by simp[cd,c0])
  go_enter Try.func35,Try.ntmps35
  go_wp2_with (first
   |(go_at_call 29;refine(aO _ _ _ _ _ _ _ _ _ _ _ _ _ _).mono ?_;rintro e w' ⟨rfl,hb⟩;obtain⟨hc,hf,hs⟩:=aC hb;(try have hz0:=zA hb w.heap.size);(try have hz1:=zA hb (w.heap.size+1)))
   |(go_at_call 50;refine(bk _ _ _ _).mono ?_;rintro e w' ⟨rfl,hb⟩;obtain⟨hc,hf,hs⟩:=aC hb;(try have hz0:=zA hb w.heap.size);(try have hz1:=zA hb (w.heap.size+1)))
   |(go_at_call 17;refine(aI _ _ _ _).mono ?_;rintro e' w' ⟨rfl,rfl⟩)
   |(go_at_call 51;refine(bD _ _ _ _ _).mono ?_;rintro e w' ⟨rfl,hb⟩;obtain⟨hc,hf,hs⟩:=aC hb;(try have hz0:=zA hb w.heap.size);(try have hz1:=zA hb (w.heap.size+1))))
  go_ret
  exact⟨aG (ab hq).symm,(bx)⟩
 have c1:dz st en=true:=by simp only[dX,Bool.and_eq_true]at c0;exact c0.2
 have cc0:bz ky 0 3=true:=by simp only[dX,Bool.and_eq_true]at c0;exact c0.1
 have hen:=iV c1
 cases c2:eB an asu ale amo
 ·have hq:Hid (aY l mark ky st en an asu ale amo fn fsu fle fmo td tm=false):=ae (by simp[cd,c0,c2])
  go_enter Try.func35,Try.ntmps35
  go_wp2_with (first
   |(go_at_call 29;refine(aO _ _ _ _ _ _ _ _ _ _ _ _ _ _).mono ?_;rintro e w' ⟨rfl,hb⟩;obtain⟨hc,hf,hs⟩:=aC hb;(try have hz0:=zA hb w.heap.size);(try have hz1:=zA hb (w.heap.size+1)))
   |(go_at_call 50;refine(bk _ _ _ _).mono ?_;rintro e w' ⟨rfl,hb⟩;obtain⟨hc,hf,hs⟩:=aC hb;(try have hz0:=zA hb w.heap.size);(try have hz1:=zA hb (w.heap.size+1)))
   |(go_at_call 17;refine(aI _ _ _ _).mono ?_;rintro e' w' ⟨rfl,rfl⟩)
   |(go_at_call 51;refine(bD _ _ _ _ _).mono ?_;rintro e w' ⟨rfl,hb⟩;obtain⟨hc,hf,hs⟩:=aC hb;(try have hz0:=zA hb w.heap.size);(try have hz1:=zA hb (w.heap.size+1))))
  go_ret
  exact⟨aG (ab hq).symm,(bx)⟩
 cases c4:eB fn fsu fle fmo
 ·have hq:Hid (aY l mark ky st en an asu ale amo fn fsu fle fmo td tm=false):=ae (by simp[cd,c0,c2,c4])
  go_enter Try.func35,Try.ntmps35
  go_wp2_with (first
   |(go_at_call 29;refine(aO _ _ _ _ _ _ _ _ _ _ _ _ _ _).mono ?_;rintro e w' ⟨rfl,hb⟩;obtain⟨hc,hf,hs⟩:=aC hb;(try have hz0:=zA hb w.heap.size);(try have hz1:=zA hb (w.heap.size+1)))
   |(go_at_call 50;refine(bk _ _ _ _).mono ?_;rintro e w' ⟨rfl,hb⟩;obtain⟨hc,hf,hs⟩:=aC hb;(try have hz0:=zA hb w.heap.size);(try have hz1:=zA hb (w.heap.size+1)))
   |(go_at_call 17;refine(aI _ _ _ _).mono ?_;rintro e' w' ⟨rfl,rfl⟩)
   |(go_at_call 51;refine(bD _ _ _ _ _).mono ?_;rintro e w' ⟨rfl,hb⟩;obtain⟨hc,hf,hs⟩:=aC hb;(try have hz0:=zA hb w.heap.size);(try have hz1:=zA hb (w.heap.size+1))))
  go_ret
  exact⟨aG (ab hq).symm,(bx)⟩
 cases c6:bz td 0 1500
 ·have hq:Hid (aY l mark ky st en an asu ale amo fn fsu fle fmo td tm=false):=ae (by simp[cd,c0,c2,c4,c6])
  go_enter Try.func35,Try.ntmps35
  go_wp2_with (first
   |(go_at_call 29;refine(aO _ _ _ _ _ _ _ _ _ _ _ _ _ _).mono ?_;rintro e w' ⟨rfl,hb⟩;obtain⟨hc,hf,hs⟩:=aC hb;(try have hz0:=zA hb w.heap.size);(try have hz1:=zA hb (w.heap.size+1)))
   |(go_at_call 50;refine(bk _ _ _ _).mono ?_;rintro e w' ⟨rfl,hb⟩;obtain⟨hc,hf,hs⟩:=aC hb;(try have hz0:=zA hb w.heap.size);(try have hz1:=zA hb (w.heap.size+1)))
   |(go_at_call 17;refine(aI _ _ _ _).mono ?_;rintro e' w' ⟨rfl,rfl⟩)
   |(go_at_call 51;refine(bD _ _ _ _ _).mono ?_;rintro e w' ⟨rfl,hb⟩;obtain⟨hc,hf,hs⟩:=aC hb;(try have hz0:=zA hb w.heap.size);(try have hz1:=zA hb (w.heap.size+1))))
  go_ret
  exact⟨aG (ab hq).symm,(bx)⟩
 cases c3:(an==0)
 ·by_cases c5:fn≤an
  ·by_cases c7:mark<en+l
   ·by_cases ov:en≤mark
    ·cases tm
     ·have hq:Hid (aY l mark ky st en an asu ale amo fn fsu fle fmo td false=false):=ae (by simp[cd,c0,c2,c4,c6,c3,c5,c7,ov])
      go_enter Try.func35,Try.ntmps35
      go_wp2_with (first
       |(go_at_call 29;refine(aO _ _ _ _ _ _ _ _ _ _ _ _ _ _).mono ?_;rintro e w' ⟨rfl,hb⟩;obtain⟨hc,hf,hs⟩:=aC hb;(try have hz0:=zA hb w.heap.size);(try have hz1:=zA hb (w.heap.size+1)))
       |(go_at_call 50;refine(bk _ _ _ _).mono ?_;rintro e w' ⟨rfl,hb⟩;obtain⟨hc,hf,hs⟩:=aC hb;(try have hz0:=zA hb w.heap.size);(try have hz1:=zA hb (w.heap.size+1)))
       |(go_at_call 17;refine(aI _ _ _ _).mono ?_;rintro e' w' ⟨rfl,rfl⟩)
       |(go_at_call 51;refine(bD _ _ _ _ _).mono ?_;rintro e w' ⟨rfl,hb⟩;obtain⟨hc,hf,hs⟩:=aC hb;(try have hz0:=zA hb w.heap.size);(try have hz1:=zA hb (w.heap.size+1))))
      go_ret
      exact⟨aG (ab hq).symm,(bx)⟩
     ·by_cases tp:0<td
      ·cases fz:(fn==0)
       ·have hq:Hid (aY l mark ky st en an asu ale amo fn fsu fle fmo td true=false):=ae (by simp[cd,c0,c2,c4,c6,c3,c5,c7,ov,tp,fz])
        go_enter Try.func35,Try.ntmps35
        go_wp2_with (first
         |(go_at_call 29;refine(aO _ _ _ _ _ _ _ _ _ _ _ _ _ _).mono ?_;rintro e w' ⟨rfl,hb⟩;obtain⟨hc,hf,hs⟩:=aC hb;(try have hz0:=zA hb w.heap.size);(try have hz1:=zA hb (w.heap.size+1)))
         |(go_at_call 50;refine(bk _ _ _ _).mono ?_;rintro e w' ⟨rfl,hb⟩;obtain⟨hc,hf,hs⟩:=aC hb;(try have hz0:=zA hb w.heap.size);(try have hz1:=zA hb (w.heap.size+1)))
         |(go_at_call 17;refine(aI _ _ _ _).mono ?_;rintro e' w' ⟨rfl,rfl⟩)
         |(go_at_call 51;refine(bD _ _ _ _ _).mono ?_;rintro e w' ⟨rfl,hb⟩;obtain⟨hc,hf,hs⟩:=aC hb;(try have hz0:=zA hb w.heap.size);(try have hz1:=zA hb (w.heap.size+1))))
        go_ret
        exact⟨aG (ab hq).symm,(bx)⟩
       ·have hq:Hid (aY l mark ky st en an asu ale amo fn fsu fle fmo td true=true):=ae (by simp[cd,c0,c2,c4,c6,c3,c5,c7,ov,tp,fz])
        go_enter Try.func35,Try.ntmps35
        go_wp2_with (first
         |(go_at_call 29;refine(aO _ _ _ _ _ _ _ _ _ _ _ _ _ _).mono ?_;rintro e w' ⟨rfl,hb⟩;obtain⟨hc,hf,hs⟩:=aC hb;(try have hz0:=zA hb w.heap.size);(try have hz1:=zA hb (w.heap.size+1)))
         |(go_at_call 50;refine(bk _ _ _ _).mono ?_;rintro e w' ⟨rfl,hb⟩;obtain⟨hc,hf,hs⟩:=aC hb;(try have hz0:=zA hb w.heap.size);(try have hz1:=zA hb (w.heap.size+1)))
         |(go_at_call 17;refine(aI _ _ _ _).mono ?_;rintro e' w' ⟨rfl,rfl⟩)
         |(go_at_call 51;refine(bD _ _ _ _ _).mono ?_;rintro e w' ⟨rfl,hb⟩;obtain⟨hc,hf,hs⟩:=aC hb;(try have hz0:=zA hb w.heap.size);(try have hz1:=zA hb (w.heap.size+1))))
        go_ret
        exact⟨aG (by first|exact(ab hq).symm|(rw[ab hq];simp[ov])),(bx)⟩
      ·have hq:Hid (aY l mark ky st en an asu ale amo fn fsu fle fmo td true=false):=ae (by simp[cd,c0,c2,c4,c6,c3,c5,c7,ov,tp])
       go_enter Try.func35,Try.ntmps35
       go_wp2_with (first
        |(go_at_call 29;refine(aO _ _ _ _ _ _ _ _ _ _ _ _ _ _).mono ?_;rintro e w' ⟨rfl,hb⟩;obtain⟨hc,hf,hs⟩:=aC hb;(try have hz0:=zA hb w.heap.size);(try have hz1:=zA hb (w.heap.size+1)))
        |(go_at_call 50;refine(bk _ _ _ _).mono ?_;rintro e w' ⟨rfl,hb⟩;obtain⟨hc,hf,hs⟩:=aC hb;(try have hz0:=zA hb w.heap.size);(try have hz1:=zA hb (w.heap.size+1)))
        |(go_at_call 17;refine(aI _ _ _ _).mono ?_;rintro e' w' ⟨rfl,rfl⟩)
        |(go_at_call 51;refine(bD _ _ _ _ _).mono ?_;rintro e w' ⟨rfl,hb⟩;obtain⟨hc,hf,hs⟩:=aC hb;(try have hz0:=zA hb w.heap.size);(try have hz1:=zA hb (w.heap.size+1))))
       go_ret
       exact⟨aG (ab hq).symm,(bx)⟩
    ·cases tm
     ·by_cases tp:0<td
      ·have hq:Hid (aY l mark ky st en an asu ale amo fn fsu fle fmo td false=false):=ae (by simp[cd,c0,c2,c4,c6,c3,c5,c7,ov,tp])
       go_enter Try.func35,Try.ntmps35
       go_wp2_with (first
        |(go_at_call 29;refine(aO _ _ _ _ _ _ _ _ _ _ _ _ _ _).mono ?_;rintro e w' ⟨rfl,hb⟩;obtain⟨hc,hf,hs⟩:=aC hb;(try have hz0:=zA hb w.heap.size);(try have hz1:=zA hb (w.heap.size+1)))
        |(go_at_call 50;refine(bk _ _ _ _).mono ?_;rintro e w' ⟨rfl,hb⟩;obtain⟨hc,hf,hs⟩:=aC hb;(try have hz0:=zA hb w.heap.size);(try have hz1:=zA hb (w.heap.size+1)))
        |(go_at_call 17;refine(aI _ _ _ _).mono ?_;rintro e' w' ⟨rfl,rfl⟩)
        |(go_at_call 51;refine(bD _ _ _ _ _).mono ?_;rintro e w' ⟨rfl,hb⟩;obtain⟨hc,hf,hs⟩:=aC hb;(try have hz0:=zA hb w.heap.size);(try have hz1:=zA hb (w.heap.size+1))))
       go_ret
       exact⟨aG (ab hq).symm,(bx)⟩
      ·cases fz:(fn==0)
       ·have hq:Hid (aY l mark ky st en an asu ale amo fn fsu fle fmo td false=true):=ae (by simp[cd,c0,c2,c4,c6,c3,c5,c7,ov,tp,fz])
        go_enter Try.func35,Try.ntmps35
        go_wp2_with (first
         |(go_at_call 29;refine(aO _ _ _ _ _ _ _ _ _ _ _ _ _ _).mono ?_;rintro e w' ⟨rfl,hb⟩;obtain⟨hc,hf,hs⟩:=aC hb;(try have hz0:=zA hb w.heap.size);(try have hz1:=zA hb (w.heap.size+1)))
         |(go_at_call 50;refine(bk _ _ _ _).mono ?_;rintro e w' ⟨rfl,hb⟩;obtain⟨hc,hf,hs⟩:=aC hb;(try have hz0:=zA hb w.heap.size);(try have hz1:=zA hb (w.heap.size+1)))
         |(go_at_call 17;refine(aI _ _ _ _).mono ?_;rintro e' w' ⟨rfl,rfl⟩)
         |(go_at_call 51;refine(bD _ _ _ _ _).mono ?_;rintro e w' ⟨rfl,hb⟩;obtain⟨hc,hf,hs⟩:=aC hb;(try have hz0:=zA hb w.heap.size);(try have hz1:=zA hb (w.heap.size+1))))
        go_ret
        exact⟨aG (by first|exact(ab hq).symm|(rw[ab hq];simp[ov])),(bx)⟩
       ·have hq:Hid (aY l mark ky st en an asu ale amo fn fsu fle fmo td false=false):=ae (by simp[cd,c0,c2,c4,c6,c3,c5,c7,ov,tp,fz])
        go_enter Try.func35,Try.ntmps35
        go_wp2_with (first
         |(go_at_call 29;refine(aO _ _ _ _ _ _ _ _ _ _ _ _ _ _).mono ?_;rintro e w' ⟨rfl,hb⟩;obtain⟨hc,hf,hs⟩:=aC hb;(try have hz0:=zA hb w.heap.size);(try have hz1:=zA hb (w.heap.size+1)))
         |(go_at_call 50;refine(bk _ _ _ _).mono ?_;rintro e w' ⟨rfl,hb⟩;obtain⟨hc,hf,hs⟩:=aC hb;(try have hz0:=zA hb w.heap.size);(try have hz1:=zA hb (w.heap.size+1)))
         |(go_at_call 17;refine(aI _ _ _ _).mono ?_;rintro e' w' ⟨rfl,rfl⟩)
         |(go_at_call 51;refine(bD _ _ _ _ _).mono ?_;rintro e w' ⟨rfl,hb⟩;obtain⟨hc,hf,hs⟩:=aC hb;(try have hz0:=zA hb w.heap.size);(try have hz1:=zA hb (w.heap.size+1))))
        go_ret
        exact⟨aG (ab hq).symm,(bx)⟩
     ·have hq:Hid (aY l mark ky st en an asu ale amo fn fsu fle fmo td true=false):=ae (by simp[cd,c0,c2,c4,c6,c3,c5,c7,ov])
      go_enter Try.func35,Try.ntmps35
      go_wp2_with (first
       |(go_at_call 29;refine(aO _ _ _ _ _ _ _ _ _ _ _ _ _ _).mono ?_;rintro e w' ⟨rfl,hb⟩;obtain⟨hc,hf,hs⟩:=aC hb;(try have hz0:=zA hb w.heap.size);(try have hz1:=zA hb (w.heap.size+1)))
       |(go_at_call 50;refine(bk _ _ _ _).mono ?_;rintro e w' ⟨rfl,hb⟩;obtain⟨hc,hf,hs⟩:=aC hb;(try have hz0:=zA hb w.heap.size);(try have hz1:=zA hb (w.heap.size+1)))
       |(go_at_call 17;refine(aI _ _ _ _).mono ?_;rintro e' w' ⟨rfl,rfl⟩)
       |(go_at_call 51;refine(bD _ _ _ _ _).mono ?_;rintro e w' ⟨rfl,hb⟩;obtain⟨hc,hf,hs⟩:=aC hb;(try have hz0:=zA hb w.heap.size);(try have hz1:=zA hb (w.heap.size+1))))
      go_ret
      exact⟨aG (ab hq).symm,(bx)⟩
   ·have hq:Hid (aY l mark ky st en an asu ale amo fn fsu fle fmo td tm=false):=ae (by simp[cd,c0,c2,c4,c6,c3,c5,c7])
    go_enter Try.func35,Try.ntmps35
    go_wp2_with (first
     |(go_at_call 29;refine(aO _ _ _ _ _ _ _ _ _ _ _ _ _ _).mono ?_;rintro e w' ⟨rfl,hb⟩;obtain⟨hc,hf,hs⟩:=aC hb;(try have hz0:=zA hb w.heap.size);(try have hz1:=zA hb (w.heap.size+1)))
     |(go_at_call 50;refine(bk _ _ _ _).mono ?_;rintro e w' ⟨rfl,hb⟩;obtain⟨hc,hf,hs⟩:=aC hb;(try have hz0:=zA hb w.heap.size);(try have hz1:=zA hb (w.heap.size+1)))
     |(go_at_call 17;refine(aI _ _ _ _).mono ?_;rintro e' w' ⟨rfl,rfl⟩)
     |(go_at_call 51;refine(bD _ _ _ _ _).mono ?_;rintro e w' ⟨rfl,hb⟩;obtain⟨hc,hf,hs⟩:=aC hb;(try have hz0:=zA hb w.heap.size);(try have hz1:=zA hb (w.heap.size+1))))
    go_ret
    exact⟨aG (ab hq).symm,(bx)⟩
  ·have hq:Hid (aY l mark ky st en an asu ale amo fn fsu fle fmo td tm=false):=ae (by simp[cd,c0,c2,c4,c6,c3,c5])
   go_enter Try.func35,Try.ntmps35
   go_wp2_with (first
    |(go_at_call 29;refine(aO _ _ _ _ _ _ _ _ _ _ _ _ _ _).mono ?_;rintro e w' ⟨rfl,hb⟩;obtain⟨hc,hf,hs⟩:=aC hb;(try have hz0:=zA hb w.heap.size);(try have hz1:=zA hb (w.heap.size+1)))
    |(go_at_call 50;refine(bk _ _ _ _).mono ?_;rintro e w' ⟨rfl,hb⟩;obtain⟨hc,hf,hs⟩:=aC hb;(try have hz0:=zA hb w.heap.size);(try have hz1:=zA hb (w.heap.size+1)))
    |(go_at_call 17;refine(aI _ _ _ _).mono ?_;rintro e' w' ⟨rfl,rfl⟩)
    |(go_at_call 51;refine(bD _ _ _ _ _).mono ?_;rintro e w' ⟨rfl,hb⟩;obtain⟨hc,hf,hs⟩:=aC hb;(try have hz0:=zA hb w.heap.size);(try have hz1:=zA hb (w.heap.size+1))))
   go_ret
   exact⟨aG (ab hq).symm,(bx)⟩
 ·have hq:Hid (aY l mark ky st en an asu ale amo fn fsu fle fmo td tm=false):=ae (by simp[cd,c0,c2,c4,c6,c3])
  go_enter Try.func35,Try.ntmps35
  go_wp2_with (first
   |(go_at_call 29;refine(aO _ _ _ _ _ _ _ _ _ _ _ _ _ _).mono ?_;rintro e w' ⟨rfl,hb⟩;obtain⟨hc,hf,hs⟩:=aC hb;(try have hz0:=zA hb w.heap.size);(try have hz1:=zA hb (w.heap.size+1)))
   |(go_at_call 50;refine(bk _ _ _ _).mono ?_;rintro e w' ⟨rfl,hb⟩;obtain⟨hc,hf,hs⟩:=aC hb;(try have hz0:=zA hb w.heap.size);(try have hz1:=zA hb (w.heap.size+1)))
   |(go_at_call 17;refine(aI _ _ _ _).mono ?_;rintro e' w' ⟨rfl,rfl⟩)
   |(go_at_call 51;refine(bD _ _ _ _ _).mono ?_;rintro e w' ⟨rfl,hb⟩;obtain⟨hc,hf,hs⟩:=aC hb;(try have hz0:=zA hb w.heap.size);(try have hz1:=zA hb (w.heap.size+1))))
  go_ret
  exact⟨aG (ab hq).symm,(bx)⟩
/-- Whether two windows touch. -/
def bh(a b c d:Int):Bool:=decide (a<d)&&decide (c<b)
theorem b6(a b c d:Int)(w:World):Calls Try.prog 52 #[.agg #[.int .i64 a,.int .i64 b],.agg #[.int .i64 c,.int .i64 d]] w fun e w'=>e= .returned (.bool (bh a b c d))∧Below w.heap.size w w':=by
 by_cases h1:a<d
 ·by_cases h2:c<b
  ·have h3:Hid (bh a b c d=true):=ae (by simp only[bh];simp[h1,h2])
   go_enter Try.func52,Try.ntmps52
   go_wp2
   go_ret
   exact⟨aG (ab h3).symm,af (ax _ _) _⟩
  ·have h3:Hid (bh a b c d=false):=ae (by simp only[bh];simp[h1,h2])
   go_enter Try.func52,Try.ntmps52
   go_wp2
   go_ret
   exact⟨aG (ab h3).symm,af (ax _ _) _⟩
 ·have h3:Hid (bh a b c d=false):=ae (by simp only[bh];simp[h1])
  go_enter Try.func52,Try.ntmps52
  go_wp2
  go_ret
  exact⟨aG (ab h3).symm,af (ax _ _) _⟩
theorem dg(a b c d:Int)(w:World):Calls Try.prog 27 #[.agg #[.int .i64 a,.int .i64 b],.agg #[.int .i64 c,.int .i64 d]] w fun e w'=>e= .returned (.bool (bh a b c d))∧Below w.heap.size w w':=by
 by_cases h1:a<d
 ·by_cases h2:c<b
  ·have h3:Hid (bh a b c d=true):=ae (by simp only[bh];simp[h1,h2])
   go_enter Try.func27,Try.ntmps27
   go_wp2
   go_ret
   exact⟨aG (ab h3).symm,af (ax _ _) _⟩
  ·have h3:Hid (bh a b c d=false):=ae (by simp only[bh];simp[h1,h2])
   go_enter Try.func27,Try.ntmps27
   go_wp2
   go_ret
   exact⟨aG (ab h3).symm,af (ax _ _) _⟩
 ·have h3:Hid (bh a b c d=false):=ae (by simp only[bh];simp[h1])
  go_enter Try.func27,Try.ntmps27
  go_wp2
  go_ret
  exact⟨aG (ab h3).symm,af (ax _ _) _⟩
theorem gx{a b c d:Int}(h:a=c)(k:b=d):Ending.returned (.agg #[.int .i64 a,.int .i64 b])= .returned (.agg #[.int .i64 c,.int .i64 d]):=by rw[h,k]
theorem ko(a b c d:Int)(w:World):Calls Try.prog 77 #[.agg #[.int .i64 a,.int .i64 b],.agg #[.int .i64 c,.int .i64 d]] w fun e w'=>e= .returned (.agg #[.int .i64 (loI a c),.int .i64 (jE b d)])∧Below w.heap.size w w':=by
 by_cases h1:c<a<;>by_cases h2:b<d
 ·have h3:=ae (loI_c h1)
  have h4:=ae (hiI_d h2)
  go_enter Try.func77,Try.ntmps77
  go_wp2
  refine bodyPost_ret (v:= .agg #[.int .i64 c,.int .i64 d]) (mN) rfl ⟨gx (ab h3).symm (ab h4).symm,?_⟩
  exact(bu)
 ·have h3:=ae (loI_c h1)
  have h4:=ae (hiI_b h2)
  go_enter Try.func77,Try.ntmps77
  go_wp2
  refine bodyPost_ret (v:= .agg #[.int .i64 c,.int .i64 b]) (mN) rfl ⟨gx (ab h3).symm (ab h4).symm,?_⟩
  exact(bu)
 ·have h3:=ae (loI_a h1)
  have h4:=ae (hiI_d h2)
  go_enter Try.func77,Try.ntmps77
  go_wp2
  refine bodyPost_ret (v:= .agg #[.int .i64 a,.int .i64 d]) (mN) rfl ⟨gx (ab h3).symm (ab h4).symm,?_⟩
  exact(bu)
 ·have h3:=ae (loI_a h1)
  have h4:=ae (hiI_b h2)
  go_enter Try.func77,Try.ntmps77
  go_wp2
  refine bodyPost_ret (v:= .agg #[.int .i64 a,.int .i64 b]) (mN) rfl ⟨gx (ab h3).symm (ab h4).symm,?_⟩
  exact(bu)
theorem kt{a b:Bool}(h:b=a):Ending.returned (.bool a)= .returned (.bool b):=by rw[h]
/-- Whether a window of a key is ahead of another one. -/
def cy(ky st en ky' st' en':Int):Bool:=decide (fi ky st en ky' st' en'<0)
theorem jL{ky st en ky' st' en':Int}(h:¬ ky=ky'):cy ky st en ky' st' en'=decide (ky<ky'):=by
 unfold cy fi orI eN
 by_cases h1:ky<ky'
 ·simp[h1]
 ·have h2:ky'<ky:=by omega
  simp[h1,h2]
theorem jM{ky st en st' en':Int}(h2:¬ st=st'):cy ky st en ky st' en'=decide (st<st'):=by
 unfold cy fi orI eN
 by_cases h1:st<st'
 ·simp[h1]
 ·have h3:st'<st:=by omega
  simp[h1,h3]
theorem jN{ky st en en':Int}:cy ky st en ky st en'=decide (en<en'):=by
 unfold cy fi orI eN
 by_cases h1:en<en'
 ·simp[h1]
 ·by_cases h3:en'<en
  ·simp[h1,h3]
  ·simp[h1,h3]
/-- Whether a window is ahead of another one. -/
def lessW(st en st' en':Int):Bool:=if st=st' then decide (en<en')else decide (st<st')
theorem l2less_any(st en st' en':Int)(w:World):Calls Try.prog 43 #[.agg #[.int .i64 st,.int .i64 en],.agg #[.int .i64 st',.int .i64 en']] w fun e w'=>e= .returned (.bool (lessW st en st' en'))∧Below w.heap.size w w':=by
 by_cases h:st=st'
 ·have hq:lessW st en st' en'=decide (en<en'):=if_pos h
  have HQ:=ae hq
  have h':(st==st')=true:=by simpa using h
  clear hq
  go_enter Try.func43,Try.ntmps43
  go_wp2
  go_ret
  exact⟨kt (ab HQ),(dU)⟩
 ·have hq:lessW st en st' en'=decide (st<st'):=if_neg h
  have HQ:=ae hq
  have h':(st==st')=false:=by simpa using h
  clear hq
  go_enter Try.func43,Try.ntmps43
  go_wp2
  go_ret
  exact⟨kt (ab HQ),(dU)⟩
theorem ahead_kP{ky st en st' en':Int}:lessW st en st' en'=cy ky st en ky st' en':=by
 unfold lessW
 by_cases h2:st=st'
 ·subst h2;rw[if_pos rfl,jN]
 ·rw[if_neg h2,jM h2]
theorem dA(ky st en ky' st' en':Int)(w:World):Calls Try.prog 26 #[.int .i64 ky,.agg #[.int .i64 st,.int .i64 en],.int .i64 ky',.agg #[.int .i64 st',.int .i64 en']] w fun e w'=>e= .returned (.bool (cy ky st en ky' st' en'))∧Below w.heap.size w w':=by
 by_cases h:ky=ky'
 ·subst h
  have HQ:=ae (ahead_kP (ky:=ky) (st:=st) (en:=en) (st':=st') (en':=en')).symm
  go_enter Try.func26,Try.ntmps26
  go_wp2_with (go_at_call 43;refine(l2less_any _ _ _ _ _).mono ?_;rintro e w' ⟨rfl,hb⟩)
  go_ret
  exact⟨kt (ab HQ),(dU)⟩
 ·have HQ:=ae (jL (st:=st) (en:=en) (st':=st') (en':=en') h)
  have h':(ky==ky')=false:=by simpa using h
  go_enter Try.func26,Try.ntmps26
  go_wp2
  go_ret
  exact⟨kt (ab HQ),(dU)⟩
/-- Whether a row may stand behind another one. -/
def dP(kd ky st en ky' st' en':Int):Bool:= !(kd==3&&(ky==ky'&&bh st en st' en'))&&cy ky' st' en' ky st en
set_option maxRecDepth 20000 in
set_option maxHeartbeats 4000000 in
theorem iW(ky st en an asu ale amo fn fsu fle fmo td:Int)(tm:Bool)(ky' st' en' an' asu' ale' amo' fn' fsu' fle' fmo' td':Int)(tm':Bool)(kd:Int)(w:World):Calls Try.prog 36 #[.agg #[.int .i64 ky,.int .i64 st,.int .i64 en,.int .i64 an,.int .i64 asu,.int .i64 ale,.int .i64 amo,.int .i64 fn,.int .i64 fsu,.int .i64 fle,.int .i64 fmo,.int .i64 td,.bool tm],.agg #[.int .i64 ky',.int .i64 st',.int .i64 en',.int .i64 an',.int .i64 asu',.int .i64 ale',.int .i64 amo',.int .i64 fn',.int .i64 fsu',.int .i64 fle',.int .i64 fmo',.int .i64 td',.bool tm'],.int .i64 kd] w fun e' w'=>e'= .returned (.bool (dP kd ky st en ky' st' en'))∧Below w.heap.size w w':=by
 cases c0:(kd==3)
 ·have hq:Hid (dP kd ky st en ky' st' en'=decide (fi ky' st' en' ky st en<0)):=ae (by simp[dP,c0,cy])
  go_enter Try.func36,Try.ntmps36
  go_wp2_with (first
   |(go_at_call 52;refine(b6 _ _ _ _ _).mono ?_;rintro e w' ⟨rfl,hb⟩;obtain⟨hc,hf,hs⟩:=aC hb;(try have hz0:=zA hb w.heap.size);(try have hz1:=zA hb (w.heap.size+1)))
   |(go_at_call 29;refine(aO _ _ _ _ _ _ _ _ _ _ _ _ _ _).mono ?_;rintro e w' ⟨rfl,hb⟩;obtain⟨hc,hf,hs⟩:=aC hb;(try have hz0:=zA hb w.heap.size);(try have hz1:=zA hb (w.heap.size+1)))
   |(go_at_call 53;refine(b5 _ _ _ _ _ _ _).mono ?_;rintro e w' ⟨rfl,hb⟩;obtain⟨hc,hf,hs⟩:=aC hb;(try have hz0:=zA hb w.heap.size);(try have hz1:=zA hb (w.heap.size+1))))
  go_region_held3 (fun W=>((W.cell? ⟨w.heap.size,0,none⟩=some (.int .i64 ky)∧W.cell? ⟨w.heap.size,1,none⟩=some (.int .i64 st)∧W.cell? ⟨w.heap.size,2,none⟩=some (.int .i64 en)∧W.cell? ⟨w.heap.size,3,none⟩=some (.int .i64 an)∧W.cell? ⟨w.heap.size,4,none⟩=some (.int .i64 asu)∧W.cell? ⟨w.heap.size,5,none⟩=some (.int .i64 ale)∧W.cell? ⟨w.heap.size,6,none⟩=some (.int .i64 amo)∧W.cell? ⟨w.heap.size,7,none⟩=some (.int .i64 fn)∧W.cell? ⟨w.heap.size,8,none⟩=some (.int .i64 fsu)∧W.cell? ⟨w.heap.size,9,none⟩=some (.int .i64 fle)∧W.cell? ⟨w.heap.size,10,none⟩=some (.int .i64 fmo)∧W.cell? ⟨w.heap.size,11,none⟩=some (.int .i64 td)∧W.cell? ⟨w.heap.size,12,none⟩=some (.bool tm)∧W.cell? ⟨w.heap.size+1,0,none⟩=some (.int .i64 ky')∧W.cell? ⟨w.heap.size+1,1,none⟩=some (.int .i64 st')∧W.cell? ⟨w.heap.size+1,2,none⟩=some (.int .i64 en')∧W.cell? ⟨w.heap.size+1,3,none⟩=some (.int .i64 an')∧W.cell? ⟨w.heap.size+1,4,none⟩=some (.int .i64 asu')∧W.cell? ⟨w.heap.size+1,5,none⟩=some (.int .i64 ale')∧W.cell? ⟨w.heap.size+1,6,none⟩=some (.int .i64 amo')∧W.cell? ⟨w.heap.size+1,7,none⟩=some (.int .i64 fn')∧W.cell? ⟨w.heap.size+1,8,none⟩=some (.int .i64 fsu')∧W.cell? ⟨w.heap.size+1,9,none⟩=some (.int .i64 fle')∧W.cell? ⟨w.heap.size+1,10,none⟩=some (.int .i64 fmo')∧W.cell? ⟨w.heap.size+1,11,none⟩=some (.int .i64 td')∧W.cell? ⟨w.heap.size+1,12,none⟩=some (.bool tm'))∧w.heap.size<W.heap.size∧w.heap.size+1<W.heap.size)) ((first|((repeat(first|(with_reducible assumption)|(with_reducible refine dy ?_ (mU))|(with_reducible refine dy ?_ (aq (Below.refl _ _)))|(with_reducible exact fB (mU) (sB) (sB))|(with_reducible refine dy ?_ (ax _ _))|(with_reducible refine eO ?_ (sB) (sB) _)));done)|(refine⟨⟨?_,?_,?_,?_,?_,?_,?_,?_,?_,?_,?_,?_,?_,?_,?_,?_,?_,?_,?_,?_,?_,?_,?_,?_,?_,?_⟩,?_,?_⟩<;>first|(go_keep;done)|(simp;done)|(simp;omega)|omega)))
   (first
   |(go_at_call 52;refine(b6 _ _ _ _ _).mono ?_;rintro e w' ⟨rfl,hb⟩;obtain⟨hc,hf,hs⟩:=aC hb)
   |(go_at_call 29;refine(aO _ _ _ _ _ _ _ _ _ _ _ _ _ _).mono ?_;rintro e w' ⟨rfl,hb⟩;obtain⟨hc,hf,hs⟩:=aC hb)
   |(go_at_call 53;refine(b5 _ _ _ _ _ _ _).mono ?_;rintro e w' ⟨rfl,hb⟩;obtain⟨hc,hf,hs⟩:=aC hb))
  all_goals
   go_wp2_with (first
    |(go_at_call 52;refine(b6 _ _ _ _ _).mono ?_;rintro e w' ⟨rfl,hb⟩;obtain⟨hc,hf,hs⟩:=aC hb;(try have hz0:=zA hb w.heap.size);(try have hz1:=zA hb (w.heap.size+1)))
    |(go_at_call 29;refine(aO _ _ _ _ _ _ _ _ _ _ _ _ _ _).mono ?_;rintro e w' ⟨rfl,hb⟩;obtain⟨hc,hf,hs⟩:=aC hb;(try have hz0:=zA hb w.heap.size);(try have hz1:=zA hb (w.heap.size+1)))
    |(go_at_call 53;refine(b5 _ _ _ _ _ _ _).mono ?_;rintro e w' ⟨rfl,hb⟩;obtain⟨hc,hf,hs⟩:=aC hb;(try have hz0:=zA hb w.heap.size);(try have hz1:=zA hb (w.heap.size+1))))
   go_ret
   exact⟨aG (ab hq).symm,(bx)⟩
 ·cases c1:(ky==ky')
  ·have hq:Hid (dP kd ky st en ky' st' en'=decide (fi ky' st' en' ky st en<0)):=ae (by simp[dP,c1,cy])
   go_enter Try.func36,Try.ntmps36
   go_wp2_with (first
    |(go_at_call 52;refine(b6 _ _ _ _ _).mono ?_;rintro e w' ⟨rfl,hb⟩;obtain⟨hc,hf,hs⟩:=aC hb;(try have hz0:=zA hb w.heap.size);(try have hz1:=zA hb (w.heap.size+1)))
    |(go_at_call 29;refine(aO _ _ _ _ _ _ _ _ _ _ _ _ _ _).mono ?_;rintro e w' ⟨rfl,hb⟩;obtain⟨hc,hf,hs⟩:=aC hb;(try have hz0:=zA hb w.heap.size);(try have hz1:=zA hb (w.heap.size+1)))
    |(go_at_call 53;refine(b5 _ _ _ _ _ _ _).mono ?_;rintro e w' ⟨rfl,hb⟩;obtain⟨hc,hf,hs⟩:=aC hb;(try have hz0:=zA hb w.heap.size);(try have hz1:=zA hb (w.heap.size+1))))
   go_region_held3 (fun W=>((W.cell? ⟨w.heap.size,0,none⟩=some (.int .i64 ky)∧W.cell? ⟨w.heap.size,1,none⟩=some (.int .i64 st)∧W.cell? ⟨w.heap.size,2,none⟩=some (.int .i64 en)∧W.cell? ⟨w.heap.size,3,none⟩=some (.int .i64 an)∧W.cell? ⟨w.heap.size,4,none⟩=some (.int .i64 asu)∧W.cell? ⟨w.heap.size,5,none⟩=some (.int .i64 ale)∧W.cell? ⟨w.heap.size,6,none⟩=some (.int .i64 amo)∧W.cell? ⟨w.heap.size,7,none⟩=some (.int .i64 fn)∧W.cell? ⟨w.heap.size,8,none⟩=some (.int .i64 fsu)∧W.cell? ⟨w.heap.size,9,none⟩=some (.int .i64 fle)∧W.cell? ⟨w.heap.size,10,none⟩=some (.int .i64 fmo)∧W.cell? ⟨w.heap.size,11,none⟩=some (.int .i64 td)∧W.cell? ⟨w.heap.size,12,none⟩=some (.bool tm)∧W.cell? ⟨w.heap.size+1,0,none⟩=some (.int .i64 ky')∧W.cell? ⟨w.heap.size+1,1,none⟩=some (.int .i64 st')∧W.cell? ⟨w.heap.size+1,2,none⟩=some (.int .i64 en')∧W.cell? ⟨w.heap.size+1,3,none⟩=some (.int .i64 an')∧W.cell? ⟨w.heap.size+1,4,none⟩=some (.int .i64 asu')∧W.cell? ⟨w.heap.size+1,5,none⟩=some (.int .i64 ale')∧W.cell? ⟨w.heap.size+1,6,none⟩=some (.int .i64 amo')∧W.cell? ⟨w.heap.size+1,7,none⟩=some (.int .i64 fn')∧W.cell? ⟨w.heap.size+1,8,none⟩=some (.int .i64 fsu')∧W.cell? ⟨w.heap.size+1,9,none⟩=some (.int .i64 fle')∧W.cell? ⟨w.heap.size+1,10,none⟩=some (.int .i64 fmo')∧W.cell? ⟨w.heap.size+1,11,none⟩=some (.int .i64 td')∧W.cell? ⟨w.heap.size+1,12,none⟩=some (.bool tm'))∧w.heap.size<W.heap.size∧w.heap.size+1<W.heap.size)) ((first|((repeat(first|(with_reducible assumption)|(with_reducible refine dy ?_ (mU))|(with_reducible refine dy ?_ (aq (Below.refl _ _)))|(with_reducible exact fB (mU) (sB) (sB))|(with_reducible refine dy ?_ (ax _ _))|(with_reducible refine eO ?_ (sB) (sB) _)));done)|(refine⟨⟨?_,?_,?_,?_,?_,?_,?_,?_,?_,?_,?_,?_,?_,?_,?_,?_,?_,?_,?_,?_,?_,?_,?_,?_,?_,?_⟩,?_,?_⟩<;>first|(go_keep;done)|(simp;done)|(simp;omega)|omega)))
    (first
    |(go_at_call 52;refine(b6 _ _ _ _ _).mono ?_;rintro e w' ⟨rfl,hb⟩;obtain⟨hc,hf,hs⟩:=aC hb)
    |(go_at_call 29;refine(aO _ _ _ _ _ _ _ _ _ _ _ _ _ _).mono ?_;rintro e w' ⟨rfl,hb⟩;obtain⟨hc,hf,hs⟩:=aC hb)
    |(go_at_call 53;refine(b5 _ _ _ _ _ _ _).mono ?_;rintro e w' ⟨rfl,hb⟩;obtain⟨hc,hf,hs⟩:=aC hb))
   all_goals
    go_wp2_with (first
     |(go_at_call 52;refine(b6 _ _ _ _ _).mono ?_;rintro e w' ⟨rfl,hb⟩;obtain⟨hc,hf,hs⟩:=aC hb;(try have hz0:=zA hb w.heap.size);(try have hz1:=zA hb (w.heap.size+1)))
     |(go_at_call 29;refine(aO _ _ _ _ _ _ _ _ _ _ _ _ _ _).mono ?_;rintro e w' ⟨rfl,hb⟩;obtain⟨hc,hf,hs⟩:=aC hb;(try have hz0:=zA hb w.heap.size);(try have hz1:=zA hb (w.heap.size+1)))
     |(go_at_call 53;refine(b5 _ _ _ _ _ _ _).mono ?_;rintro e w' ⟨rfl,hb⟩;obtain⟨hc,hf,hs⟩:=aC hb;(try have hz0:=zA hb w.heap.size);(try have hz1:=zA hb (w.heap.size+1))))
    go_ret
    exact⟨aG (ab hq).symm,(bx)⟩
  ·cases c2:bh st en st' en'
   ·have hq:Hid (dP kd ky st en ky' st' en'=decide (fi ky' st' en' ky st en<0)):=ae (by simp[dP,c2,cy])
    go_enter Try.func36,Try.ntmps36
    go_wp2_with (first
     |(go_at_call 52;refine(b6 _ _ _ _ _).mono ?_;rintro e w' ⟨rfl,hb⟩;obtain⟨hc,hf,hs⟩:=aC hb;(try have hz0:=zA hb w.heap.size);(try have hz1:=zA hb (w.heap.size+1)))
     |(go_at_call 29;refine(aO _ _ _ _ _ _ _ _ _ _ _ _ _ _).mono ?_;rintro e w' ⟨rfl,hb⟩;obtain⟨hc,hf,hs⟩:=aC hb;(try have hz0:=zA hb w.heap.size);(try have hz1:=zA hb (w.heap.size+1)))
     |(go_at_call 53;refine(b5 _ _ _ _ _ _ _).mono ?_;rintro e w' ⟨rfl,hb⟩;obtain⟨hc,hf,hs⟩:=aC hb;(try have hz0:=zA hb w.heap.size);(try have hz1:=zA hb (w.heap.size+1))))
    have hS:((w'.cell? ⟨w.heap.size,0,none⟩=some (.int .i64 ky)∧w'.cell? ⟨w.heap.size,1,none⟩=some (.int .i64 st)∧w'.cell? ⟨w.heap.size,2,none⟩=some (.int .i64 en)∧w'.cell? ⟨w.heap.size,3,none⟩=some (.int .i64 an)∧w'.cell? ⟨w.heap.size,4,none⟩=some (.int .i64 asu)∧w'.cell? ⟨w.heap.size,5,none⟩=some (.int .i64 ale)∧w'.cell? ⟨w.heap.size,6,none⟩=some (.int .i64 amo)∧w'.cell? ⟨w.heap.size,7,none⟩=some (.int .i64 fn)∧w'.cell? ⟨w.heap.size,8,none⟩=some (.int .i64 fsu)∧w'.cell? ⟨w.heap.size,9,none⟩=some (.int .i64 fle)∧w'.cell? ⟨w.heap.size,10,none⟩=some (.int .i64 fmo)∧w'.cell? ⟨w.heap.size,11,none⟩=some (.int .i64 td)∧w'.cell? ⟨w.heap.size,12,none⟩=some (.bool tm)∧w'.cell? ⟨w.heap.size+1,0,none⟩=some (.int .i64 ky')∧w'.cell? ⟨w.heap.size+1,1,none⟩=some (.int .i64 st')∧w'.cell? ⟨w.heap.size+1,2,none⟩=some (.int .i64 en')∧w'.cell? ⟨w.heap.size+1,3,none⟩=some (.int .i64 an')∧w'.cell? ⟨w.heap.size+1,4,none⟩=some (.int .i64 asu')∧w'.cell? ⟨w.heap.size+1,5,none⟩=some (.int .i64 ale')∧w'.cell? ⟨w.heap.size+1,6,none⟩=some (.int .i64 amo')∧w'.cell? ⟨w.heap.size+1,7,none⟩=some (.int .i64 fn')∧w'.cell? ⟨w.heap.size+1,8,none⟩=some (.int .i64 fsu')∧w'.cell? ⟨w.heap.size+1,9,none⟩=some (.int .i64 fle')∧w'.cell? ⟨w.heap.size+1,10,none⟩=some (.int .i64 fmo')∧w'.cell? ⟨w.heap.size+1,11,none⟩=some (.int .i64 td')∧w'.cell? ⟨w.heap.size+1,12,none⟩=some (.bool tm'))∧w.heap.size<w'.heap.size∧w.heap.size+1<w'.heap.size):=⟨⟨(hb.cell (p:=⟨w.heap.size,0,none⟩) (nf)).trans (ne),(hb.cell (p:=⟨w.heap.size,1,none⟩) (nf)).trans (ne),(hb.cell (p:=⟨w.heap.size,2,none⟩) (nf)).trans (ne),(hb.cell (p:=⟨w.heap.size,3,none⟩) (nf)).trans (ne),(hb.cell (p:=⟨w.heap.size,4,none⟩) (nf)).trans (ne),(hb.cell (p:=⟨w.heap.size,5,none⟩) (nf)).trans (ne),(hb.cell (p:=⟨w.heap.size,6,none⟩) (nf)).trans (ne),(hb.cell (p:=⟨w.heap.size,7,none⟩) (nf)).trans (ne),(hb.cell (p:=⟨w.heap.size,8,none⟩) (nf)).trans (ne),(hb.cell (p:=⟨w.heap.size,9,none⟩) (nf)).trans (ne),(hb.cell (p:=⟨w.heap.size,10,none⟩) (nf)).trans (ne),(hb.cell (p:=⟨w.heap.size,11,none⟩) (nf)).trans (ne),(hb.cell (p:=⟨w.heap.size,12,none⟩) (nf)).trans (ne),(hb.cell (p:=⟨w.heap.size+1,0,none⟩) (nf)).trans (ne),(hb.cell (p:=⟨w.heap.size+1,1,none⟩) (nf)).trans (ne),(hb.cell (p:=⟨w.heap.size+1,2,none⟩) (nf)).trans (ne),(hb.cell (p:=⟨w.heap.size+1,3,none⟩) (nf)).trans (ne),(hb.cell (p:=⟨w.heap.size+1,4,none⟩) (nf)).trans (ne),(hb.cell (p:=⟨w.heap.size+1,5,none⟩) (nf)).trans (ne),(hb.cell (p:=⟨w.heap.size+1,6,none⟩) (nf)).trans (ne),(hb.cell (p:=⟨w.heap.size+1,7,none⟩) (nf)).trans (ne),(hb.cell (p:=⟨w.heap.size+1,8,none⟩) (nf)).trans (ne),(hb.cell (p:=⟨w.heap.size+1,9,none⟩) (nf)).trans (ne),(hb.cell (p:=⟨w.heap.size+1,10,none⟩) (nf)).trans (ne),(hb.cell (p:=⟨w.heap.size+1,11,none⟩) (nf)).trans (ne),(hb.cell (p:=⟨w.heap.size+1,12,none⟩) (nf)).trans (ne)⟩,by have h9:=hb.size;simp at h9;omega,by have h9:=hb.size;simp at h9;omega⟩
    go_region_held3 (fun W=>((W.cell? ⟨w.heap.size,0,none⟩=some (.int .i64 ky)∧W.cell? ⟨w.heap.size,1,none⟩=some (.int .i64 st)∧W.cell? ⟨w.heap.size,2,none⟩=some (.int .i64 en)∧W.cell? ⟨w.heap.size,3,none⟩=some (.int .i64 an)∧W.cell? ⟨w.heap.size,4,none⟩=some (.int .i64 asu)∧W.cell? ⟨w.heap.size,5,none⟩=some (.int .i64 ale)∧W.cell? ⟨w.heap.size,6,none⟩=some (.int .i64 amo)∧W.cell? ⟨w.heap.size,7,none⟩=some (.int .i64 fn)∧W.cell? ⟨w.heap.size,8,none⟩=some (.int .i64 fsu)∧W.cell? ⟨w.heap.size,9,none⟩=some (.int .i64 fle)∧W.cell? ⟨w.heap.size,10,none⟩=some (.int .i64 fmo)∧W.cell? ⟨w.heap.size,11,none⟩=some (.int .i64 td)∧W.cell? ⟨w.heap.size,12,none⟩=some (.bool tm)∧W.cell? ⟨w.heap.size+1,0,none⟩=some (.int .i64 ky')∧W.cell? ⟨w.heap.size+1,1,none⟩=some (.int .i64 st')∧W.cell? ⟨w.heap.size+1,2,none⟩=some (.int .i64 en')∧W.cell? ⟨w.heap.size+1,3,none⟩=some (.int .i64 an')∧W.cell? ⟨w.heap.size+1,4,none⟩=some (.int .i64 asu')∧W.cell? ⟨w.heap.size+1,5,none⟩=some (.int .i64 ale')∧W.cell? ⟨w.heap.size+1,6,none⟩=some (.int .i64 amo')∧W.cell? ⟨w.heap.size+1,7,none⟩=some (.int .i64 fn')∧W.cell? ⟨w.heap.size+1,8,none⟩=some (.int .i64 fsu')∧W.cell? ⟨w.heap.size+1,9,none⟩=some (.int .i64 fle')∧W.cell? ⟨w.heap.size+1,10,none⟩=some (.int .i64 fmo')∧W.cell? ⟨w.heap.size+1,11,none⟩=some (.int .i64 td')∧W.cell? ⟨w.heap.size+1,12,none⟩=some (.bool tm'))∧w.heap.size<W.heap.size∧w.heap.size+1<W.heap.size)) ((first|((repeat(first|(with_reducible assumption)|(with_reducible refine dy ?_ (mU))|(with_reducible refine dy ?_ (aq (Below.refl _ _)))|(with_reducible exact fB (mU) (sB) (sB))|(with_reducible refine dy ?_ (ax _ _))|(with_reducible refine eO ?_ (sB) (sB) _)));done)|(refine⟨⟨?_,?_,?_,?_,?_,?_,?_,?_,?_,?_,?_,?_,?_,?_,?_,?_,?_,?_,?_,?_,?_,?_,?_,?_,?_,?_⟩,?_,?_⟩<;>first|(go_keep;done)|(simp;done)|(simp;omega)|omega)))
     (first
     |(go_at_call 52;refine(b6 _ _ _ _ _).mono ?_;rintro e w' ⟨rfl,hb⟩;obtain⟨hc,hf,hs⟩:=aC hb)
     |(go_at_call 29;refine(aO _ _ _ _ _ _ _ _ _ _ _ _ _ _).mono ?_;rintro e w' ⟨rfl,hb⟩;obtain⟨hc,hf,hs⟩:=aC hb)
     |(go_at_call 53;refine(b5 _ _ _ _ _ _ _).mono ?_;rintro e w' ⟨rfl,hb⟩;obtain⟨hc,hf,hs⟩:=aC hb))
    all_goals
     go_wp2_with (first
      |(go_at_call 52;refine(b6 _ _ _ _ _).mono ?_;rintro e w' ⟨rfl,hb⟩;obtain⟨hc,hf,hs⟩:=aC hb;(try have hz0:=zA hb w.heap.size);(try have hz1:=zA hb (w.heap.size+1)))
      |(go_at_call 29;refine(aO _ _ _ _ _ _ _ _ _ _ _ _ _ _).mono ?_;rintro e w' ⟨rfl,hb⟩;obtain⟨hc,hf,hs⟩:=aC hb;(try have hz0:=zA hb w.heap.size);(try have hz1:=zA hb (w.heap.size+1)))
      |(go_at_call 53;refine(b5 _ _ _ _ _ _ _).mono ?_;rintro e w' ⟨rfl,hb⟩;obtain⟨hc,hf,hs⟩:=aC hb;(try have hz0:=zA hb w.heap.size);(try have hz1:=zA hb (w.heap.size+1))))
     go_ret
     exact⟨aG (ab hq).symm,(bx)⟩
   ·have hq:Hid (dP kd ky st en ky' st' en'=false):=ae (by simp[dP,c0,c1,c2])
    go_enter Try.func36,Try.ntmps36
    go_wp2_with (first
     |(go_at_call 52;refine(b6 _ _ _ _ _).mono ?_;rintro e w' ⟨rfl,hb⟩;obtain⟨hc,hf,hs⟩:=aC hb;(try have hz0:=zA hb w.heap.size);(try have hz1:=zA hb (w.heap.size+1)))
     |(go_at_call 29;refine(aO _ _ _ _ _ _ _ _ _ _ _ _ _ _).mono ?_;rintro e w' ⟨rfl,hb⟩;obtain⟨hc,hf,hs⟩:=aC hb;(try have hz0:=zA hb w.heap.size);(try have hz1:=zA hb (w.heap.size+1)))
     |(go_at_call 53;refine(b5 _ _ _ _ _ _ _).mono ?_;rintro e w' ⟨rfl,hb⟩;obtain⟨hc,hf,hs⟩:=aC hb;(try have hz0:=zA hb w.heap.size);(try have hz1:=zA hb (w.heap.size+1))))
    go_ret
    exact⟨aG (ab hq).symm,(bx)⟩
/-- A row is ok; it may stand behind another one; so far all rows are and do. -/
def aD.okB(l mark:Int)(x:aD):Bool:=aY l mark x.ky x.st x.en x.an x.asu x.ale x.amo x.fn x.fsu x.fle x.fmo x.td x.tm
def fk(kd:Int)(y x:aD):Bool:=dP kd x.ky x.st x.en y.ky y.st y.en
def fQ(kd l mark:Int)(xs:List aD)(i:Nat):Bool:=match xs[i]? with
 |none=>true
 |some x=>x.okB l mark&&match i with
  |0=>true
  |j+1=>match xs[j]? with
   |some y=>fk kd y x
   |none=>true
def et(kd l mark:Int)(xs:List aD)(n:Nat):Bool:=(List.range n).all (fQ kd l mark xs)
theorem dK(kd l mark:Int)(xs:List aD)(n:Nat):et kd l mark xs (n+1)=(et kd l mark xs n&&fQ kd l mark xs n):=by
 simp[et,List.range_succ]
theorem dQ{kd l mark:Int}{xs:List aD}{n i:Nat}(hi:i<n)(h:fQ kd l mark xs i=false):et kd l mark xs n=false:=by
 cases hc:et kd l mark xs n
 ·rfl
 ·have:=List.all_eq_true.1 hc i (List.mem_range.2 hi)
  rw[h]at this
  cases this
theorem iB{kd l mark:Int}{xs:List aD}{n i:Nat}(hc:et kd l mark xs n=true)(hi:i<n):fQ kd l mark xs i=true:=List.all_eq_true.1 hc i (List.mem_range.2 hi)
theorem okAt_z{kd l mark:Int}{xs:List aD}{x:aD}(hx:xs[0]? =some x):fQ kd l mark xs 0=x.okB l mark:=by simp[fQ,hx]
theorem okAt_s{kd l mark:Int}{xs:List aD}{j:Nat}{x y:aD}(hx:xs[j+1]? =some x)(hy:xs[j]? =some y):fQ kd l mark xs (j+1)=(x.okB l mark&&fk kd y x):=by simp[fQ,hx,hy]
theorem ku{kd l mark:Int}{xs:List aD}{i:Nat}{x:aD}(h0:i=0)(hx:xs[i]? =some x):fQ kd l mark xs i=x.okB l mark:=by subst h0;exact okAt_z hx
theorem gy{kd l mark:Int}{xs:List aD}{i j:Nat}{x y:aD}(he:i=j+1)(hx:xs[i]? =some x)(hy:xs[j]? =some y):fQ kd l mark xs i=(x.okB l mark&&fk kd y x):=by subst he;exact okAt_s hx hy
theorem gB{kd l mark:Int}{xs:List aD}{i:Nat}{x:aD}(hx:xs[i]? =some x)(h:x.okB l mark=false):fQ kd l mark xs i=false:=by simp[fQ,hx,h]
theorem kz{kd l mark:Int}{xs:List aD}{i:Nat}{x:aD}(hx:xs[i]? =some x)(h:fQ kd l mark xs i=true):x.okB l mark=true:=by
 simp only[fQ,hx,Bool.and_eq_true]at h
 exact h.1
theorem iC{l mark:Int}{x:aD}(h:x.okB l mark=true):0≤x.st∧x.st<x.en∧x.en≤120:=by
 simp only[aD.okB,aY,Bool.and_eq_true]at h
 exact iV h.1.1.1.1.1.1.1.1.1.2
theorem gk{ky st en ky' st' en':Int}:cy ky st en ky' st' en'=true↔(ky<ky'∨(ky=ky'∧(st<st'∨(st=st'∧en<en')))):=by
 by_cases h:ky=ky'
 ·subst h
  by_cases h2:st=st'
  ·subst h2
   rw[jN]
   simp
  ·rw[jM h2]
   simp
   omega
 ·rw[jL h]
  simp
  omega
theorem far_step{kd l mark:Int}{y x:aD}(hk:kd=3)(hx:x.okB l mark=true)(hy:y.okB l mark=true)(hn:fk kd y x=true):y.ky≤x.ky∧(y.ky=x.ky→y.en≤x.st):=by
 have h1:=iC hx
 have h2:=iC hy
 simp only[fk,dP,Bool.and_eq_true]at hn
 have h3:=gk.1 hn.2
 refine⟨by omega,fun e=>?_⟩
 have h4:=hn.1
 rw[hk,e]at h4
 have h5:bh x.st x.en y.st y.en=false:=by simpa using h4
 simp only[bh]at h5
 have h6:¬ (x.st<y.en∧y.st<x.en):=by
  intro hh
  simp[hh.1,hh.2]at h5
 omega
/-- Where no two neighbours touch no two at all do. -/
theorem okUp_far{kd l mark:Int}{xs:List aD}{n:Nat}(hk:kd=3)(h:et kd l mark xs n=true):∀i,i<n→∀k,k<i→∀x y,xs[i]? =some x→xs[k]? =some y→y.ky≤x.ky∧(y.ky=x.ky→y.en≤x.st):=by
 intro i
 induction i with
 |zero=>intro _ k hk;omega
 |succ i ih=>
  intro hi k hki x y hx hy
  have hil:i<xs.length:=by have:=(List.getElem?_eq_some_iff.1 hx).1;omega
  obtain⟨z,hz⟩:∃z,xs[i]? =some z:=⟨_,List.getElem?_eq_getElem hil⟩
  have a1:=iB h hi
  have a0:=iB h (Nat.lt_of_succ_lt hi)
  have hxb:=kz hx a1
  have hzb:=kz hz a0
  rw[okAt_s hx hz,Bool.and_eq_true]at a1
  have st:=far_step hk hxb hzb a1.2
  by_cases he:k=i
  ·subst he
   rw[hz]at hy
   cases hy
   exact st
  ·have st2:=ih (Nat.lt_of_succ_lt hi) k (by omega) z y hz hy
   have w1:=iC hzb
   refine⟨by omega,fun e=>?_⟩
   have e1:z.ky=x.ky:=by omega
   have e2:y.ky=z.ky:=by omega
   have:=st.2 e1
   have:=st2.2 e2
   omega
/-- A row that touches one ahead of it, however far, is not ok. -/
theorem iX{kd l mark:Int}{xs:List aD}{i k:Nat}{x y:aD}(hk:kd=3)(h:et kd l mark xs i=true)(hki:k<i)(hx:xs[i]? =some x)(hy:xs[k]? =some y)(e:y.ky=x.ky)(ht:bh y.st y.en x.st x.en=true):fQ kd l mark xs i=false:=by
 cases hc:fQ kd l mark xs i
 ·rfl
 ·have h1:et kd l mark xs (i+1)=true:=by rw[dK,h,hc];rfl
  have h2:=(okUp_far hk h1 i (by omega) k hki x y hx hy).2 e
  simp only[bh,Bool.and_eq_true,decide_eq_true_eq]at ht
  omega
/-- When an operator is ok. -/
def bT(s t k z p l e v r mark:Int)(xs:List aD):Bool:=aX s t k z p l e v r&&bz mark 0 1000&&decide (xs.length≤300)&&et k l mark xs xs.length
theorem iD{s t k z p l e v r:Int}(h:aX s t k z p l e v r=true):0≤l∧l≤20:=by
 simp only[aX,Bool.and_eq_true]at h
 exact bB.1 h.1.1.1.2
theorem okOp_j{s t k z p l e v r mark:Int}{xs:List aD}(h:aX s t k z p l e v r=false):bT s t k z p l e v r mark xs=false:=by simp[bT,h]
theorem okOp_m{s t k z p l e v r mark:Int}{xs:List aD}(h:bz mark 0 1000=false):bT s t k z p l e v r mark xs=false:=by simp[bT,h]
theorem okOp_n{s t k z p l e v r mark:Int}{xs:List aD}(h:¬ xs.length≤300):bT s t k z p l e v r mark xs=false:=by simp[bT,h]
theorem okOp_t{s t k z p l e v r mark:Int}{xs:List aD}(h1:aX s t k z p l e v r=true)(h2:bz mark 0 1000=true)(h3:xs.length≤300):bT s t k z p l e v r mark xs=et k l mark xs xs.length:=by simp[bT,h1,h2,h3]
theorem jO{W:World}(p:Addr)(v:Value):W.grownBy (W.setCell p v) (some p.block):=⟨rfl,rfl,rfl,by simp[World.setCell],fun k hk hne=>Below.heap_setCell W p v k (fun e=>hne (by rw[e]))⟩
theorem bw.set{W:World}{p:Addr}{v:Value}{a:Option Addr}{n:Nat}{xs:List aD}(h:bw W a n xs)(hp:∀g o,0<n→a=some ⟨g,o,none⟩→p.block<g):bw (W.setCell p v) a n xs:=h.grown (jO p v) (fun g o hn ha=>by have:=hp g o hn ha;simp;omega)
theorem jv.set{W:World}{p:Addr}{v:Value}{a:Option Addr}{n cap:Nat}(h:jv W a n cap)(hp:∀g o,0<n→a=some ⟨g,o,none⟩→p.block<g):jv (W.setCell p v) a n cap:=h.grown (jO p v) (fun g o hn ha=>by have:=hp g o hn ha;simp;omega)
end Go.Proofs.Ytdmhihcipkhecaa
