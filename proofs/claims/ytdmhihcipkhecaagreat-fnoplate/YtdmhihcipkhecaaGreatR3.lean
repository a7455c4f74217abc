/- Laid together: what the claim needs of the texts that were built one by one. -/
import Derived.Test.YtdmhihcipkhecaaGreatR0
import Derived.Test.YtdmhihcipkhecaaGreatR2
set_option linter.unusedVariables false
namespace Go.Proofs.YtdmhihcipkhecaaGreat
open Go.ChangeShapes Go.WideShapes Go.ChangeAt Go.RowKit
theorem lP{a b:Bool}(h:b=a):Ending.returned (.bool a)= .returned (.bool b):=by rw[h]
/-- Whether a window of a key is ahead of another one. -/
def dd(ky st en ky' st' en':Int):Bool:=decide (fR ky st en ky' st' en'<0)
theorem ll{ky st en ky' st' en':Int}(h:¬ ky=ky'):dd ky st en ky' st' en'=decide (ky<ky'):=by
 unfold dd fR orI fG
 by_cases h1:ky<ky'
 ·simp[h1]
 ·have h2:ky'<ky:=by omega
  simp[h1,h2]
theorem lm{ky st en st' en':Int}(h2:¬ st=st'):dd ky st en ky st' en'=decide (st<st'):=by
 unfold dd fR orI fG
 by_cases h1:st<st'
 ·simp[h1]
 ·have h3:st'<st:=by omega
  simp[h1,h3]
theorem lp{ky st en en':Int}:dd ky st en ky st en'=decide (en<en'):=by
 unfold dd fR orI fG
 by_cases h1:en<en'
 ·simp[h1]
 ·by_cases h3:en'<en
  ·simp[h1,h3]
  ·simp[h1,h3]
/-- Whether a window is ahead of another one. -/
def lessW(st en st' en':Int):Bool:=if st=st' then decide (en<en')else decide (st<st')
theorem l2less_any(st en st' en':Int)(w:World):Calls Tryz.prog 69 #[.agg #[.int .i64 st,.int .i64 en],.agg #[.int .i64 st',.int .i64 en']] w fun e w'=>e= .returned (.bool (lessW st en st' en'))∧Below w.heap.size w w':=by
 by_cases h:st=st'
 ·have hq:lessW st en st' en'=decide (en<en'):=if_pos h
  have HQ:=ae hq
  have h':(st==st')=true:=by simpa using h
  clear hq
  go_enter Tryz.func69,Tryz.ntmps69
  go_wp2
  go_ret
  exact⟨lP (ab HQ),(eD)⟩
 ·have hq:lessW st en st' en'=decide (st<st'):=if_neg h
  have HQ:=ae hq
  have h':(st==st')=false:=by simpa using h
  clear hq
  go_enter Tryz.func69,Tryz.ntmps69
  go_wp2
  go_ret
  exact⟨lP (ab HQ),(eD)⟩
theorem ahead_kP{ky st en st' en':Int}:lessW st en st' en'=dd ky st en ky st' en':=by
 unfold lessW
 by_cases h2:st=st'
 ·subst h2;rw[if_pos rfl,lp]
 ·rw[if_neg h2,lm h2]
theorem dX(ky st en ky' st' en':Int)(w:World):Calls Tryz.prog 39 #[.int .i64 ky,.agg #[.int .i64 st,.int .i64 en],.int .i64 ky',.agg #[.int .i64 st',.int .i64 en']] w fun e w'=>e= .returned (.bool (dd ky st en ky' st' en'))∧Below w.heap.size w w':=by
 by_cases h:ky=ky'
 ·subst h
  have HQ:=ae (ahead_kP (ky:=ky) (st:=st) (en:=en) (st':=st') (en':=en')).symm
  go_enter Tryz.func39,Tryz.ntmps39
  go_wp2_with (go_at_call 69;refine(l2less_any _ _ _ _ _).mono ?_;rintro e w' ⟨rfl,hb⟩)
  go_ret
  exact⟨lP (ab HQ),(eD)⟩
 ·have HQ:=ae (ll (st:=st) (en:=en) (st':=st') (en':=en') h)
  have h':(ky==ky')=false:=by simpa using h
  go_enter Tryz.func39,Tryz.ntmps39
  go_wp2
  go_ret
  exact⟨lP (ab HQ),(eD)⟩
/-- Whether a row may stand behind another one. -/
def eq(kd ky st en ky' st' en':Int):Bool:= !(kd==3&&(ky==ky'&&bx st en st' en'))&&dd ky' st' en' ky st en
set_option maxRecDepth 20000 in
set_option maxHeartbeats 4000000 in
theorem jJ(ky st en an asu ale amo fn fsu fle fmo td:Int)(tm:Bool)(ky' st' en' an' asu' ale' amo' fn' fsu' fle' fmo' td':Int)(tm':Bool)(kd:Int)(w:World):Calls Tryz.prog 43 #[.agg #[.int .i64 ky,.int .i64 st,.int .i64 en,.int .i64 an,.int .i64 asu,.int .i64 ale,.int .i64 amo,.int .i64 fn,.int .i64 fsu,.int .i64 fle,.int .i64 fmo,.int .i64 td,.bool tm],.agg #[.int .i64 ky',.int .i64 st',.int .i64 en',.int .i64 an',.int .i64 asu',.int .i64 ale',.int .i64 amo',.int .i64 fn',.int .i64 fsu',.int .i64 fle',.int .i64 fmo',.int .i64 td',.bool tm'],.int .i64 kd] w fun e' w'=>e'= .returned (.bool (eq kd ky st en ky' st' en'))∧Below w.heap.size w w':=by
 cases c0:(kd==3)
 ·have hq:Hid (eq kd ky st en ky' st' en'=decide (fR ky' st' en' ky st en<0)):=ae (by simp[eq,c0,dd])
  go_enter Tryz.func43,Tryz.ntmps43
  go_wp2_with (first
   |(go_at_call 71;refine(ct _ _ _ _ _).mono ?_;rintro e w' ⟨rfl,hb⟩;obtain⟨hc,hf,hs⟩:=aA hb;(try have hz0:=zA hb w.heap.size);(try have hz1:=zA hb (w.heap.size+1)))
   |(go_at_call 58;refine(aV _ _ _ _ _ _ _ _ _ _ _ _ _ _).mono ?_;rintro e w' ⟨rfl,hb⟩;obtain⟨hc,hf,hs⟩:=aA hb;(try have hz0:=zA hb w.heap.size);(try have hz1:=zA hb (w.heap.size+1)))
   |(go_at_call 72;refine(cH _ _ _ _ _ _ _).mono ?_;rintro e w' ⟨rfl,hb⟩;obtain⟨hc,hf,hs⟩:=aA hb;(try have hz0:=zA hb w.heap.size);(try have hz1:=zA hb (w.heap.size+1))))
  go_region_held3 (fun W=>((W.cell? ⟨w.heap.size,0,none⟩=some (.int .i64 ky)∧W.cell? ⟨w.heap.size,1,none⟩=some (.int .i64 st)∧W.cell? ⟨w.heap.size,2,none⟩=some (.int .i64 en)∧W.cell? ⟨w.heap.size,3,none⟩=some (.int .i64 an)∧W.cell? ⟨w.heap.size,4,none⟩=some (.int .i64 asu)∧W.cell? ⟨w.heap.size,5,none⟩=some (.int .i64 ale)∧W.cell? ⟨w.heap.size,6,none⟩=some (.int .i64 amo)∧W.cell? ⟨w.heap.size,7,none⟩=some (.int .i64 fn)∧W.cell? ⟨w.heap.size,8,none⟩=some (.int .i64 fsu)∧W.cell? ⟨w.heap.size,9,none⟩=some (.int .i64 fle)∧W.cell? ⟨w.heap.size,10,none⟩=some (.int .i64 fmo)∧W.cell? ⟨w.heap.size,11,none⟩=some (.int .i64 td)∧W.cell? ⟨w.heap.size,12,none⟩=some (.bool tm)∧W.cell? ⟨w.heap.size+1,0,none⟩=some (.int .i64 ky')∧W.cell? ⟨w.heap.size+1,1,none⟩=some (.int .i64 st')∧W.cell? ⟨w.heap.size+1,2,none⟩=some (.int .i64 en')∧W.cell? ⟨w.heap.size+1,3,none⟩=some (.int .i64 an')∧W.cell? ⟨w.heap.size+1,4,none⟩=some (.int .i64 asu')∧W.cell? ⟨w.heap.size+1,5,none⟩=some (.int .i64 ale')∧W.cell? ⟨w.heap.size+1,6,none⟩=some (.int .i64 amo')∧W.cell? ⟨w.heap.size+1,7,none⟩=some (.int .i64 fn')∧W.cell? ⟨w.heap.size+1,8,none⟩=some (.int .i64 fsu')∧W.cell? ⟨w.heap.size+1,9,none⟩=some (.int .i64 fle')∧W.cell? ⟨w.heap.size+1,10,none⟩=some (.int .i64 fmo')∧W.cell? ⟨w.heap.size+1,11,none⟩=some (.int .i64 td')∧W.cell? ⟨w.heap.size+1,12,none⟩=some (.bool tm'))∧w.heap.size<W.heap.size∧w.heap.size+1<W.heap.size)) ((first|((repeat(first|(with_reducible assumption)|(with_reducible refine dV ?_ (oK))|(with_reducible refine dV ?_ (aq (Below.refl _ _)))|(with_reducible exact gj (oK) (sB) (sB))|(with_reducible refine dV ?_ (ay _ _))|(with_reducible refine fI ?_ (sB) (sB) _)));done)|(refine⟨⟨?_,?_,?_,?_,?_,?_,?_,?_,?_,?_,?_,?_,?_,?_,?_,?_,?_,?_,?_,?_,?_,?_,?_,?_,?_,?_⟩,?_,?_⟩<;>first|(go_keep;done)|(simp;done)|(simp;omega)|omega)))
   (first
   |(go_at_call 71;refine(ct _ _ _ _ _).mono ?_;rintro e w' ⟨rfl,hb⟩;obtain⟨hc,hf,hs⟩:=aA hb)
   |(go_at_call 58;refine(aV _ _ _ _ _ _ _ _ _ _ _ _ _ _).mono ?_;rintro e w' ⟨rfl,hb⟩;obtain⟨hc,hf,hs⟩:=aA hb)
   |(go_at_call 72;refine(cH _ _ _ _ _ _ _).mono ?_;rintro e w' ⟨rfl,hb⟩;obtain⟨hc,hf,hs⟩:=aA hb))
  all_goals
   go_wp2_with (first
    |(go_at_call 71;refine(ct _ _ _ _ _).mono ?_;rintro e w' ⟨rfl,hb⟩;obtain⟨hc,hf,hs⟩:=aA hb;(try have hz0:=zA hb w.heap.size);(try have hz1:=zA hb (w.heap.size+1)))
    |(go_at_call 58;refine(aV _ _ _ _ _ _ _ _ _ _ _ _ _ _).mono ?_;rintro e w' ⟨rfl,hb⟩;obtain⟨hc,hf,hs⟩:=aA hb;(try have hz0:=zA hb w.heap.size);(try have hz1:=zA hb (w.heap.size+1)))
    |(go_at_call 72;refine(cH _ _ _ _ _ _ _).mono ?_;rintro e w' ⟨rfl,hb⟩;obtain⟨hc,hf,hs⟩:=aA hb;(try have hz0:=zA hb w.heap.size);(try have hz1:=zA hb (w.heap.size+1))))
   go_ret
   exact⟨aF (ab hq).symm,(ca)⟩
 ·cases c1:(ky==ky')
  ·have hq:Hid (eq kd ky st en ky' st' en'=decide (fR ky' st' en' ky st en<0)):=ae (by simp[eq,c1,dd])
   go_enter Tryz.func43,Tryz.ntmps43
   go_wp2_with (first
    |(go_at_call 71;refine(ct _ _ _ _ _).mono ?_;rintro e w' ⟨rfl,hb⟩;obtain⟨hc,hf,hs⟩:=aA hb;(try have hz0:=zA hb w.heap.size);(try have hz1:=zA hb (w.heap.size+1)))
    |(go_at_call 58;refine(aV _ _ _ _ _ _ _ _ _ _ _ _ _ _).mono ?_;rintro e w' ⟨rfl,hb⟩;obtain⟨hc,hf,hs⟩:=aA hb;(try have hz0:=zA hb w.heap.size);(try have hz1:=zA hb (w.heap.size+1)))
    |(go_at_call 72;refine(cH _ _ _ _ _ _ _).mono ?_;rintro e w' ⟨rfl,hb⟩;obtain⟨hc,hf,hs⟩:=aA hb;(try have hz0:=zA hb w.heap.size);(try have hz1:=zA hb (w.heap.size+1))))
   go_region_held3 (fun W=>((W.cell? ⟨w.heap.size,0,none⟩=some (.int .i64 ky)∧W.cell? ⟨w.heap.size,1,none⟩=some (.int .i64 st)∧W.cell? ⟨w.heap.size,2,none⟩=some (.int .i64 en)∧W.cell? ⟨w.heap.size,3,none⟩=some (.int .i64 an)∧W.cell? ⟨w.heap.size,4,none⟩=some (.int .i64 asu)∧W.cell? ⟨w.heap.size,5,none⟩=some (.int .i64 ale)∧W.cell? ⟨w.heap.size,6,none⟩=some (.int .i64 amo)∧W.cell? ⟨w.heap.size,7,none⟩=some (.int .i64 fn)∧W.cell? ⟨w.heap.size,8,none⟩=some (.int .i64 fsu)∧W.cell? ⟨w.heap.size,9,none⟩=some (.int .i64 fle)∧W.cell? ⟨w.heap.size,10,none⟩=some (.int .i64 fmo)∧W.cell? ⟨w.heap.size,11,none⟩=some (.int .i64 td)∧W.cell? ⟨w.heap.size,12,none⟩=some (.bool tm)∧W.cell? ⟨w.heap.size+1,0,none⟩=some (.int .i64 ky')∧W.cell? ⟨w.heap.size+1,1,none⟩=some (.int .i64 st')∧W.cell? ⟨w.heap.size+1,2,none⟩=some (.int .i64 en')∧W.cell? ⟨w.heap.size+1,3,none⟩=some (.int .i64 an')∧W.cell? ⟨w.heap.size+1,4,none⟩=some (.int .i64 asu')∧W.cell? ⟨w.heap.size+1,5,none⟩=some (.int .i64 ale')∧W.cell? ⟨w.heap.size+1,6,none⟩=some (.int .i64 amo')∧W.cell? ⟨w.heap.size+1,7,none⟩=some (.int .i64 fn')∧W.cell? ⟨w.heap.size+1,8,none⟩=some (.int .i64 fsu')∧W.cell? ⟨w.heap.size+1,9,none⟩=some (.int .i64 fle')∧W.cell? ⟨w.heap.size+1,10,none⟩=some (.int .i64 fmo')∧W.cell? ⟨w.heap.size+1,11,none⟩=some (.int .i64 td')∧W.cell? ⟨w.heap.size+1,12,none⟩=some (.bool tm'))∧w.heap.size<W.heap.size∧w.heap.size+1<W.heap.size)) ((first|((repeat(first|(with_reducible assumption)|(with_reducible refine dV ?_ (oK))|(with_reducible refine dV ?_ (aq (Below.refl _ _)))|(with_reducible exact gj (oK) (sB) (sB))|(with_reducible refine dV ?_ (ay _ _))|(with_reducible refine fI ?_ (sB) (sB) _)));done)|(refine⟨⟨?_,?_,?_,?_,?_,?_,?_,?_,?_,?_,?_,?_,?_,?_,?_,?_,?_,?_,?_,?_,?_,?_,?_,?_,?_,?_⟩,?_,?_⟩<;>first|(go_keep;done)|(simp;done)|(simp;omega)|omega)))
    (first
    |(go_at_call 71;refine(ct _ _ _ _ _).mono ?_;rintro e w' ⟨rfl,hb⟩;obtain⟨hc,hf,hs⟩:=aA hb)
    |(go_at_call 58;refine(aV _ _ _ _ _ _ _ _ _ _ _ _ _ _).mono ?_;rintro e w' ⟨rfl,hb⟩;obtain⟨hc,hf,hs⟩:=aA hb)
    |(go_at_call 72;refine(cH _ _ _ _ _ _ _).mono ?_;rintro e w' ⟨rfl,hb⟩;obtain⟨hc,hf,hs⟩:=aA hb))
   all_goals
    go_wp2_with (first
     |(go_at_call 71;refine(ct _ _ _ _ _).mono ?_;rintro e w' ⟨rfl,hb⟩;obtain⟨hc,hf,hs⟩:=aA hb;(try have hz0:=zA hb w.heap.size);(try have hz1:=zA hb (w.heap.size+1)))
     |(go_at_call 58;refine(aV _ _ _ _ _ _ _ _ _ _ _ _ _ _).mono ?_;rintro e w' ⟨rfl,hb⟩;obtain⟨hc,hf,hs⟩:=aA hb;(try have hz0:=zA hb w.heap.size);(try have hz1:=zA hb (w.heap.size+1)))
     |(go_at_call 72;refine(cH _ _ _ _ _ _ _).mono ?_;rintro e w' ⟨rfl,hb⟩;obtain⟨hc,hf,hs⟩:=aA hb;(try have hz0:=zA hb w.heap.size);(try have hz1:=zA hb (w.heap.size+1))))
    go_ret
    exact⟨aF (ab hq).symm,(ca)⟩
  ·cases c2:bx st en st' en'
   ·have hq:Hid (eq kd ky st en ky' st' en'=decide (fR ky' st' en' ky st en<0)):=ae (by simp[eq,c2,dd])
    go_enter Tryz.func43,Tryz.ntmps43
    go_wp2_with (first
     |(go_at_call 71;refine(ct _ _ _ _ _).mono ?_;rintro e w' ⟨rfl,hb⟩;obtain⟨hc,hf,hs⟩:=aA hb;(try have hz0:=zA hb w.heap.size);(try have hz1:=zA hb (w.heap.size+1)))
     |(go_at_call 58;refine(aV _ _ _ _ _ _ _ _ _ _ _ _ _ _).mono ?_;rintro e w' ⟨rfl,hb⟩;obtain⟨hc,hf,hs⟩:=aA hb;(try have hz0:=zA hb w.heap.size);(try have hz1:=zA hb (w.heap.size+1)))
     |(go_at_call 72;refine(cH _ _ _ _ _ _ _).mono ?_;rintro e w' ⟨rfl,hb⟩;obtain⟨hc,hf,hs⟩:=aA hb;(try have hz0:=zA hb w.heap.size);(try have hz1:=zA hb (w.heap.size+1))))
    have hS:((w'.cell? ⟨w.heap.size,0,none⟩=some (.int .i64 ky)∧w'.cell? ⟨w.heap.size,1,none⟩=some (.int .i64 st)∧w'.cell? ⟨w.heap.size,2,none⟩=some (.int .i64 en)∧w'.cell? ⟨w.heap.size,3,none⟩=some (.int .i64 an)∧w'.cell? ⟨w.heap.size,4,none⟩=some (.int .i64 asu)∧w'.cell? ⟨w.heap.size,5,none⟩=some (.int .i64 ale)∧w'.cell? ⟨w.heap.size,6,none⟩=some (.int .i64 amo)∧w'.cell? ⟨w.heap.size,7,none⟩=some (.int .i64 fn)∧w'.cell? ⟨w.heap.size,8,none⟩=some (.int .i64 fsu)∧w'.cell? ⟨w.heap.size,9,none⟩=some (.int .i64 fle)∧w'.cell? ⟨w.heap.size,10,none⟩=some (.int .i64 fmo)∧w'.cell? ⟨w.heap.size,11,none⟩=some (.int .i64 td)∧w'.cell? ⟨w.heap.size,12,none⟩=some (.bool tm)∧w'.cell? ⟨w.heap.size+1,0,none⟩=some (.int .i64 ky')∧w'.cell? ⟨w.heap.size+1,1,none⟩=some (.int .i64 st')∧w'.cell? ⟨w.heap.size+1,2,none⟩=some (.int .i64 en')∧w'.cell? ⟨w.heap.size+1,3,none⟩=some (.int .i64 an')∧w'.cell? ⟨w.heap.size+1,4,none⟩=some (.int .i64 asu')∧w'.cell? ⟨w.heap.size+1,5,none⟩=some (.int .i64 ale')∧w'.cell? ⟨w.heap.size+1,6,none⟩=some (.int .i64 amo')∧w'.cell? ⟨w.heap.size+1,7,none⟩=some (.int .i64 fn')∧w'.cell? ⟨w.heap.size+1,8,none⟩=some (.int .i64 fsu')∧w'.cell? ⟨w.heap.size+1,9,none⟩=some (.int .i64 fle')∧w'.cell? ⟨w.heap.size+1,10,none⟩=some (.int .i64 fmo')∧w'.cell? ⟨w.heap.size+1,11,none⟩=some (.int .i64 td')∧w'.cell? ⟨w.heap.size+1,12,none⟩=some (.bool tm'))∧w.heap.size<w'.heap.size∧w.heap.size+1<w'.heap.size):=⟨⟨(hb.cell (p:=⟨w.heap.size,0,none⟩) (oT)).trans (oS),(hb.cell (p:=⟨w.heap.size,1,none⟩) (oT)).trans (oS),(hb.cell (p:=⟨w.heap.size,2,none⟩) (oT)).trans (oS),(hb.cell (p:=⟨w.heap.size,3,none⟩) (oT)).trans (oS),(hb.cell (p:=⟨w.heap.size,4,none⟩) (oT)).trans (oS),(hb.cell (p:=⟨w.heap.size,5,none⟩) (oT)).trans (oS),(hb.cell (p:=⟨w.heap.size,6,none⟩) (oT)).trans (oS),(hb.cell (p:=⟨w.heap.size,7,none⟩) (oT)).trans (oS),(hb.cell (p:=⟨w.heap.size,8,none⟩) (oT)).trans (oS),(hb.cell (p:=⟨w.heap.size,9,none⟩) (oT)).trans (oS),(hb.cell (p:=⟨w.heap.size,10,none⟩) (oT)).trans (oS),(hb.cell (p:=⟨w.heap.size,11,none⟩) (oT)).trans (oS),(hb.cell (p:=⟨w.heap.size,12,none⟩) (oT)).trans (oS),(hb.cell (p:=⟨w.heap.size+1,0,none⟩) (oT)).trans (oS),(hb.cell (p:=⟨w.heap.size+1,1,none⟩) (oT)).trans (oS),(hb.cell (p:=⟨w.heap.size+1,2,none⟩) (oT)).trans (oS),(hb.cell (p:=⟨w.heap.size+1,3,none⟩) (oT)).trans (oS),(hb.cell (p:=⟨w.heap.size+1,4,none⟩) (oT)).trans (oS),(hb.cell (p:=⟨w.heap.size+1,5,none⟩) (oT)).trans (oS),(hb.cell (p:=⟨w.heap.size+1,6,none⟩) (oT)).trans (oS),(hb.cell (p:=⟨w.heap.size+1,7,none⟩) (oT)).trans (oS),(hb.cell (p:=⟨w.heap.size+1,8,none⟩) (oT)).trans (oS),(hb.cell (p:=⟨w.heap.size+1,9,none⟩) (oT)).trans (oS),(hb.cell (p:=⟨w.heap.size+1,10,none⟩) (oT)).trans (oS),(hb.cell (p:=⟨w.heap.size+1,11,none⟩) (oT)).trans (oS),(hb.cell (p:=⟨w.heap.size+1,12,none⟩) (oT)).trans (oS)⟩,by have h9:=hb.size;simp at h9;omega,by have h9:=hb.size;simp at h9;omega⟩
    go_region_held3 (fun W=>((W.cell? ⟨w.heap.size,0,none⟩=some (.int .i64 ky)∧W.cell? ⟨w.heap.size,1,none⟩=some (.int .i64 st)∧W.cell? ⟨w.heap.size,2,none⟩=some (.int .i64 en)∧W.cell? ⟨w.heap.size,3,none⟩=some (.int .i64 an)∧W.cell? ⟨w.heap.size,4,none⟩=some (.int .i64 asu)∧W.cell? ⟨w.heap.size,5,none⟩=some (.int .i64 ale)∧W.cell? ⟨w.heap.size,6,none⟩=some (.int .i64 amo)∧W.cell? ⟨w.heap.size,7,none⟩=some (.int .i64 fn)∧W.cell? ⟨w.heap.size,8,none⟩=some (.int .i64 fsu)∧W.cell? ⟨w.heap.size,9,none⟩=some (.int .i64 fle)∧W.cell? ⟨w.heap.size,10,none⟩=some (.int .i64 fmo)∧W.cell? ⟨w.heap.size,11,none⟩=some (.int .i64 td)∧W.cell? ⟨w.heap.size,12,none⟩=some (.bool tm)∧W.cell? ⟨w.heap.size+1,0,none⟩=some (.int .i64 ky')∧W.cell? ⟨w.heap.size+1,1,none⟩=some (.int .i64 st')∧W.cell? ⟨w.heap.size+1,2,none⟩=some (.int .i64 en')∧W.cell? ⟨w.heap.size+1,3,none⟩=some (.int .i64 an')∧W.cell? ⟨w.heap.size+1,4,none⟩=some (.int .i64 asu')∧W.cell? ⟨w.heap.size+1,5,none⟩=some (.int .i64 ale')∧W.cell? ⟨w.heap.size+1,6,none⟩=some (.int .i64 amo')∧W.cell? ⟨w.heap.size+1,7,none⟩=some (.int .i64 fn')∧W.cell? ⟨w.heap.size+1,8,none⟩=some (.int .i64 fsu')∧W.cell? ⟨w.heap.size+1,9,none⟩=some (.int .i64 fle')∧W.cell? ⟨w.heap.size+1,10,none⟩=some (.int .i64 fmo')∧W.cell? ⟨w.heap.size+1,11,none⟩=some (.int .i64 td')∧W.cell? ⟨w.heap.size+1,12,none⟩=some (.bool tm'))∧w.heap.size<W.heap.size∧w.heap.size+1<W.heap.size)) ((first|((repeat(first|(with_reducible assumption)|(with_reducible refine dV ?_ (oK))|(with_reducible refine dV ?_ (aq (Below.refl _ _)))|(with_reducible exact gj (oK) (sB) (sB))|(with_reducible refine dV ?_ (ay _ _))|(with_reducible refine fI ?_ (sB) (sB) _)));done)|(refine⟨⟨?_,?_,?_,?_,?_,?_,?_,?_,?_,?_,?_,?_,?_,?_,?_,?_,?_,?_,?_,?_,?_,?_,?_,?_,?_,?_⟩,?_,?_⟩<;>first|(go_keep;done)|(simp;done)|(simp;omega)|omega)))
     (first
     |(go_at_call 71;refine(ct _ _ _ _ _).mono ?_;rintro e w' ⟨rfl,hb⟩;obtain⟨hc,hf,hs⟩:=aA hb)
     |(go_at_call 58;refine(aV _ _ _ _ _ _ _ _ _ _ _ _ _ _).mono ?_;rintro e w' ⟨rfl,hb⟩;obtain⟨hc,hf,hs⟩:=aA hb)
     |(go_at_call 72;refine(cH _ _ _ _ _ _ _).mono ?_;rintro e w' ⟨rfl,hb⟩;obtain⟨hc,hf,hs⟩:=aA hb))
    all_goals
     go_wp2_with (first
      |(go_at_call 71;refine(ct _ _ _ _ _).mono ?_;rintro e w' ⟨rfl,hb⟩;obtain⟨hc,hf,hs⟩:=aA hb;(try have hz0:=zA hb w.heap.size);(try have hz1:=zA hb (w.heap.size+1)))
      |(go_at_call 58;refine(aV _ _ _ _ _ _ _ _ _ _ _ _ _ _).mono ?_;rintro e w' ⟨rfl,hb⟩;obtain⟨hc,hf,hs⟩:=aA hb;(try have hz0:=zA hb w.heap.size);(try have hz1:=zA hb (w.heap.size+1)))
      |(go_at_call 72;refine(cH _ _ _ _ _ _ _).mono ?_;rintro e w' ⟨rfl,hb⟩;obtain⟨hc,hf,hs⟩:=aA hb;(try have hz0:=zA hb w.heap.size);(try have hz1:=zA hb (w.heap.size+1))))
     go_ret
     exact⟨aF (ab hq).symm,(ca)⟩
   ·have hq:Hid (eq kd ky st en ky' st' en'=false):=ae (by simp[eq,c0,c1,c2])
    go_enter Tryz.func43,Tryz.ntmps43
    go_wp2_with (first
     |(go_at_call 71;refine(ct _ _ _ _ _).mono ?_;rintro e w' ⟨rfl,hb⟩;obtain⟨hc,hf,hs⟩:=aA hb;(try have hz0:=zA hb w.heap.size);(try have hz1:=zA hb (w.heap.size+1)))
     |(go_at_call 58;refine(aV _ _ _ _ _ _ _ _ _ _ _ _ _ _).mono ?_;rintro e w' ⟨rfl,hb⟩;obtain⟨hc,hf,hs⟩:=aA hb;(try have hz0:=zA hb w.heap.size);(try have hz1:=zA hb (w.heap.size+1)))
     |(go_at_call 72;refine(cH _ _ _ _ _ _ _).mono ?_;rintro e w' ⟨rfl,hb⟩;obtain⟨hc,hf,hs⟩:=aA hb;(try have hz0:=zA hb w.heap.size);(try have hz1:=zA hb (w.heap.size+1))))
    go_ret
    exact⟨aF (ab hq).symm,(ca)⟩
/-- A row is ok; it may stand behind another one; so far all rows are and do. -/
def aD.okB(l mark:Int)(x:aD):Bool:=bh l mark x.ky x.st x.en x.an x.asu x.ale x.amo x.fn x.fsu x.fle x.fmo x.td x.tm
def fV(kd:Int)(y x:aD):Bool:=eq kd x.ky x.st x.en y.ky y.st y.en
def gK(kd l mark:Int)(xs:List aD)(i:Nat):Bool:=match xs[i]? with
 |none=>true
 |some x=>x.okB l mark&&match i with
  |0=>true
  |j+1=>match xs[j]? with
   |some y=>fV kd y x
   |none=>true
def fp(kd l mark:Int)(xs:List aD)(n:Nat):Bool:=(List.range n).all (gK kd l mark xs)
theorem ed(kd l mark:Int)(xs:List aD)(n:Nat):fp kd l mark xs (n+1)=(fp kd l mark xs n&&gK kd l mark xs n):=by
 simp[fp,List.range_succ]
theorem er{kd l mark:Int}{xs:List aD}{n i:Nat}(hi:i<n)(h:gK kd l mark xs i=false):fp kd l mark xs n=false:=by
 cases hc:fp kd l mark xs n
 ·rfl
 ·have:=List.all_eq_true.1 hc i (List.mem_range.2 hi)
  rw[h]at this
  cases this
theorem jq{kd l mark:Int}{xs:List aD}{n i:Nat}(hc:fp kd l mark xs n=true)(hi:i<n):gK kd l mark xs i=true:=List.all_eq_true.1 hc i (List.mem_range.2 hi)
theorem okAt_z{kd l mark:Int}{xs:List aD}{x:aD}(hx:xs[0]? =some x):gK kd l mark xs 0=x.okB l mark:=by simp[gK,hx]
theorem okAt_s{kd l mark:Int}{xs:List aD}{j:Nat}{x y:aD}(hx:xs[j+1]? =some x)(hy:xs[j]? =some y):gK kd l mark xs (j+1)=(x.okB l mark&&fV kd y x):=by simp[gK,hx,hy]
theorem lQ{kd l mark:Int}{xs:List aD}{i:Nat}{x:aD}(h0:i=0)(hx:xs[i]? =some x):gK kd l mark xs i=x.okB l mark:=by subst h0;exact okAt_z hx
theorem ir{kd l mark:Int}{xs:List aD}{i j:Nat}{x y:aD}(he:i=j+1)(hx:xs[i]? =some x)(hy:xs[j]? =some y):gK kd l mark xs i=(x.okB l mark&&fV kd y x):=by subst he;exact okAt_s hx hy
theorem iu{kd l mark:Int}{xs:List aD}{i:Nat}{x:aD}(hx:xs[i]? =some x)(h:x.okB l mark=false):gK kd l mark xs i=false:=by simp[gK,hx,h]
theorem lR{kd l mark:Int}{xs:List aD}{i:Nat}{x:aD}(hx:xs[i]? =some x)(h:gK kd l mark xs i=true):x.okB l mark=true:=by
 simp only[gK,hx,Bool.and_eq_true]at h
 exact h.1
theorem jr{l mark:Int}{x:aD}(h:x.okB l mark=true):0≤x.st∧x.st<x.en∧x.en≤120:=by
 simp only[aD.okB,bh,Bool.and_eq_true]at h
 exact jI h.1.1.1.1.1.1.1.1.1.2
theorem ia{ky st en ky' st' en':Int}:dd ky st en ky' st' en'=true↔(ky<ky'∨(ky=ky'∧(st<st'∨(st=st'∧en<en')))):=by
 by_cases h:ky=ky'
 ·subst h
  by_cases h2:st=st'
  ·subst h2
   rw[lp]
   simp
  ·rw[lm h2]
   simp
   omega
 ·rw[ll h]
  simp
  omega
theorem far_step{kd l mark:Int}{y x:aD}(hk:kd=3)(hx:x.okB l mark=true)(hy:y.okB l mark=true)(hn:fV kd y x=true):y.ky≤x.ky∧(y.ky=x.ky→y.en≤x.st):=by
 have h1:=jr hx
 have h2:=jr hy
 simp only[fV,eq,Bool.and_eq_true]at hn
 have h3:=ia.1 hn.2
 refine⟨by omega,fun e=>?_⟩
 have h4:=hn.1
 rw[hk,e]at h4
 have h5:bx x.st x.en y.st y.en=false:=by simpa using h4
 simp only[bx]at h5
 have h6:¬ (x.st<y.en∧y.st<x.en):=by
  intro hh
  simp[hh.1,hh.2]at h5
 omega
/-- Where no two neighbours touch no two at all do. -/
theorem okUp_far{kd l mark:Int}{xs:List aD}{n:Nat}(hk:kd=3)(h:fp kd l mark xs n=true):∀i,i<n→∀k,k<i→∀x y,xs[i]? =some x→xs[k]? =some y→y.ky≤x.ky∧(y.ky=x.ky→y.en≤x.st):=by
 intro i
 induction i with
 |zero=>intro _ k hk;omega
 |succ i ih=>
  intro hi k hki x y hx hy
  have hil:i<xs.length:=by have:=(List.getElem?_eq_some_iff.1 hx).1;omega
  obtain⟨z,hz⟩:∃z,xs[i]? =some z:=⟨_,List.getElem?_eq_getElem hil⟩
  have a1:=jq h hi
  have a0:=jq h (Nat.lt_of_succ_lt hi)
  have hxb:=lR hx a1
  have hzb:=lR hz a0
  rw[okAt_s hx hz,Bool.and_eq_true]at a1
  have st:=far_step hk hxb hzb a1.2
  by_cases he:k=i
  ·subst he
   rw[hz]at hy
   cases hy
   exact st
  ·have st2:=ih (Nat.lt_of_succ_lt hi) k (by omega) z y hz hy
   have w1:=jr hzb
   refine⟨by omega,fun e=>?_⟩
   have e1:z.ky=x.ky:=by omega
   have e2:y.ky=z.ky:=by omega
   have:=st.2 e1
   have:=st2.2 e2
   omega
/-- A row that touches one ahead of it, however far, is not ok. -/
theorem jK{kd l mark:Int}{xs:List aD}{i k:Nat}{x y:aD}(hk:kd=3)(h:fp kd l mark xs i=true)(hki:k<i)(hx:xs[i]? =some x)(hy:xs[k]? =some y)(e:y.ky=x.ky)(ht:bx y.st y.en x.st x.en=true):gK kd l mark xs i=false:=by
 cases hc:gK kd l mark xs i
 ·rfl
 ·have h1:fp kd l mark xs (i+1)=true:=by rw[ed,h,hc];rfl
  have h2:=(okUp_far hk h1 i (by omega) k hki x y hx hy).2 e
  simp only[bx,Bool.and_eq_true,decide_eq_true_eq]at ht
  omega
/-- When an operator is ok. -/
def cX(s t k z p l e v r mark:Int)(xs:List aD):Bool:=aY s t k z p l e v r&&ce mark 0 1000&&decide (xs.length≤300)&&fp k l mark xs xs.length
theorem iw{s t k z p l e v r:Int}(h:aY s t k z p l e v r=true):0≤l∧l≤20:=by
 simp only[aY,Bool.and_eq_true]at h
 exact bQ.1 h.1.1.1.2
theorem okOp_j{s t k z p l e v r mark:Int}{xs:List aD}(h:aY s t k z p l e v r=false):cX s t k z p l e v r mark xs=false:=by simp[cX,h]
theorem okOp_m{s t k z p l e v r mark:Int}{xs:List aD}(h:ce mark 0 1000=false):cX s t k z p l e v r mark xs=false:=by simp[cX,h]
theorem okOp_n{s t k z p l e v r mark:Int}{xs:List aD}(h:¬ xs.length≤300):cX s t k z p l e v r mark xs=false:=by simp[cX,h]
theorem okOp_t{s t k z p l e v r mark:Int}{xs:List aD}(h1:aY s t k z p l e v r=true)(h2:ce mark 0 1000=true)(h3:xs.length≤300):cX s t k z p l e v r mark xs=fp k l mark xs xs.length:=by simp[cX,h1,h2,h3]
theorem lq{W:World}(p:Addr)(v:Value):W.grownBy (W.setCell p v) (some p.block):=⟨rfl,rfl,rfl,by simp[World.setCell],fun k hk hne=>Below.heap_setCell W p v k (fun e=>hne (by rw[e]))⟩
theorem cE.set{W:World}{p:Addr}{v:Value}{a:Option Addr}{n:Nat}{xs:List aD}(h:cE W a n xs)(hp:∀g o,0<n→a=some ⟨g,o,none⟩→p.block<g):cE (W.setCell p v) a n xs:=h.grown (lq p v) (fun g o hn ha=>by have:=hp g o hn ha;simp;omega)
theorem kO.set{W:World}{p:Addr}{v:Value}{a:Option Addr}{n cap:Nat}(h:kO W a n cap)(hp:∀g o,0<n→a=some ⟨g,o,none⟩→p.block<g):kO (W.setCell p v) a n cap:=h.grown (lq p v) (fun g o hn ha=>by have:=hp g o hn ha;simp;omega)
end Go.Proofs.YtdmhihcipkhecaaGreat
