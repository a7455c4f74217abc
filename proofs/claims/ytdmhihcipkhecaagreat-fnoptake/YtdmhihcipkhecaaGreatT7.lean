/- Laid together: what the claim needs of the texts that were built one by one. -/
import Derived.Test.YtdmhihcipkhecaaGreatT3
import Derived.Test.YtdmhihcipkhecaaGreatT5
import Derived.Test.YtdmhihcipkhecaaGreatT0
set_option linter.unusedVariables false
namespace Go.Proofs.YtdmhihcipkhecaaGreat
open Go.ChangeShapes Go.WideShapes Go.ChangeAt Go.RowKit Go.Shelf Go.Maps
set_option linter.unusedSimpArgs false
set_option maxRecDepth 20000 in
set_option maxHeartbeats 2000000 in
theorem gH(s t k z q l e:Int)(b:Bool)(v r:Int)(x:aC)(kd:Int)(w:World):Calls Tryz.prog 66 #[.agg #[.int .i64 s,.int .i64 t,.int .i64 k,.int .i64 z,.int .i64 q,.int .i64 l,.int .i64 e,.bool b,.int .i64 v,.int .i64 r],.agg #[.int .i64 x.ky,.int .i64 x.st,.int .i64 x.en,.int .i64 x.an,.int .i64 x.asu,.int .i64 x.ale,.int .i64 x.amo,.int .i64 x.fn,.int .i64 x.fsu,.int .i64 x.fle,.int .i64 x.fmo,.int .i64 x.td,.bool x.tm],.int .i64 kd] w fun e' w'=>e'= .returned (.agg #[.int .i64 x.ky,.int .i64 x.st,.int .i64 x.en,.int .i64 x.td,.int .i64 kd,.int .i64 (if b=true then x.fn else x.an),.int .i64 (if b=true then x.fsu else x.asu),.int .i64 (if b=true then x.fle else x.ale),.int .i64 (if b=true then x.fmo else x.amo)])∧Below w.heap.size w w':=by
 obtain⟨ky,st,en,an,asu,ale,amo,fn,fsu,fle,fmo,td,tm⟩:=x
 dsimp only
 cases b
 ·go_enter Tryz.func66,Tryz.ntmps66
  go_wp2
  refine bodyPost_ret (v:= .agg #[.int .i64 ky,.int .i64 st,.int .i64 en,.int .i64 td,.int .i64 kd,.int .i64 an,.int .i64 asu,.int .i64 ale,.int .i64 amo]) (by simp(maxDischargeDepth:=9) [results,Tryz.results66,go_sem, *]) rfl ⟨by simp,?_⟩
  repeat(first|exact Below.refl _ _|refine av ?_ (sA) _|refine ag ?_ _)
 ·go_enter Tryz.func66,Tryz.ntmps66
  go_wp2
  refine bodyPost_ret (v:= .agg #[.int .i64 ky,.int .i64 st,.int .i64 en,.int .i64 td,.int .i64 kd,.int .i64 fn,.int .i64 fsu,.int .i64 fle,.int .i64 fmo]) (by simp(maxDischargeDepth:=9) [results,Tryz.results66,go_sem, *]) rfl ⟨by simp,?_⟩
  repeat(first|exact Below.refl _ _|refine av ?_ (sA) _|refine ag ?_ _)
end Go.Proofs.YtdmhihcipkhecaaGreat
