/- Laid together: what the claim needs of the texts that were built one by one. -/
import Derived.Test.YtdmhihcipkhecaaGreatRows
import Derived.Test.YtdmhihcipkhecaaGreatR0
import Derived.Deep.RegionHeld3
import Derived.Deep.DeepCutAuto
import Derived.Test.YtdmhihcipkhecaaGreatR1
set_option linter.unusedVariables false
namespace Go.Proofs.YtdmhihcipkhecaaGreat
open Go.ChangeShapes Go.WideShapes Go.ChangeAt Go.RowKit
theorem aB(n a b:Int)(w:World):Calls Tryz.prog 34 #[.int .i64 n,.int .i64 a,.int .i64 b] w fun e w'=>e= .returned (.bool (ce n a b))∧w'=w:=by
 by_cases h1:a≤n
 ·by_cases h2:n≤b
  ·have h3:=ae (lG h1 h2)
   go_enter Tryz.func34,Tryz.ntmps34
   go_wp2
   go_ret
   exact⟨aF (ab h3).symm,rfl⟩
  ·have h3:=ae (iN (n:=n) (a:=a) (b:=b) (by omega))
   go_enter Tryz.func34,Tryz.ntmps34
   go_wp2
   go_ret
   exact⟨aF (ab h3).symm,rfl⟩
 ·have h3:=ae (iN (n:=n) (a:=a) (b:=b) (by omega))
  go_enter Tryz.func34,Tryz.ntmps34
  go_wp2
  go_ret
  exact⟨aF (ab h3).symm,rfl⟩
theorem aK(n a b:Int)(w:World):Calls Tryz.prog 26 #[.int .i64 n,.int .i64 a,.int .i64 b] w fun e w'=>e= .returned (.bool (ce n a b))∧w'=w:=by
 by_cases h1:a≤n
 ·by_cases h2:n≤b
  ·have h3:=ae (lG h1 h2)
   go_enter Tryz.func26,Tryz.ntmps26
   go_wp2
   go_ret
   exact⟨aF (ab h3).symm,rfl⟩
  ·have h3:=ae (iN (n:=n) (a:=a) (b:=b) (by omega))
   go_enter Tryz.func26,Tryz.ntmps26
   go_wp2
   go_ret
   exact⟨aF (ab h3).symm,rfl⟩
 ·have h3:=ae (iN (n:=n) (a:=a) (b:=b) (by omega))
  go_enter Tryz.func26,Tryz.ntmps26
  go_wp2
  go_ret
  exact⟨aF (ab h3).symm,rfl⟩
/-- When a window is ok. -/
def dW(a b:Int):Bool:=ce a 0 60&&ce b (a+1) 120
theorem iQ(a b:Int)(w:World):Calls Tryz.prog 73 #[.agg #[.int .i64 a,.int .i64 b]] w fun e w'=>e= .returned (.bool (dW a b))∧Below w.heap.size w w':=by
 by_cases h1:0≤a∧a≤60
 ·obtain⟨h1,h2⟩:=h1
  have h3:=lG h1 h2
  have h4:Hid (dW a b=ce b (a+1) 120):=ae (by simp[dW,h3])
  go_enter Tryz.func73,Tryz.ntmps73
  go_wp2_with (go_at_call 34;refine(aB _ _ _ _).mono ?_;rintro e w' ⟨rfl,rfl⟩)
  go_ret
  exact⟨aF (ab h4).symm,ay _ _⟩
 ·have h3:=iN (n:=a) (a:=0) (b:=60) (by omega)
  have h4:Hid (dW a b=false):=ae (by simp[dW,h3])
  go_enter Tryz.func73,Tryz.ntmps73
  go_wp2_with (go_at_call 34;refine(aB _ _ _ _).mono ?_;rintro e w' ⟨rfl,rfl⟩)
  go_ret
  exact⟨aF (ab h4).symm,ay _ _⟩
theorem bp(a b:Int)(w:World):Calls Tryz.prog 67 #[.agg #[.int .i64 a,.int .i64 b]] w fun e w'=>e= .returned (.bool (dW a b))∧Below w.heap.size w w':=by
 by_cases h1:0≤a∧a≤60
 ·obtain⟨h1,h2⟩:=h1
  have h3:=lG h1 h2
  have h4:Hid (dW a b=ce b (a+1) 120):=ae (by simp[dW,h3])
  go_enter Tryz.func67,Tryz.ntmps67
  go_wp2_with (go_at_call 26;refine(aK _ _ _ _).mono ?_;rintro e w' ⟨rfl,rfl⟩)
  go_ret
  exact⟨aF (ab h4).symm,ay _ _⟩
 ·have h3:=iN (n:=a) (a:=0) (b:=60) (by omega)
  have h4:Hid (dW a b=false):=ae (by simp[dW,h3])
  go_enter Tryz.func67,Tryz.ntmps67
  go_wp2_with (go_at_call 26;refine(aK _ _ _ _).mono ?_;rintro e w' ⟨rfl,rfl⟩)
  go_ret
  exact⟨aF (ab h4).symm,ay _ _⟩
theorem kP(a b:Int)(w:World):Calls Tryz.prog 44 #[.agg #[.int .i64 a,.int .i64 b]] w fun e w'=>e= .returned (.bool (dW a b))∧Below w.heap.size w w':=by
 go_enter Tryz.func44,Tryz.ntmps44
 go_wp2_with (go_at_call 73;refine(iQ _ _ _).mono ?_;rintro e w' ⟨rfl,hb⟩)
 go_ret
 exact⟨rfl,ap (ay _ _) hb⟩
/-- When what is known is ok. -/
def eO(n s l m:Int):Bool:=if n=0 then(s==0)&&(l==0)&&(m==0)else ce n 1 1000&&ce l (-9) 9&&ce m l 9&&ce s (n*l) (n*m)
theorem okAgg_0(s l m:Int):eO 0 s l m=((s==0)&&(l==0)&&(m==0)):=rfl
theorem okAgg_n{n:Int}(h:n≠0)(s l m:Int):eO n s l m=(ce n 1 1000&&ce l (-9) 9&&ce m l 9&&ce s (n*l) (n*m)):=if_neg h
theorem lM{n l:Int}(h1:ce n 1 1000=true)(h2:ce l (-9) 9=true): -9000≤n*l∧n*l≤9000:=by
 rw[bQ]at h1 h2
 have a:=Int.mul_le_mul_of_nonneg_left h2.2 (show(0:Int)≤n by omega)
 have b:=Int.mul_le_mul_of_nonneg_left h2.1 (show(0:Int)≤n by omega)
 omega
theorem inB_up{m l:Int}(h1:ce l (-9) 9=true)(h2:ce m l 9=true):ce m (-9) 9=true:=by
 rw[bQ]at*
 omega
theorem bq(n s l m:Int)(w:World):Calls Tryz.prog 68 #[.agg #[.int .i64 n,.int .i64 s,.int .i64 l,.int .i64 m]] w fun e w'=>e= .returned (.bool (eO n s l m))∧Below w.heap.size w w':=by
 by_cases h0:n=0
 ·subst h0
  rw[okAgg_0]
  cases c0:(s==0)<;>cases c1:(l==0)<;>cases c2:(m==0)
  all_goals
   have hq:Hid (true=true):=ae rfl
   go_enter Tryz.func68,Tryz.ntmps68
   go_wp2_with (go_at_call 26;refine(aK _ _ _ _).mono ?_;rintro e w' ⟨rfl,rfl⟩)
   go_ret
   exact⟨rfl,(bd)⟩
 rw[okAgg_n h0]
 have g0:(n==0)=false:=by simpa using h0
 clear h0
 cases c0:ce n 1 1000
 ·have hq:Hid ((false&&ce l (-9) 9&&ce m l 9&&ce s (n*l) (n*m))=false):=ae (by simp)
  go_enter Tryz.func68,Tryz.ntmps68
  go_wp2_with (go_at_call 26;refine(aK _ _ _ _).mono ?_;rintro e w' ⟨rfl,rfl⟩)
  go_ret
  exact⟨aF (ab hq).symm,(bd)⟩
 cases c1:ce l (-9) 9
 ·have hq:Hid ((true&&false&&ce m l 9&&ce s (n*l) (n*m))=false):=ae (by simp)
  go_enter Tryz.func68,Tryz.ntmps68
  go_wp2_with (go_at_call 26;refine(aK _ _ _ _).mono ?_;rintro e w' ⟨rfl,rfl⟩)
  go_ret
  exact⟨aF (ab hq).symm,(bd)⟩
 cases c2:ce m l 9
 ·have hq:Hid ((true&&true&&false&&ce s (n*l) (n*m))=false):=ae (by simp)
  go_enter Tryz.func68,Tryz.ntmps68
  go_wp2_with (go_at_call 26;refine(aK _ _ _ _).mono ?_;rintro e w' ⟨rfl,rfl⟩)
  go_ret
  exact⟨aF (ab hq).symm,(bd)⟩
 have m1:=lM c0 c1
 have m2:=lM c0 (inB_up c1 c2)
 have hq:Hid ((true&&true&&true&&ce s (n*l) (n*m))=ce s (n*l) (n*m)):=ae (by simp)
 go_enter Tryz.func68,Tryz.ntmps68
 go_wp2_with (go_at_call 26;refine(aK _ _ _ _).mono ?_;rintro e w' ⟨rfl,rfl⟩)
 go_ret
 exact⟨aF (ab hq).symm,(bd)⟩
theorem cm(n s l m:Int)(w:World):Calls Tryz.prog 47 #[.agg #[.int .i64 n,.int .i64 s,.int .i64 l,.int .i64 m]] w fun e w'=>e= .returned (.bool (eO n s l m))∧Below w.heap.size w w':=by
 by_cases h0:n=0
 ·subst h0
  rw[okAgg_0]
  cases c0:(s==0)<;>cases c1:(l==0)<;>cases c2:(m==0)
  all_goals
   have hq:Hid (true=true):=ae rfl
   go_enter Tryz.func47,Tryz.ntmps47
   go_wp2_with (go_at_call 34;refine(aB _ _ _ _).mono ?_;rintro e w' ⟨rfl,rfl⟩)
   go_ret
   exact⟨rfl,(bd)⟩
 rw[okAgg_n h0]
 have g0:(n==0)=false:=by simpa using h0
 clear h0
 cases c0:ce n 1 1000
 ·have hq:Hid ((false&&ce l (-9) 9&&ce m l 9&&ce s (n*l) (n*m))=false):=ae (by simp)
  go_enter Tryz.func47,Tryz.ntmps47
  go_wp2_with (go_at_call 34;refine(aB _ _ _ _).mono ?_;rintro e w' ⟨rfl,rfl⟩)
  go_ret
  exact⟨aF (ab hq).symm,(bd)⟩
 cases c1:ce l (-9) 9
 ·have hq:Hid ((true&&false&&ce m l 9&&ce s (n*l) (n*m))=false):=ae (by simp)
  go_enter Tryz.func47,Tryz.ntmps47
  go_wp2_with (go_at_call 34;refine(aB _ _ _ _).mono ?_;rintro e w' ⟨rfl,rfl⟩)
  go_ret
  exact⟨aF (ab hq).symm,(bd)⟩
 cases c2:ce m l 9
 ·have hq:Hid ((true&&true&&false&&ce s (n*l) (n*m))=false):=ae (by simp)
  go_enter Tryz.func47,Tryz.ntmps47
  go_wp2_with (go_at_call 34;refine(aB _ _ _ _).mono ?_;rintro e w' ⟨rfl,rfl⟩)
  go_ret
  exact⟨aF (ab hq).symm,(bd)⟩
 have m1:=lM c0 c1
 have m2:=lM c0 (inB_up c1 c2)
 have hq:Hid ((true&&true&&true&&ce s (n*l) (n*m))=ce s (n*l) (n*m)):=ae (by simp)
 go_enter Tryz.func47,Tryz.ntmps47
 go_wp2_with (go_at_call 34;refine(aB _ _ _ _).mono ?_;rintro e w' ⟨rfl,rfl⟩)
 go_ret
 exact⟨aF (ab hq).symm,(bd)⟩
end Go.Proofs.YtdmhihcipkhecaaGreat
namespace Go.Proofs.YtdmhihcipkhecaaGreat
open Go.ChangeShapes Go.WideShapes Go.ChangeAt Go.RowKit Go.Deep
theorem Tryz.infoOr:(Tryz.prog.info? 57).map (fun i=>(i.zero,i.size,i.bytes))=some (some (.agg #[.int .i64 0,.int .i64 0,.int .i64 0,.int .i64 0,.int .i64 0,.int .i64 0,.int .i64 0,.int .i64 0,.int .i64 0,.int .i64 0,.int .i64 0,.int .i64 0,.bool false]),13,104):=by kernel_rfl
/-- The slice that is being filled. -/
def hU(W:World)(g ty len:Nat)(ys:List aD):Prop:=dG W g ty len∧∀i x,ys[i]? =some x→cQ W g (i*13) x
theorem hU.step{wr w':World}{g ty len k:Nat}{xs:List aD}{x:aD}(h:hU wr g ty len (xs.take k))(hb:Below wr.heap.size wr w')(hk:k<len)(hx:xs[k]? =some x):hU (li w' g (k*13) x) g ty len (xs.take (k+1)):=by
 have hB:=h.1.below hb h.1.lt
 refine⟨hB.sets x,fun i y hy=>?_⟩
 have hik:i<k+1:=by
  rcases Nat.lt_or_ge i (k+1)with h'|h'
  ·exact h'
  ·rw[List.getElem?_eq_none (oV)]at hy;cases hy
 rw[List.getElem?_take_of_lt hik]at hy
 by_cases he:i=k
 ·subst he
  rw[hx]at hy
  cases hy
  exact setOr_this hB hk x
 ·refine setOr_ne ?_ he
  exact(h.2 i y (by rw[List.getElem?_take_of_lt (by omega)];exact hy)).below hb h.1.lt
theorem hU.start{w:World}{ty len:Nat}{C:Array Value}(hC:C.size=len*13)(xs:List aD):hU (w.alloc (.cells C ty)) w.heap.size ty len (xs.take 0):=
 ⟨⟨C,by show(w.heap.push _)[w.heap.size]? =_;simp,hC⟩,fun i x h=>by simp at h⟩
theorem hU.done{W:World}{g ty len k:Nat}{xs:List aD}(h:hU W g ty len (xs.take k))(hk:xs.length≤k):gV W g 0 xs:=by
 intro i x hx
 rw[List.take_of_length_le hk]at h
 simpa using h.2 i x hx
end Go.Proofs.YtdmhihcipkhecaaGreat
namespace Go.Proofs.YtdmhihcipkhecaaGreat
open Go.ChangeShapes Go.WideShapes Go.ChangeAt Go.RowKit
theorem aV(ky st en an asu ale amo fn fsu fle fmo td:Int)(tm:Bool)(w:World):Calls Tryz.prog 58 #[.agg #[.int .i64 ky,.int .i64 st,.int .i64 en,.int .i64 an,.int .i64 asu,.int .i64 ale,.int .i64 amo,.int .i64 fn,.int .i64 fsu,.int .i64 fle,.int .i64 fmo,.int .i64 td,.bool tm]] w fun e' w'=>e'= .returned (.agg #[.int .i64 ky,.int .i64 st,.int .i64 en])∧Below w.heap.size w w':=by
 go_enter Tryz.func58,Tryz.ntmps58
 go_wp2
 refine bodyPost_ret (v:= .agg #[.int .i64 ky,.int .i64 st,.int .i64 en]) (by simp[results,Tryz.results58,go_sem]) rfl ⟨rfl,?_⟩
 exact(ca)
/-- When a window of a key is ok; when a pane is. -/
def eF(ky st en:Int):Bool:=ce ky 0 3&&dW st en
theorem bM(ky st en:Int)(w:World):Calls Tryz.prog 46 #[.agg #[.int .i64 ky,.int .i64 st,.int .i64 en]] w fun e' w'=>e'= .returned (.bool (eF ky st en))∧Below w.heap.size w w':=by
 cases c0:ce ky 0 3
 ·have hq:Hid (eF ky st en=false):=ae (by simp[eF,c0])
  go_enter Tryz.func46,Tryz.ntmps46
  go_wp2_with (first
   |(go_at_call 34;refine(aB _ _ _ _).mono ?_;rintro e' w' ⟨rfl,rfl⟩)
   |(go_at_call 73;refine(iQ _ _ _).mono ?_;rintro e w' ⟨rfl,hb⟩;obtain⟨hc,hf,hs⟩:=aA hb;(try have hz0:=zA hb w.heap.size)))
  go_ret
  exact⟨aF (ab hq).symm,(ca)⟩
 ·have hq:Hid (eF ky st en=dW st en):=ae (by simp[eF,c0])
  go_enter Tryz.func46,Tryz.ntmps46
  go_wp2_with (first
   |(go_at_call 34;refine(aB _ _ _ _).mono ?_;rintro e' w' ⟨rfl,rfl⟩)
   |(go_at_call 73;refine(iQ _ _ _).mono ?_;rintro e w' ⟨rfl,hb⟩;obtain⟨hc,hf,hs⟩:=aA hb;(try have hz0:=zA hb w.heap.size)))
  go_ret
  exact⟨aF (ab hq).symm,(ca)⟩
/-- When a job's step is ok; when a job is. -/
def fU(k z p:Int):Bool:=if k=2 then ce p 1 z&&decide (z≤4*p)else p==0
theorem lN(z p:Int):fU 2 z p=(ce p 1 z&&decide (z≤4*p)):=rfl
theorem stepB_n{k:Int}(h:k≠2)(z p:Int):fU k z p=(p==0):=if_neg h
def aY(s t k z p l e v r:Int):Bool:=ce s 1 3&&ce t 1 2&&ce k 1 3&&ce z 1 20&&fU k z p&&ce l 0 20&&ce e 1 4&&ce v (-9) 9&&ce r 1 4
theorem dl(s t k z p l e:Int)(b:Bool)(v r:Int)(hz:1≤z∧z≤20)(w:World):Calls Tryz.prog 70 #[.agg #[.int .i64 s,.int .i64 t,.int .i64 k,.int .i64 z,.int .i64 p,.int .i64 l,.int .i64 e,.bool b,.int .i64 v,.int .i64 r]] w fun e' w'=>e'= .returned (.bool (fU k z p))∧Below w.heap.size w w':=by
 by_cases h2:k=2
 ·subst h2
  rw[lN]
  cases d0:ce p 1 z
  ·have hq:Hid ((false&&decide (z≤4*p))=false):=ae (by simp)
   go_enter Tryz.func70,Tryz.ntmps70
   go_wp2_with (first
    |(go_at_call 34;refine(aB _ _ _ _).mono ?_;rintro e' w' ⟨rfl,rfl⟩))
   go_ret
   exact⟨aF (ab hq).symm,(bd)⟩
  have hp:=bQ.1 d0
  have hq:Hid ((true&&decide (z≤4*p))=decide (z≤4*p)):=ae (by simp)
  go_enter Tryz.func70,Tryz.ntmps70
  go_wp2_with (first
   |(go_at_call 34;refine(aB _ _ _ _).mono ?_;rintro e' w' ⟨rfl,rfl⟩))
  go_ret
  exact⟨aF (ab hq).symm,(bd)⟩
 rw[stepB_n h2]
 have g2:(k==2)=false:=by simpa using h2
 clear h2
 go_enter Tryz.func70,Tryz.ntmps70
 go_wp2_with (first
  |(go_at_call 34;refine(aB _ _ _ _).mono ?_;rintro e' w' ⟨rfl,rfl⟩))
 go_ret
 exact⟨rfl,(bd)⟩
set_option maxHeartbeats 1000000 in
theorem dI(s t k z p l e:Int)(b:Bool)(v r:Int)(w:World):Calls Tryz.prog 37 #[.agg #[.int .i64 s,.int .i64 t,.int .i64 k,.int .i64 z,.int .i64 p,.int .i64 l,.int .i64 e,.bool b,.int .i64 v,.int .i64 r]] w fun e' w'=>e'= .returned (.bool (aY s t k z p l e v r))∧Below w.heap.size w w':=by
 cases c0:ce s 1 3
 ·have hq:Hid (aY s t k z p l e v r=false):=ae (by simp[aY,c0])
  go_enter Tryz.func37,Tryz.ntmps37
  go_wp2_with (first
   |(go_at_call 26;refine(aK _ _ _ _).mono ?_;rintro e' w' ⟨rfl,rfl⟩))
  go_ret
  exact⟨aF (ab hq).symm,(bd)⟩
 cases c1:ce t 1 2
 ·have hq:Hid (aY s t k z p l e v r=false):=ae (by simp[aY,c0,c1])
  go_enter Tryz.func37,Tryz.ntmps37
  go_wp2_with (first
   |(go_at_call 26;refine(aK _ _ _ _).mono ?_;rintro e' w' ⟨rfl,rfl⟩))
  go_ret
  exact⟨aF (ab hq).symm,(bd)⟩
 cases c2:ce k 1 3
 ·have hq:Hid (aY s t k z p l e v r=false):=ae (by simp[aY,c0,c1,c2])
  go_enter Tryz.func37,Tryz.ntmps37
  go_wp2_with (first
   |(go_at_call 26;refine(aK _ _ _ _).mono ?_;rintro e' w' ⟨rfl,rfl⟩))
  go_ret
  exact⟨aF (ab hq).symm,(bd)⟩
 cases c3:ce z 1 20
 ·have hq:Hid (aY s t k z p l e v r=false):=ae (by simp[aY,c0,c1,c2,c3])
  go_enter Tryz.func37,Tryz.ntmps37
  go_wp2_with (first
   |(go_at_call 26;refine(aK _ _ _ _).mono ?_;rintro e' w' ⟨rfl,rfl⟩))
  go_ret
  exact⟨aF (ab hq).symm,(bd)⟩
 have hz:=bQ.1 c3
 by_cases h2:k=2
 ·subst h2
  have hs:=lN z p
  cases d0:ce p 1 z
  ·have hq:Hid (aY s t 2 z p l e v r=false):=ae (by simp[aY,hs,d0])
   clear hs
   go_enter Tryz.func37,Tryz.ntmps37
   go_wp2_with (first
    |(go_at_call 26;refine(aK _ _ _ _).mono ?_;rintro e' w' ⟨rfl,rfl⟩))
   go_ret
   exact⟨aF (ab hq).symm,(bd)⟩
  have hp:=bQ.1 d0
  by_cases d1:z≤4*p
  ·have hs':fU 2 z p=true:=by rw[hs,d0];simp[d1]
   clear hs
   cases x0:ce l 0 20
   ·have hq:Hid (aY s t 2 z p l e v r=false):=ae (by simp[aY,c0,c1,c2,c3,hs',x0])
    clear hs'
    go_enter Tryz.func37,Tryz.ntmps37
    go_wp2_with (first
     |(go_at_call 26;refine(aK _ _ _ _).mono ?_;rintro e' w' ⟨rfl,rfl⟩))
    go_ret
    exact⟨aF (ab hq).symm,(bd)⟩
   cases x1:ce e 1 4
   ·have hq:Hid (aY s t 2 z p l e v r=false):=ae (by simp[aY,c0,c1,c2,c3,hs',x0,x1])
    clear hs'
    go_enter Tryz.func37,Tryz.ntmps37
    go_wp2_with (first
     |(go_at_call 26;refine(aK _ _ _ _).mono ?_;rintro e' w' ⟨rfl,rfl⟩))
    go_ret
    exact⟨aF (ab hq).symm,(bd)⟩
   cases x2:ce v (-9) 9
   ·have hq:Hid (aY s t 2 z p l e v r=false):=ae (by simp[aY,c0,c1,c2,c3,hs',x0,x1,x2])
    clear hs'
    go_enter Tryz.func37,Tryz.ntmps37
    go_wp2_with (first
     |(go_at_call 26;refine(aK _ _ _ _).mono ?_;rintro e' w' ⟨rfl,rfl⟩))
    go_ret
    exact⟨aF (ab hq).symm,(bd)⟩
   have hq:Hid (aY s t 2 z p l e v r=ce r 1 4):=ae (by simp[aY,c0,c1,c2,c3,hs',x0,x1,x2])
   clear hs'
   go_enter Tryz.func37,Tryz.ntmps37
   go_wp2_with (first
    |(go_at_call 26;refine(aK _ _ _ _).mono ?_;rintro e' w' ⟨rfl,rfl⟩))
   go_ret
   exact⟨aF (ab hq).symm,(bd)⟩
  ·have hs':fU 2 z p=false:=by rw[hs,d0];simp[d1]
   have hq:Hid (aY s t 2 z p l e v r=false):=ae (by simp[aY,hs'])
   clear hs hs'
   go_enter Tryz.func37,Tryz.ntmps37
   go_wp2_with (first
    |(go_at_call 26;refine(aK _ _ _ _).mono ?_;rintro e' w' ⟨rfl,rfl⟩))
   go_ret
   exact⟨aF (ab hq).symm,(bd)⟩
 have hs:=stepB_n h2 z p
 have g2:(k==2)=false:=by simpa using h2
 have g3:(k != 2)=true:=by simpa using h2
 clear h2
 cases d0:(p==0)
 ·have g4:(p != 0)=true:=by simpa using d0
  have hq:Hid (aY s t k z p l e v r=false):=ae (by simp[aY,hs,d0])
  clear hs
  go_enter Tryz.func37,Tryz.ntmps37
  go_wp2_with (first
   |(go_at_call 26;refine(aK _ _ _ _).mono ?_;rintro e' w' ⟨rfl,rfl⟩))
  go_ret
  exact⟨aF (ab hq).symm,(bd)⟩
 have g4:(p != 0)=false:=by simpa using d0
 cases x0:ce l 0 20
 ·have hq:Hid (aY s t k z p l e v r=false):=ae (by simp[aY,c0,c1,c2,c3,hs,d0,x0])
  clear hs
  go_enter Tryz.func37,Tryz.ntmps37
  go_wp2_with (first
   |(go_at_call 26;refine(aK _ _ _ _).mono ?_;rintro e' w' ⟨rfl,rfl⟩))
  go_ret
  exact⟨aF (ab hq).symm,(bd)⟩
 cases x1:ce e 1 4
 ·have hq:Hid (aY s t k z p l e v r=false):=ae (by simp[aY,c0,c1,c2,c3,hs,d0,x0,x1])
  clear hs
  go_enter Tryz.func37,Tryz.ntmps37
  go_wp2_with (first
   |(go_at_call 26;refine(aK _ _ _ _).mono ?_;rintro e' w' ⟨rfl,rfl⟩))
  go_ret
  exact⟨aF (ab hq).symm,(bd)⟩
 cases x2:ce v (-9) 9
 ·have hq:Hid (aY s t k z p l e v r=false):=ae (by simp[aY,c0,c1,c2,c3,hs,d0,x0,x1,x2])
  clear hs
  go_enter Tryz.func37,Tryz.ntmps37
  go_wp2_with (first
   |(go_at_call 26;refine(aK _ _ _ _).mono ?_;rintro e' w' ⟨rfl,rfl⟩))
  go_ret
  exact⟨aF (ab hq).symm,(bd)⟩
 have hq:Hid (aY s t k z p l e v r=ce r 1 4):=ae (by simp[aY,c0,c1,c2,c3,hs,d0,x0,x1,x2])
 clear hs
 go_enter Tryz.func37,Tryz.ntmps37
 go_wp2_with (first
  |(go_at_call 26;refine(aK _ _ _ _).mono ?_;rintro e' w' ⟨rfl,rfl⟩))
 go_ret
 exact⟨aF (ab hq).symm,(bd)⟩
set_option maxHeartbeats 1000000 in
theorem cq(s t k z p l e:Int)(b:Bool)(v r:Int)(w:World):Calls Tryz.prog 41 #[.agg #[.int .i64 s,.int .i64 t,.int .i64 k,.int .i64 z,.int .i64 p,.int .i64 l,.int .i64 e,.bool b,.int .i64 v,.int .i64 r]] w fun e' w'=>e'= .returned (.bool (aY s t k z p l e v r))∧Below w.heap.size w w':=by
 cases c0:ce s 1 3
 ·have hq:Hid (aY s t k z p l e v r=false):=ae (by simp[aY,c0])
  go_enter Tryz.func41,Tryz.ntmps41
  go_wp2_with (first
   |(go_at_call 34;refine(aB _ _ _ _).mono ?_;rintro e' w' ⟨rfl,rfl⟩)
   |(go_at_call 70;refine(dl _ _ _ _ _ _ _ _ _ _ (by omega) _).mono ?_;rintro e' w' ⟨rfl,hb⟩;obtain⟨hc,hf,hsz⟩:=aA hb;(try have hz0:=zA hb w.heap.size)))
  go_ret
  exact⟨aF (ab hq).symm,(bd)⟩
 cases c1:ce t 1 2
 ·have hq:Hid (aY s t k z p l e v r=false):=ae (by simp[aY,c0,c1])
  go_enter Tryz.func41,Tryz.ntmps41
  go_wp2_with (first
   |(go_at_call 34;refine(aB _ _ _ _).mono ?_;rintro e' w' ⟨rfl,rfl⟩)
   |(go_at_call 70;refine(dl _ _ _ _ _ _ _ _ _ _ (by omega) _).mono ?_;rintro e' w' ⟨rfl,hb⟩;obtain⟨hc,hf,hsz⟩:=aA hb;(try have hz0:=zA hb w.heap.size)))
  go_ret
  exact⟨aF (ab hq).symm,(bd)⟩
 cases c2:ce k 1 3
 ·have hq:Hid (aY s t k z p l e v r=false):=ae (by simp[aY,c0,c1,c2])
  go_enter Tryz.func41,Tryz.ntmps41
  go_wp2_with (first
   |(go_at_call 34;refine(aB _ _ _ _).mono ?_;rintro e' w' ⟨rfl,rfl⟩)
   |(go_at_call 70;refine(dl _ _ _ _ _ _ _ _ _ _ (by omega) _).mono ?_;rintro e' w' ⟨rfl,hb⟩;obtain⟨hc,hf,hsz⟩:=aA hb;(try have hz0:=zA hb w.heap.size)))
  go_ret
  exact⟨aF (ab hq).symm,(bd)⟩
 cases c3:ce z 1 20
 ·have hq:Hid (aY s t k z p l e v r=false):=ae (by simp[aY,c0,c1,c2,c3])
  go_enter Tryz.func41,Tryz.ntmps41
  go_wp2_with (first
   |(go_at_call 34;refine(aB _ _ _ _).mono ?_;rintro e' w' ⟨rfl,rfl⟩)
   |(go_at_call 70;refine(dl _ _ _ _ _ _ _ _ _ _ (by omega) _).mono ?_;rintro e' w' ⟨rfl,hb⟩;obtain⟨hc,hf,hsz⟩:=aA hb;(try have hz0:=zA hb w.heap.size)))
  go_ret
  exact⟨aF (ab hq).symm,(bd)⟩
 have hz:=bQ.1 c3
 cases d0:fU k z p
 ·have hq:Hid (aY s t k z p l e v r=false):=ae (by simp[aY,c0,c1,c2,c3,d0])
  go_enter Tryz.func41,Tryz.ntmps41
  go_wp2_with (first
   |(go_at_call 34;refine(aB _ _ _ _).mono ?_;rintro e' w' ⟨rfl,rfl⟩)
   |(go_at_call 70;refine(dl _ _ _ _ _ _ _ _ _ _ (by omega) _).mono ?_;rintro e' w' ⟨rfl,hb⟩;obtain⟨hc,hf,hsz⟩:=aA hb;(try have hz0:=zA hb w.heap.size)))
  go_ret
  exact⟨aF (ab hq).symm,(bd)⟩
 cases d1:ce l 0 20
 ·have hq:Hid (aY s t k z p l e v r=false):=ae (by simp[aY,c0,c1,c2,c3,d0,d1])
  go_enter Tryz.func41,Tryz.ntmps41
  go_wp2_with (first
   |(go_at_call 34;refine(aB _ _ _ _).mono ?_;rintro e' w' ⟨rfl,rfl⟩)
   |(go_at_call 70;refine(dl _ _ _ _ _ _ _ _ _ _ (by omega) _).mono ?_;rintro e' w' ⟨rfl,hb⟩;obtain⟨hc,hf,hsz⟩:=aA hb;(try have hz0:=zA hb w.heap.size)))
  go_ret
  exact⟨aF (ab hq).symm,(bd)⟩
 cases d2:ce e 1 4
 ·have hq:Hid (aY s t k z p l e v r=false):=ae (by simp[aY,c0,c1,c2,c3,d0,d1,d2])
  go_enter Tryz.func41,Tryz.ntmps41
  go_wp2_with (first
   |(go_at_call 34;refine(aB _ _ _ _).mono ?_;rintro e' w' ⟨rfl,rfl⟩)
   |(go_at_call 70;refine(dl _ _ _ _ _ _ _ _ _ _ (by omega) _).mono ?_;rintro e' w' ⟨rfl,hb⟩;obtain⟨hc,hf,hsz⟩:=aA hb;(try have hz0:=zA hb w.heap.size)))
  go_ret
  exact⟨aF (ab hq).symm,(bd)⟩
 cases d3:ce v (-9) 9
 ·have hq:Hid (aY s t k z p l e v r=false):=ae (by simp[aY,c0,c1,c2,c3,d0,d1,d2,d3])
  go_enter Tryz.func41,Tryz.ntmps41
  go_wp2_with (first
   |(go_at_call 34;refine(aB _ _ _ _).mono ?_;rintro e' w' ⟨rfl,rfl⟩)
   |(go_at_call 70;refine(dl _ _ _ _ _ _ _ _ _ _ (by omega) _).mono ?_;rintro e' w' ⟨rfl,hb⟩;obtain⟨hc,hf,hsz⟩:=aA hb;(try have hz0:=zA hb w.heap.size)))
  go_ret
  exact⟨aF (ab hq).symm,(bd)⟩
 have hq:Hid (aY s t k z p l e v r=ce r 1 4):=ae (by simp[aY,c0,c1,c2,c3,d0,d1,d2,d3])
 go_enter Tryz.func41,Tryz.ntmps41
 go_wp2_with (first
  |(go_at_call 34;refine(aB _ _ _ _).mono ?_;rintro e' w' ⟨rfl,rfl⟩)
  |(go_at_call 70;refine(dl _ _ _ _ _ _ _ _ _ _ (by omega) _).mono ?_;rintro e' w' ⟨rfl,hb⟩;obtain⟨hc,hf,hsz⟩:=aA hb;(try have hz0:=zA hb w.heap.size)))
 go_ret
 exact⟨aF (ab hq).symm,(bd)⟩
/-- When a row may be open behind a mark. -/
def bh(l mark:Int)(ky st en an asu ale amo fn fsu fle fmo td:Int)(tm:Bool):Bool:=ce ky 0 3&&dW st en&&eO an asu ale amo&&eO fn fsu fle fmo&&ce td 0 1500&& !(an==0)&&decide (fn≤an)&&decide (mark<en+l)&&(tm==decide (en≤mark))&&(decide (0<td)==decide (en≤mark))&&((fn==0)==decide (en≤mark))
theorem jI{st en:Int}(h:dW st en=true):0≤st∧st<en∧en≤120:=by
 simp only[dW,Bool.and_eq_true]at h
 have h1:=bQ.1 h.1
 have h2:=bQ.1 h.2
 omega
set_option maxRecDepth 20000 in
set_option maxHeartbeats 4000000 in
theorem fw(s t k z p l e:Int)(b:Bool)(v r:Int)(ky st en an asu ale amo fn fsu fle fmo td:Int)(tm:Bool)(mark:Int)(hl:0≤l∧l≤20)(w:World):Calls Tryz.prog 38 #[.agg #[.int .i64 s,.int .i64 t,.int .i64 k,.int .i64 z,.int .i64 p,.int .i64 l,.int .i64 e,.bool b,.int .i64 v,.int .i64 r],.agg #[.int .i64 ky,.int .i64 st,.int .i64 en,.int .i64 an,.int .i64 asu,.int .i64 ale,.int .i64 amo,.int .i64 fn,.int .i64 fsu,.int .i64 fle,.int .i64 fmo,.int .i64 td,.bool tm],.int .i64 mark] w fun e' w'=>e'= .returned (.bool (bh l mark ky st en an asu ale amo fn fsu fle fmo td tm))∧Below w.heap.size w w':=by
 cases c0:ce ky 0 3
 ·have hq:Hid (bh l mark ky st en an asu ale amo fn fsu fle fmo td tm=false):=ae (by simp[bh,c0])
  go_enter Tryz.func38,Tryz.ntmps38
  go_wp2_with (first
   |(go_at_call 26;refine(aK _ _ _ _).mono ?_;rintro e' w' ⟨rfl,rfl⟩)
   |(go_at_call 67;refine(bp _ _ _).mono ?_;rintro e w' ⟨rfl,hb⟩;obtain⟨hc,hf,hs⟩:=aA hb;(try have hz0:=zA hb w.heap.size);(try have hz1:=zA hb (w.heap.size+1)))
   |(go_at_call 68;refine(bq _ _ _ _ _).mono ?_;rintro e w' ⟨rfl,hb⟩;obtain⟨hc,hf,hs⟩:=aA hb;(try have hz0:=zA hb w.heap.size);(try have hz1:=zA hb (w.heap.size+1))))
  go_ret
  exact⟨aF (ab hq).symm,(ca)⟩
 cases c1:dW st en
 ·have hq:Hid (bh l mark ky st en an asu ale amo fn fsu fle fmo td tm=false):=ae (by simp[bh,c0,c1])
  go_enter Tryz.func38,Tryz.ntmps38
  go_wp2_with (first
   |(go_at_call 26;refine(aK _ _ _ _).mono ?_;rintro e' w' ⟨rfl,rfl⟩)
   |(go_at_call 67;refine(bp _ _ _).mono ?_;rintro e w' ⟨rfl,hb⟩;obtain⟨hc,hf,hs⟩:=aA hb;(try have hz0:=zA hb w.heap.size);(try have hz1:=zA hb (w.heap.size+1)))
   |(go_at_call 68;refine(bq _ _ _ _ _).mono ?_;rintro e w' ⟨rfl,hb⟩;obtain⟨hc,hf,hs⟩:=aA hb;(try have hz0:=zA hb w.heap.size);(try have hz1:=zA hb (w.heap.size+1))))
  go_ret
  exact⟨aF (ab hq).symm,(ca)⟩
 have hen:=jI c1
 cases c2:eO an asu ale amo
 ·have hq:Hid (bh l mark ky st en an asu ale amo fn fsu fle fmo td tm=false):=ae (by simp[bh,c0,c1,c2])
  go_enter Tryz.func38,Tryz.ntmps38
  go_wp2_with (first
   |(go_at_call 26;refine(aK _ _ _ _).mono ?_;rintro e' w' ⟨rfl,rfl⟩)
   |(go_at_call 67;refine(bp _ _ _).mono ?_;rintro e w' ⟨rfl,hb⟩;obtain⟨hc,hf,hs⟩:=aA hb;(try have hz0:=zA hb w.heap.size);(try have hz1:=zA hb (w.heap.size+1)))
   |(go_at_call 68;refine(bq _ _ _ _ _).mono ?_;rintro e w' ⟨rfl,hb⟩;obtain⟨hc,hf,hs⟩:=aA hb;(try have hz0:=zA hb w.heap.size);(try have hz1:=zA hb (w.heap.size+1))))
  go_ret
  exact⟨aF (ab hq).symm,(ca)⟩
 cases c3:(an==0)
 ·cases c4:eO fn fsu fle fmo
  ·have hq:Hid (bh l mark ky st en an asu ale amo fn fsu fle fmo td tm=false):=ae (by simp[bh,c0,c1,c2,c3,c4])
   go_enter Tryz.func38,Tryz.ntmps38
   go_wp2_with (first
    |(go_at_call 26;refine(aK _ _ _ _).mono ?_;rintro e' w' ⟨rfl,rfl⟩)
    |(go_at_call 67;refine(bp _ _ _).mono ?_;rintro e w' ⟨rfl,hb⟩;obtain⟨hc,hf,hs⟩:=aA hb;(try have hz0:=zA hb w.heap.size);(try have hz1:=zA hb (w.heap.size+1)))
    |(go_at_call 68;refine(bq _ _ _ _ _).mono ?_;rintro e w' ⟨rfl,hb⟩;obtain⟨hc,hf,hs⟩:=aA hb;(try have hz0:=zA hb w.heap.size);(try have hz1:=zA hb (w.heap.size+1))))
   go_ret
   exact⟨aF (ab hq).symm,(ca)⟩
  by_cases c5:fn≤an
  ·cases c6:ce td 0 1500
   ·have hq:Hid (bh l mark ky st en an asu ale amo fn fsu fle fmo td tm=false):=ae (by simp[bh,c0,c1,c2,c3,c4,c5,c6])
    go_enter Tryz.func38,Tryz.ntmps38
    go_wp2_with (first
     |(go_at_call 26;refine(aK _ _ _ _).mono ?_;rintro e' w' ⟨rfl,rfl⟩)
     |(go_at_call 67;refine(bp _ _ _).mono ?_;rintro e w' ⟨rfl,hb⟩;obtain⟨hc,hf,hs⟩:=aA hb;(try have hz0:=zA hb w.heap.size);(try have hz1:=zA hb (w.heap.size+1)))
     |(go_at_call 68;refine(bq _ _ _ _ _).mono ?_;rintro e w' ⟨rfl,hb⟩;obtain⟨hc,hf,hs⟩:=aA hb;(try have hz0:=zA hb w.heap.size);(try have hz1:=zA hb (w.heap.size+1))))
    go_ret
    exact⟨aF (ab hq).symm,(ca)⟩
   by_cases ov:en≤mark
   ·cases tm
    ·have hq:Hid (bh l mark ky st en an asu ale amo fn fsu fle fmo td false=false):=ae (by simp[bh,c0,c1,c2,c3,c4,c5,c6,ov])
     go_enter Tryz.func38,Tryz.ntmps38
     go_wp2_with (first
      |(go_at_call 26;refine(aK _ _ _ _).mono ?_;rintro e' w' ⟨rfl,rfl⟩)
      |(go_at_call 67;refine(bp _ _ _).mono ?_;rintro e w' ⟨rfl,hb⟩;obtain⟨hc,hf,hs⟩:=aA hb;(try have hz0:=zA hb w.heap.size);(try have hz1:=zA hb (w.heap.size+1)))
      |(go_at_call 68;refine(bq _ _ _ _ _).mono ?_;rintro e w' ⟨rfl,hb⟩;obtain⟨hc,hf,hs⟩:=aA hb;(try have hz0:=zA hb w.heap.size);(try have hz1:=zA hb (w.heap.size+1))))
     go_ret
     exact⟨aF (ab hq).symm,(ca)⟩
    ·by_cases c7:mark<en+l
     ·by_cases tp:0<td
      ·cases fz:(fn==0)
       ·have hq:Hid (bh l mark ky st en an asu ale amo fn fsu fle fmo td true=false):=ae (by simp[bh,c0,c1,c2,c3,c4,c5,c6,c7,ov,tp,fz])
        go_enter Tryz.func38,Tryz.ntmps38
        go_wp2_with (first
         |(go_at_call 26;refine(aK _ _ _ _).mono ?_;rintro e' w' ⟨rfl,rfl⟩)
         |(go_at_call 67;refine(bp _ _ _).mono ?_;rintro e w' ⟨rfl,hb⟩;obtain⟨hc,hf,hs⟩:=aA hb;(try have hz0:=zA hb w.heap.size);(try have hz1:=zA hb (w.heap.size+1)))
         |(go_at_call 68;refine(bq _ _ _ _ _).mono ?_;rintro e w' ⟨rfl,hb⟩;obtain⟨hc,hf,hs⟩:=aA hb;(try have hz0:=zA hb w.heap.size);(try have hz1:=zA hb (w.heap.size+1))))
        go_ret
        exact⟨aF (ab hq).symm,(ca)⟩
       ·have hq:Hid (bh l mark ky st en an asu ale amo fn fsu fle fmo td true=true):=ae (by simp[bh,c0,c1,c2,c3,c4,c5,c6,c7,ov,tp,fz])
        go_enter Tryz.func38,Tryz.ntmps38
        go_wp2_with (first
         |(go_at_call 26;refine(aK _ _ _ _).mono ?_;rintro e' w' ⟨rfl,rfl⟩)
         |(go_at_call 67;refine(bp _ _ _).mono ?_;rintro e w' ⟨rfl,hb⟩;obtain⟨hc,hf,hs⟩:=aA hb;(try have hz0:=zA hb w.heap.size);(try have hz1:=zA hb (w.heap.size+1)))
         |(go_at_call 68;refine(bq _ _ _ _ _).mono ?_;rintro e w' ⟨rfl,hb⟩;obtain⟨hc,hf,hs⟩:=aA hb;(try have hz0:=zA hb w.heap.size);(try have hz1:=zA hb (w.heap.size+1))))
        go_ret
        exact⟨aF (by first|exact(ab hq).symm|(rw[ab hq];simp[ov,tp])),(ca)⟩
      ·have hq:Hid (bh l mark ky st en an asu ale amo fn fsu fle fmo td true=false):=ae (by simp[bh,c0,c1,c2,c3,c4,c5,c6,c7,ov,tp])
       go_enter Tryz.func38,Tryz.ntmps38
       go_wp2_with (first
        |(go_at_call 26;refine(aK _ _ _ _).mono ?_;rintro e' w' ⟨rfl,rfl⟩)
        |(go_at_call 67;refine(bp _ _ _).mono ?_;rintro e w' ⟨rfl,hb⟩;obtain⟨hc,hf,hs⟩:=aA hb;(try have hz0:=zA hb w.heap.size);(try have hz1:=zA hb (w.heap.size+1)))
        |(go_at_call 68;refine(bq _ _ _ _ _).mono ?_;rintro e w' ⟨rfl,hb⟩;obtain⟨hc,hf,hs⟩:=aA hb;(try have hz0:=zA hb w.heap.size);(try have hz1:=zA hb (w.heap.size+1))))
       go_ret
       exact⟨aF (ab hq).symm,(ca)⟩
     ·have hq:Hid (bh l mark ky st en an asu ale amo fn fsu fle fmo td true=false):=ae (by simp[bh,c0,c1,c2,c3,c4,c5,c6,ov,c7])
      go_enter Tryz.func38,Tryz.ntmps38
      go_wp2_with (first
       |(go_at_call 26;refine(aK _ _ _ _).mono ?_;rintro e' w' ⟨rfl,rfl⟩)
       |(go_at_call 67;refine(bp _ _ _).mono ?_;rintro e w' ⟨rfl,hb⟩;obtain⟨hc,hf,hs⟩:=aA hb;(try have hz0:=zA hb w.heap.size);(try have hz1:=zA hb (w.heap.size+1)))
       |(go_at_call 68;refine(bq _ _ _ _ _).mono ?_;rintro e w' ⟨rfl,hb⟩;obtain⟨hc,hf,hs⟩:=aA hb;(try have hz0:=zA hb w.heap.size);(try have hz1:=zA hb (w.heap.size+1))))
      go_ret
      exact⟨aF (ab hq).symm,(ca)⟩
   ·cases tm
    ·by_cases c7:mark<en+l
     ·by_cases tp:0<td
      ·have hq:Hid (bh l mark ky st en an asu ale amo fn fsu fle fmo td false=false):=ae (by simp[bh,c0,c1,c2,c3,c4,c5,c6,c7,ov,tp])
       go_enter Tryz.func38,Tryz.ntmps38
       go_wp2_with (first
        |(go_at_call 26;refine(aK _ _ _ _).mono ?_;rintro e' w' ⟨rfl,rfl⟩)
        |(go_at_call 67;refine(bp _ _ _).mono ?_;rintro e w' ⟨rfl,hb⟩;obtain⟨hc,hf,hs⟩:=aA hb;(try have hz0:=zA hb w.heap.size);(try have hz1:=zA hb (w.heap.size+1)))
        |(go_at_call 68;refine(bq _ _ _ _ _).mono ?_;rintro e w' ⟨rfl,hb⟩;obtain⟨hc,hf,hs⟩:=aA hb;(try have hz0:=zA hb w.heap.size);(try have hz1:=zA hb (w.heap.size+1))))
       go_ret
       exact⟨aF (ab hq).symm,(ca)⟩
      ·cases fz:(fn==0)
       ·have hq:Hid (bh l mark ky st en an asu ale amo fn fsu fle fmo td false=true):=ae (by simp[bh,c0,c1,c2,c3,c4,c5,c6,c7,ov,tp,fz])
        go_enter Tryz.func38,Tryz.ntmps38
        go_wp2_with (first
         |(go_at_call 26;refine(aK _ _ _ _).mono ?_;rintro e' w' ⟨rfl,rfl⟩)
         |(go_at_call 67;refine(bp _ _ _).mono ?_;rintro e w' ⟨rfl,hb⟩;obtain⟨hc,hf,hs⟩:=aA hb;(try have hz0:=zA hb w.heap.size);(try have hz1:=zA hb (w.heap.size+1)))
         |(go_at_call 68;refine(bq _ _ _ _ _).mono ?_;rintro e w' ⟨rfl,hb⟩;obtain⟨hc,hf,hs⟩:=aA hb;(try have hz0:=zA hb w.heap.size);(try have hz1:=zA hb (w.heap.size+1))))
        go_ret
        exact⟨aF (by first|exact(ab hq).symm|(rw[ab hq];simp[ov,tp])),(ca)⟩
       ·have hq:Hid (bh l mark ky st en an asu ale amo fn fsu fle fmo td false=false):=ae (by simp[bh,c0,c1,c2,c3,c4,c5,c6,c7,ov,tp,fz])
        go_enter Tryz.func38,Tryz.ntmps38
        go_wp2_with (first
         |(go_at_call 26;refine(aK _ _ _ _).mono ?_;rintro e' w' ⟨rfl,rfl⟩)
         |(go_at_call 67;refine(bp _ _ _).mono ?_;rintro e w' ⟨rfl,hb⟩;obtain⟨hc,hf,hs⟩:=aA hb;(try have hz0:=zA hb w.heap.size);(try have hz1:=zA hb (w.heap.size+1)))
         |(go_at_call 68;refine(bq _ _ _ _ _).mono ?_;rintro e w' ⟨rfl,hb⟩;obtain⟨hc,hf,hs⟩:=aA hb;(try have hz0:=zA hb w.heap.size);(try have hz1:=zA hb (w.heap.size+1))))
        go_ret
        exact⟨aF (ab hq).symm,(ca)⟩
     ·exfalso;omega
    ·have hq:Hid (bh l mark ky st en an asu ale amo fn fsu fle fmo td true=false):=ae (by simp[bh,c0,c1,c2,c3,c4,c5,c6,ov])
     go_enter Tryz.func38,Tryz.ntmps38
     go_wp2_with (first
      |(go_at_call 26;refine(aK _ _ _ _).mono ?_;rintro e' w' ⟨rfl,rfl⟩)
      |(go_at_call 67;refine(bp _ _ _).mono ?_;rintro e w' ⟨rfl,hb⟩;obtain⟨hc,hf,hs⟩:=aA hb;(try have hz0:=zA hb w.heap.size);(try have hz1:=zA hb (w.heap.size+1)))
      |(go_at_call 68;refine(bq _ _ _ _ _).mono ?_;rintro e w' ⟨rfl,hb⟩;obtain⟨hc,hf,hs⟩:=aA hb;(try have hz0:=zA hb w.heap.size);(try have hz1:=zA hb (w.heap.size+1))))
     go_ret
     exact⟨aF (ab hq).symm,(ca)⟩
  ·have hq:Hid (bh l mark ky st en an asu ale amo fn fsu fle fmo td tm=false):=ae (by simp[bh,c0,c1,c2,c3,c4,c5])
   go_enter Tryz.func38,Tryz.ntmps38
   go_wp2_with (first
    |(go_at_call 26;refine(aK _ _ _ _).mono ?_;rintro e' w' ⟨rfl,rfl⟩)
    |(go_at_call 67;refine(bp _ _ _).mono ?_;rintro e w' ⟨rfl,hb⟩;obtain⟨hc,hf,hs⟩:=aA hb;(try have hz0:=zA hb w.heap.size);(try have hz1:=zA hb (w.heap.size+1)))
    |(go_at_call 68;refine(bq _ _ _ _ _).mono ?_;rintro e w' ⟨rfl,hb⟩;obtain⟨hc,hf,hs⟩:=aA hb;(try have hz0:=zA hb w.heap.size);(try have hz1:=zA hb (w.heap.size+1))))
   go_ret
   exact⟨aF (ab hq).symm,(ca)⟩
 ·have hq:Hid (bh l mark ky st en an asu ale amo fn fsu fle fmo td tm=false):=ae (by simp[bh,c0,c1,c2,c3])
  go_enter Tryz.func38,Tryz.ntmps38
  go_wp2_with (first
   |(go_at_call 26;refine(aK _ _ _ _).mono ?_;rintro e' w' ⟨rfl,rfl⟩)
   |(go_at_call 67;refine(bp _ _ _).mono ?_;rintro e w' ⟨rfl,hb⟩;obtain⟨hc,hf,hs⟩:=aA hb;(try have hz0:=zA hb w.heap.size);(try have hz1:=zA hb (w.heap.size+1)))
   |(go_at_call 68;refine(bq _ _ _ _ _).mono ?_;rintro e w' ⟨rfl,hb⟩;obtain⟨hc,hf,hs⟩:=aA hb;(try have hz0:=zA hb w.heap.size);(try have hz1:=zA hb (w.heap.size+1))))
  go_ret
  exact⟨aF (ab hq).symm,(ca)⟩
theorem cL{l mark:Int}(ky st en an asu ale amo fn fsu fle fmo td:Int)(tm:Bool):bh l mark ky st en an asu ale amo fn fsu fle fmo td tm=(eF ky st en&&eO an asu ale amo&&eO fn fsu fle fmo&&ce td 0 1500&& !(an==0)&&decide (fn≤an)&&decide (mark<en+l)&&(tm==decide (en≤mark))&&(decide (0<td)==decide (en≤mark))&&((fn==0)==decide (en≤mark))):=rfl
set_option maxRecDepth 20000 in
set_option maxHeartbeats 4000000 in
theorem fx(ky st en an asu ale amo fn fsu fle fmo td:Int)(tm:Bool)(mark l:Int)(hl:0≤l∧l≤20)(w:World):Calls Tryz.prog 42 #[.agg #[.int .i64 ky,.int .i64 st,.int .i64 en,.int .i64 an,.int .i64 asu,.int .i64 ale,.int .i64 amo,.int .i64 fn,.int .i64 fsu,.int .i64 fle,.int .i64 fmo,.int .i64 td,.bool tm],.int .i64 mark,.int .i64 l] w fun e' w'=>e'= .returned (.bool (bh l mark ky st en an asu ale amo fn fsu fle fmo td tm))∧Below w.heap.size w w':=by
 cases c0:eF ky st en
 ·have hq:Hid (bh l mark ky st en an asu ale amo fn fsu fle fmo td tm=false):=ae (by simp[cL,c0])
  go_enter Tryz.func42,Tryz.ntmps42
  go_wp2_with (first
   |(go_at_call 58;refine(aV _ _ _ _ _ _ _ _ _ _ _ _ _ _).mono ?_;rintro e w' ⟨rfl,hb⟩;obtain⟨hc,hf,hs⟩:=aA hb;(try have hz0:=zA hb w.heap.size);(try have hz1:=zA hb (w.heap.size+1)))
   |(go_at_call 46;refine(bM _ _ _ _).mono ?_;rintro e w' ⟨rfl,hb⟩;obtain⟨hc,hf,hs⟩:=aA hb;(try have hz0:=zA hb w.heap.size);(try have hz1:=zA hb (w.heap.size+1)))
   |(go_at_call 34;refine(aB _ _ _ _).mono ?_;rintro e' w' ⟨rfl,rfl⟩)
   |(go_at_call 47;refine(cm _ _ _ _ _).mono ?_;rintro e w' ⟨rfl,hb⟩;obtain⟨hc,hf,hs⟩:=aA hb;(try have hz0:=zA hb w.heap.size);(try have hz1:=zA hb (w.heap.size+1))))
  go_ret
  exact⟨aF (ab hq).symm,(ca)⟩
 have c1:dW st en=true:=by simp only[eF,Bool.and_eq_true]at c0;exact c0.2
 have cc0:ce ky 0 3=true:=by simp only[eF,Bool.and_eq_true]at c0;exact c0.1
 have hen:=jI c1
 cases c2:eO an asu ale amo
 ·have hq:Hid (bh l mark ky st en an asu ale amo fn fsu fle fmo td tm=false):=ae (by simp[cL,c0,c2])
  go_enter Tryz.func42,Tryz.ntmps42
  go_wp2_with (first
   |(go_at_call 58;refine(aV _ _ _ _ _ _ _ _ _ _ _ _ _ _).mono ?_;rintro e w' ⟨rfl,hb⟩;obtain⟨hc,hf,hs⟩:=aA hb;(try have hz0:=zA hb w.heap.size);(try have hz1:=zA hb (w.heap.size+1)))
   |(go_at_call 46;refine(bM _ _ _ _).mono ?_;rintro e w' ⟨rfl,hb⟩;obtain⟨hc,hf,hs⟩:=aA hb;(try have hz0:=zA hb w.heap.size);(try have hz1:=zA hb (w.heap.size+1)))
   |(go_at_call 34;refine(aB _ _ _ _).mono ?_;rintro e' w' ⟨rfl,rfl⟩)
   |(go_at_call 47;refine(cm _ _ _ _ _).mono ?_;rintro e w' ⟨rfl,hb⟩;obtain⟨hc,hf,hs⟩:=aA hb;(try have hz0:=zA hb w.heap.size);(try have hz1:=zA hb (w.heap.size+1))))
  go_ret
  exact⟨aF (ab hq).symm,(ca)⟩
 cases c4:eO fn fsu fle fmo
 ·have hq:Hid (bh l mark ky st en an asu ale amo fn fsu fle fmo td tm=false):=ae (by simp[cL,c0,c2,c4])
  go_enter Tryz.func42,Tryz.ntmps42
  go_wp2_with (first
   |(go_at_call 58;refine(aV _ _ _ _ _ _ _ _ _ _ _ _ _ _).mono ?_;rintro e w' ⟨rfl,hb⟩;obtain⟨hc,hf,hs⟩:=aA hb;(try have hz0:=zA hb w.heap.size);(try have hz1:=zA hb (w.heap.size+1)))
   |(go_at_call 46;refine(bM _ _ _ _).mono ?_;rintro e w' ⟨rfl,hb⟩;obtain⟨hc,hf,hs⟩:=aA hb;(try have hz0:=zA hb w.heap.size);(try have hz1:=zA hb (w.heap.size+1)))
   |(go_at_call 34;refine(aB _ _ _ _).mono ?_;rintro e' w' ⟨rfl,rfl⟩)
   |(go_at_call 47;refine(cm _ _ _ _ _).mono ?_;rintro e w' ⟨rfl,hb⟩;obtain⟨hc,hf,hs⟩:=aA hb;(try have hz0:=zA hb w.heap.size);(try have hz1:=zA hb (w.heap.size+1))))
  go_ret
  exact⟨aF (ab hq).symm,(ca)⟩
 cases c6:ce td 0 1500
 ·have hq:Hid (bh l mark ky st en an asu ale amo fn fsu fle fmo td tm=false):=ae (by simp[cL,c0,c2,c4,c6])
  go_enter Tryz.func42,Tryz.ntmps42
  go_wp2_with (first
   |(go_at_call 58;refine(aV _ _ _ _ _ _ _ _ _ _ _ _ _ _).mono ?_;rintro e w' ⟨rfl,hb⟩;obtain⟨hc,hf,hs⟩:=aA hb;(try have hz0:=zA hb w.heap.size);(try have hz1:=zA hb (w.heap.size+1)))
   |(go_at_call 46;refine(bM _ _ _ _).mono ?_;rintro e w' ⟨rfl,hb⟩;obtain⟨hc,hf,hs⟩:=aA hb;(try have hz0:=zA hb w.heap.size);(try have hz1:=zA hb (w.heap.size+1)))
   |(go_at_call 34;refine(aB _ _ _ _).mono ?_;rintro e' w' ⟨rfl,rfl⟩)
   |(go_at_call 47;refine(cm _ _ _ _ _).mono ?_;rintro e w' ⟨rfl,hb⟩;obtain⟨hc,hf,hs⟩:=aA hb;(try have hz0:=zA hb w.heap.size);(try have hz1:=zA hb (w.heap.size+1))))
  go_ret
  exact⟨aF (ab hq).symm,(ca)⟩
 cases c3:(an==0)
 ·by_cases c5:fn≤an
  ·by_cases c7:mark<en+l
   ·by_cases ov:en≤mark
    ·cases tm
     ·have hq:Hid (bh l mark ky st en an asu ale amo fn fsu fle fmo td false=false):=ae (by simp[cL,c0,c2,c4,c6,c3,c5,c7,ov])
      go_enter Tryz.func42,Tryz.ntmps42
      go_wp2_with (first
       |(go_at_call 58;refine(aV _ _ _ _ _ _ _ _ _ _ _ _ _ _).mono ?_;rintro e w' ⟨rfl,hb⟩;obtain⟨hc,hf,hs⟩:=aA hb;(try have hz0:=zA hb w.heap.size);(try have hz1:=zA hb (w.heap.size+1)))
       |(go_at_call 46;refine(bM _ _ _ _).mono ?_;rintro e w' ⟨rfl,hb⟩;obtain⟨hc,hf,hs⟩:=aA hb;(try have hz0:=zA hb w.heap.size);(try have hz1:=zA hb (w.heap.size+1)))
       |(go_at_call 34;refine(aB _ _ _ _).mono ?_;rintro e' w' ⟨rfl,rfl⟩)
       |(go_at_call 47;refine(cm _ _ _ _ _).mono ?_;rintro e w' ⟨rfl,hb⟩;obtain⟨hc,hf,hs⟩:=aA hb;(try have hz0:=zA hb w.heap.size);(try have hz1:=zA hb (w.heap.size+1))))
      go_ret
      exact⟨aF (ab hq).symm,(ca)⟩
     ·by_cases tp:0<td
      ·cases fz:(fn==0)
       ·have hq:Hid (bh l mark ky st en an asu ale amo fn fsu fle fmo td true=false):=ae (by simp[cL,c0,c2,c4,c6,c3,c5,c7,ov,tp,fz])
        go_enter Tryz.func42,Tryz.ntmps42
        go_wp2_with (first
         |(go_at_call 58;refine(aV _ _ _ _ _ _ _ _ _ _ _ _ _ _).mono ?_;rintro e w' ⟨rfl,hb⟩;obtain⟨hc,hf,hs⟩:=aA hb;(try have hz0:=zA hb w.heap.size);(try have hz1:=zA hb (w.heap.size+1)))
         |(go_at_call 46;refine(bM _ _ _ _).mono ?_;rintro e w' ⟨rfl,hb⟩;obtain⟨hc,hf,hs⟩:=aA hb;(try have hz0:=zA hb w.heap.size);(try have hz1:=zA hb (w.heap.size+1)))
         |(go_at_call 34;refine(aB _ _ _ _).mono ?_;rintro e' w' ⟨rfl,rfl⟩)
         |(go_at_call 47;refine(cm _ _ _ _ _).mono ?_;rintro e w' ⟨rfl,hb⟩;obtain⟨hc,hf,hs⟩:=aA hb;(try have hz0:=zA hb w.heap.size);(try have hz1:=zA hb (w.heap.size+1))))
        go_ret
        exact⟨aF (ab hq).symm,(ca)⟩
       ·have hq:Hid (bh l mark ky st en an asu ale amo fn fsu fle fmo td true=true):=ae (by simp[cL,c0,c2,c4,c6,c3,c5,c7,ov,tp,fz])
        go_enter Tryz.func42,Tryz.ntmps42
        go_wp2_with (first
         |(go_at_call 58;refine(aV _ _ _ _ _ _ _ _ _ _ _ _ _ _).mono ?_;rintro e w' ⟨rfl,hb⟩;obtain⟨hc,hf,hs⟩:=aA hb;(try have hz0:=zA hb w.heap.size);(try have hz1:=zA hb (w.heap.size+1)))
         |(go_at_call 46;refine(bM _ _ _ _).mono ?_;rintro e w' ⟨rfl,hb⟩;obtain⟨hc,hf,hs⟩:=aA hb;(try have hz0:=zA hb w.heap.size);(try have hz1:=zA hb (w.heap.size+1)))
         |(go_at_call 34;refine(aB _ _ _ _).mono ?_;rintro e' w' ⟨rfl,rfl⟩)
         |(go_at_call 47;refine(cm _ _ _ _ _).mono ?_;rintro e w' ⟨rfl,hb⟩;obtain⟨hc,hf,hs⟩:=aA hb;(try have hz0:=zA hb w.heap.size);(try have hz1:=zA hb (w.heap.size+1))))
        go_ret
        exact⟨aF (by first|exact(ab hq).symm|(rw[ab hq];simp[ov])),(ca)⟩
      ·have hq:Hid (bh l mark ky st en an asu ale amo fn fsu fle fmo td true=false):=ae (by simp[cL,c0,c2,c4,c6,c3,c5,c7,ov,tp])
       go_enter Tryz.func42,Tryz.ntmps42
       go_wp2_with (first
        |(go_at_call 58;refine(aV _ _ _ _ _ _ _ _ _ _ _ _ _ _).mono ?_;rintro e w' ⟨rfl,hb⟩;obtain⟨hc,hf,hs⟩:=aA hb;(try have hz0:=zA hb w.heap.size);(try have hz1:=zA hb (w.heap.size+1)))
        |(go_at_call 46;refine(bM _ _ _ _).mono ?_;rintro e w' ⟨rfl,hb⟩;obtain⟨hc,hf,hs⟩:=aA hb;(try have hz0:=zA hb w.heap.size);(try have hz1:=zA hb (w.heap.size+1)))
        |(go_at_call 34;refine(aB _ _ _ _).mono ?_;rintro e' w' ⟨rfl,rfl⟩)
        |(go_at_call 47;refine(cm _ _ _ _ _).mono ?_;rintro e w' ⟨rfl,hb⟩;obtain⟨hc,hf,hs⟩:=aA hb;(try have hz0:=zA hb w.heap.size);(try have hz1:=zA hb (w.heap.size+1))))
       go_ret
       exact⟨aF (ab hq).symm,(ca)⟩
    ·cases tm
     ·by_cases tp:0<td
      ·have hq:Hid (bh l mark ky st en an asu ale amo fn fsu fle fmo td false=false):=ae (by simp[cL,c0,c2,c4,c6,c3,c5,c7,ov,tp])
       go_enter Tryz.func42,Tryz.ntmps42
       go_wp2_with (first
        |(go_at_call 58;refine(aV _ _ _ _ _ _ _ _ _ _ _ _ _ _).mono ?_;rintro e w' ⟨rfl,hb⟩;obtain⟨hc,hf,hs⟩:=aA hb;(try have hz0:=zA hb w.heap.size);(try have hz1:=zA hb (w.heap.size+1)))
        |(go_at_call 46;refine(bM _ _ _ _).mono ?_;rintro e w' ⟨rfl,hb⟩;obtain⟨hc,hf,hs⟩:=aA hb;(try have hz0:=zA hb w.heap.size);(try have hz1:=zA hb (w.heap.size+1)))
        |(go_at_call 34;refine(aB _ _ _ _).mono ?_;rintro e' w' ⟨rfl,rfl⟩)
        |(go_at_call 47;refine(cm _ _ _ _ _).mono ?_;rintro e w' ⟨rfl,hb⟩;obtain⟨hc,hf,hs⟩:=aA hb;(try have hz0:=zA hb w.heap.size);(try have hz1:=zA hb (w.heap.size+1))))
       go_ret
       exact⟨aF (ab hq).symm,(ca)⟩
      ·cases fz:(fn==0)
       ·have hq:Hid (bh l mark ky st en an asu ale amo fn fsu fle fmo td false=true):=ae (by simp[cL,c0,c2,c4,c6,c3,c5,c7,ov,tp,fz])
        go_enter Tryz.func42,Tryz.ntmps42
        go_wp2_with (first
         |(go_at_call 58;refine(aV _ _ _ _ _ _ _ _ _ _ _ _ _ _).mono ?_;rintro e w' ⟨rfl,hb⟩;obtain⟨hc,hf,hs⟩:=aA hb;(try have hz0:=zA hb w.heap.size);(try have hz1:=zA hb (w.heap.size+1)))
         |(go_at_call 46;refine(bM _ _ _ _).mono ?_;rintro e w' ⟨rfl,hb⟩;obtain⟨hc,hf,hs⟩:=aA hb;(try have hz0:=zA hb w.heap.size);(try have hz1:=zA hb (w.heap.size+1)))
         |(go_at_call 34;refine(aB _ _ _ _).mono ?_;rintro e' w' ⟨rfl,rfl⟩)
         |(go_at_call 47;refine(cm _ _ _ _ _).mono ?_;rintro e w' ⟨rfl,hb⟩;obtain⟨hc,hf,hs⟩:=aA hb;(try have hz0:=zA hb w.heap.size);(try have hz1:=zA hb (w.heap.size+1))))
        go_ret
        exact⟨aF (by first|exact(ab hq).symm|(rw[ab hq];simp[ov])),(ca)⟩
       ·have hq:Hid (bh l mark ky st en an asu ale amo fn fsu fle fmo td false=false):=ae (by simp[cL,c0,c2,c4,c6,c3,c5,c7,ov,tp,fz])
        go_enter Tryz.func42,Tryz.ntmps42
        go_wp2_with (first
         |(go_at_call 58;refine(aV _ _ _ _ _ _ _ _ _ _ _ _ _ _).mono ?_;rintro e w' ⟨rfl,hb⟩;obtain⟨hc,hf,hs⟩:=aA hb;(try have hz0:=zA hb w.heap.size);(try have hz1:=zA hb (w.heap.size+1)))
         |(go_at_call 46;refine(bM _ _ _ _).mono ?_;rintro e w' ⟨rfl,hb⟩;obtain⟨hc,hf,hs⟩:=aA hb;(try have hz0:=zA hb w.heap.size);(try have hz1:=zA hb (w.heap.size+1)))
         |(go_at_call 34;refine(aB _ _ _ _).mono ?_;rintro e' w' ⟨rfl,rfl⟩)
         |(go_at_call 47;refine(cm _ _ _ _ _).mono ?_;rintro e w' ⟨rfl,hb⟩;obtain⟨hc,hf,hs⟩:=aA hb;(try have hz0:=zA hb w.heap.size);(try have hz1:=zA hb (w.heap.size+1))))
        go_ret
        exact⟨aF (ab hq).symm,(ca)⟩
     ·have hq:Hid (bh l mark ky st en an asu ale amo fn fsu fle fmo td true=false):=ae (by simp[cL,c0,c2,c4,c6,c3,c5,c7,ov])
      go_enter Tryz.func42,Tryz.ntmps42
      go_wp2_with (first
       |(go_at_call 58;refine(aV _ _ _ _ _ _ _ _ _ _ _ _ _ _).mono ?_;rintro e w' ⟨rfl,hb⟩;obtain⟨hc,hf,hs⟩:=aA hb;(try have hz0:=zA hb w.heap.size);(try have hz1:=zA hb (w.heap.size+1)))
       |(go_at_call 46;refine(bM _ _ _ _).mono ?_;rintro e w' ⟨rfl,hb⟩;obtain⟨hc,hf,hs⟩:=aA hb;(try have hz0:=zA hb w.heap.size);(try have hz1:=zA hb (w.heap.size+1)))
       |(go_at_call 34;refine(aB _ _ _ _).mono ?_;rintro e' w' ⟨rfl,rfl⟩)
       |(go_at_call 47;refine(cm _ _ _ _ _).mono ?_;rintro e w' ⟨rfl,hb⟩;obtain⟨hc,hf,hs⟩:=aA hb;(try have hz0:=zA hb w.heap.size);(try have hz1:=zA hb (w.heap.size+1))))
      go_ret
      exact⟨aF (ab hq).symm,(ca)⟩
   ·have hq:Hid (bh l mark ky st en an asu ale amo fn fsu fle fmo td tm=false):=ae (by simp[cL,c0,c2,c4,c6,c3,c5,c7])
    go_enter Tryz.func42,Tryz.ntmps42
    go_wp2_with (first
     |(go_at_call 58;refine(aV _ _ _ _ _ _ _ _ _ _ _ _ _ _).mono ?_;rintro e w' ⟨rfl,hb⟩;obtain⟨hc,hf,hs⟩:=aA hb;(try have hz0:=zA hb w.heap.size);(try have hz1:=zA hb (w.heap.size+1)))
     |(go_at_call 46;refine(bM _ _ _ _).mono ?_;rintro e w' ⟨rfl,hb⟩;obtain⟨hc,hf,hs⟩:=aA hb;(try have hz0:=zA hb w.heap.size);(try have hz1:=zA hb (w.heap.size+1)))
     |(go_at_call 34;refine(aB _ _ _ _).mono ?_;rintro e' w' ⟨rfl,rfl⟩)
     |(go_at_call 47;refine(cm _ _ _ _ _).mono ?_;rintro e w' ⟨rfl,hb⟩;obtain⟨hc,hf,hs⟩:=aA hb;(try have hz0:=zA hb w.heap.size);(try have hz1:=zA hb (w.heap.size+1))))
    go_ret
    exact⟨aF (ab hq).symm,(ca)⟩
  ·have hq:Hid (bh l mark ky st en an asu ale amo fn fsu fle fmo td tm=false):=ae (by simp[cL,c0,c2,c4,c6,c3,c5])
   go_enter Tryz.func42,Tryz.ntmps42
   go_wp2_with (first
    |(go_at_call 58;refine(aV _ _ _ _ _ _ _ _ _ _ _ _ _ _).mono ?_;rintro e w' ⟨rfl,hb⟩;obtain⟨hc,hf,hs⟩:=aA hb;(try have hz0:=zA hb w.heap.size);(try have hz1:=zA hb (w.heap.size+1)))
    |(go_at_call 46;refine(bM _ _ _ _).mono ?_;rintro e w' ⟨rfl,hb⟩;obtain⟨hc,hf,hs⟩:=aA hb;(try have hz0:=zA hb w.heap.size);(try have hz1:=zA hb (w.heap.size+1)))
    |(go_at_call 34;refine(aB _ _ _ _).mono ?_;rintro e' w' ⟨rfl,rfl⟩)
    |(go_at_call 47;refine(cm _ _ _ _ _).mono ?_;rintro e w' ⟨rfl,hb⟩;obtain⟨hc,hf,hs⟩:=aA hb;(try have hz0:=zA hb w.heap.size);(try have hz1:=zA hb (w.heap.size+1))))
   go_ret
   exact⟨aF (ab hq).symm,(ca)⟩
 ·have hq:Hid (bh l mark ky st en an asu ale amo fn fsu fle fmo td tm=false):=ae (by simp[cL,c0,c2,c4,c6,c3])
  go_enter Tryz.func42,Tryz.ntmps42
  go_wp2_with (first
   |(go_at_call 58;refine(aV _ _ _ _ _ _ _ _ _ _ _ _ _ _).mono ?_;rintro e w' ⟨rfl,hb⟩;obtain⟨hc,hf,hs⟩:=aA hb;(try have hz0:=zA hb w.heap.size);(try have hz1:=zA hb (w.heap.size+1)))
   |(go_at_call 46;refine(bM _ _ _ _).mono ?_;rintro e w' ⟨rfl,hb⟩;obtain⟨hc,hf,hs⟩:=aA hb;(try have hz0:=zA hb w.heap.size);(try have hz1:=zA hb (w.heap.size+1)))
   |(go_at_call 34;refine(aB _ _ _ _).mono ?_;rintro e' w' ⟨rfl,rfl⟩)
   |(go_at_call 47;refine(cm _ _ _ _ _).mono ?_;rintro e w' ⟨rfl,hb⟩;obtain⟨hc,hf,hs⟩:=aA hb;(try have hz0:=zA hb w.heap.size);(try have hz1:=zA hb (w.heap.size+1))))
  go_ret
  exact⟨aF (ab hq).symm,(ca)⟩
/-- Whether two windows touch. -/
def bx(a b c d:Int):Bool:=decide (a<d)&&decide (c<b)
theorem ct(a b c d:Int)(w:World):Calls Tryz.prog 71 #[.agg #[.int .i64 a,.int .i64 b],.agg #[.int .i64 c,.int .i64 d]] w fun e w'=>e= .returned (.bool (bx a b c d))∧Below w.heap.size w w':=by
 by_cases h1:a<d
 ·by_cases h2:c<b
  ·have h3:Hid (bx a b c d=true):=ae (by simp only[bx];simp[h1,h2])
   go_enter Tryz.func71,Tryz.ntmps71
   go_wp2
   go_ret
   exact⟨aF (ab h3).symm,ag (ay _ _) _⟩
  ·have h3:Hid (bx a b c d=false):=ae (by simp only[bx];simp[h1,h2])
   go_enter Tryz.func71,Tryz.ntmps71
   go_wp2
   go_ret
   exact⟨aF (ab h3).symm,ag (ay _ _) _⟩
 ·have h3:Hid (bx a b c d=false):=ae (by simp only[bx];simp[h1])
  go_enter Tryz.func71,Tryz.ntmps71
  go_wp2
  go_ret
  exact⟨aF (ab h3).symm,ag (ay _ _) _⟩
theorem dJ(a b c d:Int)(w:World):Calls Tryz.prog 40 #[.agg #[.int .i64 a,.int .i64 b],.agg #[.int .i64 c,.int .i64 d]] w fun e w'=>e= .returned (.bool (bx a b c d))∧Below w.heap.size w w':=by
 by_cases h1:a<d
 ·by_cases h2:c<b
  ·have h3:Hid (bx a b c d=true):=ae (by simp only[bx];simp[h1,h2])
   go_enter Tryz.func40,Tryz.ntmps40
   go_wp2
   go_ret
   exact⟨aF (ab h3).symm,ag (ay _ _) _⟩
  ·have h3:Hid (bx a b c d=false):=ae (by simp only[bx];simp[h1,h2])
   go_enter Tryz.func40,Tryz.ntmps40
   go_wp2
   go_ret
   exact⟨aF (ab h3).symm,ag (ay _ _) _⟩
 ·have h3:Hid (bx a b c d=false):=ae (by simp only[bx];simp[h1])
  go_enter Tryz.func40,Tryz.ntmps40
  go_wp2
  go_ret
  exact⟨aF (ab h3).symm,ag (ay _ _) _⟩
theorem ep{a b c d:Int}(h:a=c)(k:b=d):Ending.returned (.agg #[.int .i64 a,.int .i64 b])= .returned (.agg #[.int .i64 c,.int .i64 d]):=by rw[h,k]
theorem span_any(a b c d:Int)(w:World):Calls Tryz.prog 79 #[.agg #[.int .i64 a,.int .i64 b],.agg #[.int .i64 c,.int .i64 d]] w fun e w'=>e= .returned (.agg #[.int .i64 (fF a c),.int .i64 (fE b d)])∧Below w.heap.size w w':=by
 by_cases h1:c<a<;>by_cases h2:b<d
 ·have h3:=ae (jb h1)
  have h4:=ae (jd h2)
  go_enter Tryz.func79,Tryz.ntmps79
  go_wp2
  refine bodyPost_ret (v:= .agg #[.int .i64 c,.int .i64 d]) (oF) rfl ⟨ep (ab h3).symm (ab h4).symm,?_⟩
  exact(bd)
 ·have h3:=ae (jb h1)
  have h4:=ae (jc h2)
  go_enter Tryz.func79,Tryz.ntmps79
  go_wp2
  refine bodyPost_ret (v:= .agg #[.int .i64 c,.int .i64 b]) (oF) rfl ⟨ep (ab h3).symm (ab h4).symm,?_⟩
  exact(bd)
 ·have h3:=ae (ja h1)
  have h4:=ae (jd h2)
  go_enter Tryz.func79,Tryz.ntmps79
  go_wp2
  refine bodyPost_ret (v:= .agg #[.int .i64 a,.int .i64 d]) (oF) rfl ⟨ep (ab h3).symm (ab h4).symm,?_⟩
  exact(bd)
 ·have h3:=ae (ja h1)
  have h4:=ae (jc h2)
  go_enter Tryz.func79,Tryz.ntmps79
  go_wp2
  refine bodyPost_ret (v:= .agg #[.int .i64 a,.int .i64 b]) (oF) rfl ⟨ep (ab h3).symm (ab h4).symm,?_⟩
  exact(bd)
theorem lO(a b c d:Int)(w:World):Calls Tryz.prog 87 #[.agg #[.int .i64 a,.int .i64 b],.agg #[.int .i64 c,.int .i64 d]] w fun e w'=>e= .returned (.agg #[.int .i64 (fF a c),.int .i64 (fE b d)])∧Below w.heap.size w w':=by
 by_cases h1:c<a<;>by_cases h2:b<d
 ·have h3:=ae (jb h1)
  have h4:=ae (jd h2)
  go_enter Tryz.func87,Tryz.ntmps87
  go_wp2
  refine bodyPost_ret (v:= .agg #[.int .i64 c,.int .i64 d]) (oG) rfl ⟨ep (ab h3).symm (ab h4).symm,?_⟩
  exact(bd)
 ·have h3:=ae (jb h1)
  have h4:=ae (jc h2)
  go_enter Tryz.func87,Tryz.ntmps87
  go_wp2
  refine bodyPost_ret (v:= .agg #[.int .i64 c,.int .i64 b]) (oG) rfl ⟨ep (ab h3).symm (ab h4).symm,?_⟩
  exact(bd)
 ·have h3:=ae (ja h1)
  have h4:=ae (jd h2)
  go_enter Tryz.func87,Tryz.ntmps87
  go_wp2
  refine bodyPost_ret (v:= .agg #[.int .i64 a,.int .i64 d]) (oG) rfl ⟨ep (ab h3).symm (ab h4).symm,?_⟩
  exact(bd)
 ·have h3:=ae (ja h1)
  have h4:=ae (jc h2)
  go_enter Tryz.func87,Tryz.ntmps87
  go_wp2
  refine bodyPost_ret (v:= .agg #[.int .i64 a,.int .i64 b]) (oG) rfl ⟨ep (ab h3).symm (ab h4).symm,?_⟩
  exact(bd)
end Go.Proofs.YtdmhihcipkhecaaGreat
