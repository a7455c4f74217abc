/- Laid together: what the claim needs of the texts that were built one by one. -/
import Derived.Test.YtdmhihcipkhecaaGreatT18
import Derived.Deep.DeepCutAuto
import Derived.Deep.CutBlock
import Derived.Lib.SmallJoins
import Derived.RangeFuncRecord
import Derived.Test.YtdmhihcipkhecaaGreatT0
import Derived.Test.YtdmhihcipkhecaaGreatT22
set_option linter.unusedVariables false
namespace Go.Proofs.YtdmhihcipkhecaaGreat
open Go.ChangeShapes Go.WideShapes Go.ChangeAt Go.RowKit
set_option linter.unusedSimpArgs false
/-- What a drawn item is. -/
def ItmP(R:Nat)(w:World)(a:Option Addr)(len cap p:Nat)(e:Ending)(w':World):Prop:=∃q t k v n:Int,e= .returned (.agg #[.int .i64 q,.int .i64 t,.int .i64 k,.int .i64 v,.int .i64 n])∧Kp R w w'∧∃p',p'≤p+12∧Rd R w' a len cap p'
/-- An item while it is drawn: the result's box, its own. -/
structure ItI(R:Nat)(w W:World)(a:Option Addr)(len cap p X:Nat)(q t k v n:Int):Prop where
 Z:W.heap[w.heap.size]? =some (.cells #[.int .i64 0,.int .i64 0,.int .i64 0,.int .i64 0,.int .i64 0] 29 (0,0))
 It:W.heap[X]? =some (.cells #[.int .i64 q,.int .i64 t,.int .i64 k,.int .i64 v,.int .i64 n] 29 (0,0))
 nX:w.heap.size<X
 K:Kp R w W
 D:Rd R W a len cap p
theorem ItI.kp{R X:Nat}{w W:World}{a:Option Addr}{len cap p:Nat}{q t k v n:Int}{W2:World}{p2:Nat}(h:ItI R w W a len cap p X q t k v n)(hR:R<w.heap.size)(k9:Kp R W W2)(d:Rd R W2 a len cap p2):ItI R w W2 a len cap p2 X q t k v n:=
 ⟨(k9.all _ (ay h.Z) (by omega)).trans h.Z,(k9.all _ (ay h.It) (by have:=h.nX;omega)).trans h.It,h.nX,h.K.trans k9,d⟩
theorem ItI.bel{R X:Nat}{w W:World}{a:Option Addr}{len cap p:Nat}{q t k v n:Int}{W2:World}(h:ItI R w W a len cap p X q t k v n)(hR:R<w.heap.size)(hb:Below W.heap.size W W2):ItI R w W2 a len cap p X q t k v n:=
 h.kp hR (Kp.of_bel (by have:=h.K.low.size;omega) hb) (h.D.kp (by have:=h.K.low.size;omega) hb)
theorem ItI.set{R X:Nat}{w W:World}{a:Option Addr}{len cap p:Nat}{q t k v n:Int}{q2 t2 k2 v2 n2:Int}(h:ItI R w W a len cap p X q t k v n)(hR:R<w.heap.size)(o:Nat)(u:Value)(hx:(#[.int .i64 q,.int .i64 t,.int .i64 k,.int .i64 v,.int .i64 n]:Array Value).setIfInBounds o u=#[.int .i64 q2,.int .i64 t2,.int .i64 k2,.int .i64 v2,.int .i64 n2]):ItI R w (W.setCell ⟨X,o,none⟩ u) a len cap p X q2 t2 k2 v2 n2:=
 ⟨(Below.heap_setCell _ _ _ _ (by have:=h.nX;show _≠X;omega)).trans h.Z,by have h9:=Joins.block_setCell (i:=o) h.It u;rw[hx]at h9;exact h9,h.nX,aj h.K (by have:=h.nX;omega) (by have:=h.nX;omega),ai h.D (by have:=h.nX;omega)⟩
theorem ItI.done{R X:Nat}{w W:World}{a:Option Addr}{len cap p:Nat}{q t k v n:Int}{p0:Nat}(h:ItI R w W a len cap p X q t k v n)(hR:R<w.heap.size)(hp:p≤p0+12):ItmP R w a len cap p0 (.returned (.agg #[.int .i64 q,.int .i64 t,.int .i64 k,.int .i64 v,.int .i64 n])) (((((W.setCell ⟨w.heap.size,0,none⟩ (.int .i64 q)).setCell ⟨w.heap.size,1,none⟩ (.int .i64 t)).setCell ⟨w.heap.size,2,none⟩ (.int .i64 k)).setCell ⟨w.heap.size,3,none⟩ (.int .i64 v)).setCell ⟨w.heap.size,4,none⟩ (.int .i64 n)):=
 ⟨q,t,k,v,n,rfl,aj (aj (aj (aj (aj h.K hR (Nat.le_refl _)) hR (Nat.le_refl _)) hR (Nat.le_refl _)) hR (Nat.le_refl _)) hR (Nat.le_refl _),p,hp,ai (ai (ai (ai (ai h.D hR) hR) hR) hR) hR⟩
theorem pickL{W:World}{Y y:Nat}(l:List Int)(h:W.heap[Y]? =some (.cells (l.map (Value.int .i64)).toArray 3 (0,0)))(hy:y<l.length):∃t:Int,W.cell? ⟨Y,y,none⟩=some (.int .i64 t):=by
 refine⟨l[y],?_⟩
 rw[cA h y]
 simp[List.getElem?_eq_getElem hy]
set_option maxRecDepth 100000 in
set_option maxHeartbeats 8000000 in
theorem item_any(R:Nat)(a:Option Addr)(len cap p:Nat)(n:Int)(w:World)(hn:1≤n)(hn2:n≤100000)(hp:p≤700000)(hR:R<w.heap.size)(h:Rd R w a len cap p):Calls Tryz.prog 27 #[.pointer (some ⟨R,0,none⟩),.int .i64 n] w fun e w'=>ItmP R w a len cap p e w':=by
 have hb0:Below w.heap.size w (w.alloc (.cells #[.int .i64 0,.int .i64 0,.int .i64 0,.int .i64 0,.int .i64 0] 29)):=aq _ _
 have eZ:(w.alloc (.cells #[.int .i64 0,.int .i64 0,.int .i64 0,.int .i64 0,.int .i64 0] 29)).heap[w.heap.size]? =some (.cells #[.int .i64 0,.int .i64 0,.int .i64 0,.int .i64 0,.int .i64 0] 29 (0,0)):=nA
 have hz:(w.alloc (.cells #[.int .i64 0,.int .i64 0,.int .i64 0,.int .i64 0,.int .i64 0] 29)).heap.size=w.heap.size+1:=by simp
 go_enter Tryz.func27,Tryz.ntmps27
 go_wp2_with fail
 refine(lK R a len cap p _ (by omega) (by rw[hz];omega) (h.kp hR hb0)).mono ?_
 rintro e' w1 ⟨t,k,v,rfl,bt,bk,bv,k9,r9⟩
 have fZ:=(k9.all w.heap.size (by rw[hz];omega) (by omega)).trans eZ
 have z1:=k9.low.size
 rw[hz]at z1
 have HK:=ae ((Kp.of_bel (Nat.le_of_lt hR) hb0).trans k9)
 have HZ:=ae fZ
 have HD:=ae r9
 have HX:=ae (World.alloc_heap_new w1 (.cells #[.int .i64 1,.int .i64 t,.int .i64 k,.int .i64 v,.int .i64 0] 29))
 clear eZ hb0 hz h k9 r9 fZ
 go_wp2_with fail
 have HI:Hid (ItI R w (w1.alloc (.cells #[.int .i64 1,.int .i64 t,.int .i64 k,.int .i64 v,.int .i64 0] 29)) a len cap (p+4) w1.heap.size 1 t k v 0):=ae (by
  have hRw:R<w1.heap.size:=by omega
  exact⟨(Below.heap_alloc w1 _ _ (by omega)).trans (ab HZ),ab HX,by omega,(ab HK).trans (Kp.of_bel (Nat.le_of_lt hRw) (aq _ _)),(ab HD).kp hRw (aq _ _)⟩)
 clear HK HZ HD HX z1
 generalize w1.heap.size=X at HI ⊢
 generalize w1.alloc (.cells #[.int .i64 1,.int .i64 t,.int .i64 k,.int .i64 v,.int .i64 0] 29)=w2 at HI ⊢
 refine(aG R a len cap (p+4) 4 _ (by decide) (by decide) (ab HI).D).mono ?_
 rintro e' w3 ⟨y,rfl,yl,yu,k9,r9⟩
 have H3:=ae ((ab HI).kp hR k9 (r9 (by omega)))
 clear HI k9 r9
 by_cases h0:y=0
 ·subst h0
  go_wp2_with fail
  have HA:=ae ((ab H3).bel hR (aq w3 (.cells #[.int .i64 1,.int .i64 10,.int .i64 60,.int .i64 1000] 3)))
  have hYA:(w3.alloc (.cells #[.int .i64 1,.int .i64 10,.int .i64 60,.int .i64 1000] 3)).heap[w3.heap.size]? =some (.cells #[.int .i64 1,.int .i64 10,.int .i64 60,.int .i64 1000] 3 (0,0)):=World.alloc_heap_new w3 _
  have neY:w3.heap.size≠R:=by have:=(ab H3).K.low.size;omega
  clear H3
  generalize w3.heap.size=Y at hYA neY ⊢
  generalize w3.alloc (.cells #[.int .i64 1,.int .i64 10,.int .i64 60,.int .i64 1000] 3)=wl at HA hYA ⊢
  refine(aG R a len cap (p+4+1) 4 _ (by decide) (by decide) (ab HA).D).mono ?_
  rintro e' w4 ⟨y9,rfl,y9l,y9u,k9,r9⟩
  obtain⟨y8,rfl⟩:=Int.eq_ofNat_of_zero_le y9l
  have y8u:y8<4:=by omega
  have H4:=ae ((ab HA).kp hR k9 (r9 (by omega)))
  have hYB:=(k9.all Y (ay hYA) neY).trans hYA
  obtain⟨t9,ht9⟩:=pickL [1,10,60,1000] hYB y8u
  have zY:Y<w4.heap.size:=ay hYB
  clear HA k9 r9 hYA hYB y9l
  obtain⟨xc0,xc1,xc2,xc3,xc4⟩:=c5 (ab H4).It
  obtain⟨zc0,zc1,zc2,zc3,zc4⟩:=c5 (ab H4).Z
  have xf0:=cF (ab H4).It 0
  have zf0:=cF (ab H4).Z 0
  have xf1:=cF (ab H4).It 1
  have zf1:=cF (ab H4).Z 1
  have xf2:=cF (ab H4).It 2
  have zf2:=cF (ab H4).Z 2
  have xf3:=cF (ab H4).It 3
  have zf3:=cF (ab H4).Z 3
  have xf4:=cF (ab H4).It 4
  have zf4:=cF (ab H4).Z 4
  have xz:X<w4.heap.size:=ay (ab H4).It
  have zz:w.heap.size<w4.heap.size:=ay (ab H4).Z
  go_upto_region 7 with fail
  clear xc0 xf0 xc1 xf1 xc2 xf2 xc3 xf3 xc4 xf4 xz zc0 zf0 zc1 zf1 zc2 zf2 zc3 zf3 zc4 zf4 zz ht9 zY
  have H5:Hid (ItI R w (((((w4.setCell ⟨X,0,none⟩ (.int .i64 2)).setCell ⟨X,1,none⟩ (.int .i64 t9)).setCell ⟨X,2,none⟩ (.int .i64 0)).setCell ⟨X,3,none⟩ (.int .i64 0)).setCell ⟨X,4,none⟩ (.int .i64 0)) a len cap (p+4+1+1) X 2 t9 0 0 0):=ae ((((((ab H4).set (q2:=2) (t2:=t) (k2:=k) (v2:=v) (n2:=0) hR 0 (.int .i64 2) rfl).set (q2:=2) (t2:=t9) (k2:=k) (v2:=v) (n2:=0) hR 1 (.int .i64 t9) rfl).set (q2:=2) (t2:=t9) (k2:=0) (v2:=v) (n2:=0) hR 2 (.int .i64 0) rfl).set (q2:=2) (t2:=t9) (k2:=0) (v2:=0) (n2:=0) hR 3 (.int .i64 0) rfl).set (q2:=2) (t2:=t9) (k2:=0) (v2:=0) (n2:=0) hR 4 (.int .i64 0) rfl)
  clear H4
  generalize (((((w4.setCell ⟨X,0,none⟩ (.int .i64 2)).setCell ⟨X,1,none⟩ (.int .i64 t9)).setCell ⟨X,2,none⟩ (.int .i64 0)).setCell ⟨X,3,none⟩ (.int .i64 0)).setCell ⟨X,4,none⟩ (.int .i64 0))=w9 at H5 ⊢
  go_wp2_with fail
  refine(aG R a len cap (p+4+1+1) n _ hn hn2 (ab H5).D).mono ?_
  rintro e' w5 ⟨y2,rfl,y2l,y2u,k9,r9⟩
  have H7:=ae ((ab H5).kp hR k9 (r9 (by omega)))
  clear H5 k9 r9
  by_cases hy:0<y2
  ·have hy1:decide (0<y2)=true:=decide_eq_true hy
   obtain⟨xc0,xc1,xc2,xc3,xc4⟩:=c5 (ab H7).It
   obtain⟨zc0,zc1,zc2,zc3,zc4⟩:=c5 (ab H7).Z
   have xf0:=cF (ab H7).It 0
   have zf0:=cF (ab H7).Z 0
   have xf1:=cF (ab H7).It 1
   have zf1:=cF (ab H7).Z 1
   have xf2:=cF (ab H7).It 2
   have zf2:=cF (ab H7).Z 2
   have xf3:=cF (ab H7).It 3
   have zf3:=cF (ab H7).Z 3
   have xf4:=cF (ab H7).It 4
   have zf4:=cF (ab H7).Z 4
   have xz:X<w5.heap.size:=ay (ab H7).It
   have zz:w.heap.size<w5.heap.size:=ay (ab H7).Z
   go_wp2
   refine bodyPost_ret (v:= .agg #[.int .i64 2,.int .i64 t9,.int .i64 0,.int .i64 0,.int .i64 0]) (nt) rfl ?_
   exact(ab H7).done (p0:=p) hR (by omega)
  ·have hy1:decide (0<y2)=false:=decide_eq_false hy
   go_wp2_with fail
   have HA:=ae ((ab H7).bel hR (aq w5 (.cells #[.int .i64 (-1),.int .i64 0,.int .i64 61,.int .i64 4,.int .i64 10,.int .i64 1000,.int .i64 901] 3)))
   have hYA:(w5.alloc (.cells #[.int .i64 (-1),.int .i64 0,.int .i64 61,.int .i64 4,.int .i64 10,.int .i64 1000,.int .i64 901] 3)).heap[w5.heap.size]? =some (.cells #[.int .i64 (-1),.int .i64 0,.int .i64 61,.int .i64 4,.int .i64 10,.int .i64 1000,.int .i64 901] 3 (0,0)):=World.alloc_heap_new w5 _
   have neY:w5.heap.size≠R:=by have:=(ab H7).K.low.size;omega
   clear H7
   generalize w5.heap.size=Y at hYA neY ⊢
   generalize w5.alloc (.cells #[.int .i64 (-1),.int .i64 0,.int .i64 61,.int .i64 4,.int .i64 10,.int .i64 1000,.int .i64 901] 3)=wl at HA hYA ⊢
   refine(aG R a len cap (p+4+1+1+1) 7 _ (by decide) (by decide) (ab HA).D).mono ?_
   rintro e' w6 ⟨y6,rfl,y6l,y6u,k9,r9⟩
   obtain⟨y7,rfl⟩:=Int.eq_ofNat_of_zero_le y6l
   have y7u:y7<7:=by omega
   have H8:=ae ((ab HA).kp hR k9 (r9 (by omega)))
   have hYB:=(k9.all Y (ay hYA) neY).trans hYA
   obtain⟨t8,ht8⟩:=pickL [-1,0,61,4,10,1000,901] hYB y7u
   have zY:Y<w6.heap.size:=ay hYB
   clear HA k9 r9 hYA hYB y6l
   go_wp2_with fail
   clear ht8 zY
   refine(aG R a len cap (p+4+1+1+1+1) 5 _ (by decide) (by decide) (ab H8).D).mono ?_
   rintro e' w7 ⟨c,rfl,cl,cu9,k9,r9⟩
   have H9:=ae ((ab H8).kp hR k9 (r9 (by omega)))
   clear H8 k9 r9
   obtain⟨xc0,xc1,xc2,xc3,xc4⟩:=c5 (ab H9).It
   obtain⟨zc0,zc1,zc2,zc3,zc4⟩:=c5 (ab H9).Z
   have xf0:=cF (ab H9).It 0
   have zf0:=cF (ab H9).Z 0
   have xf1:=cF (ab H9).It 1
   have zf1:=cF (ab H9).Z 1
   have xf2:=cF (ab H9).It 2
   have zf2:=cF (ab H9).Z 2
   have xf3:=cF (ab H9).It 3
   have zf3:=cF (ab H9).Z 3
   have xf4:=cF (ab H9).It 4
   have zf4:=cF (ab H9).Z 4
   have xz:X<w7.heap.size:=ay (ab H9).It
   have zz:w.heap.size<w7.heap.size:=ay (ab H9).Z
   have hc:c=0∨c=1∨c=2∨c=3∨c=4:=by omega
   rcases hc with rfl|rfl|rfl|rfl|rfl
   ·have nX9:=(ab H9).nX
    have nX8:¬ w.heap.size=X:=by omega
    have nX7:¬ X=w.heap.size:=by omega
    clear y2l y2u cl cu9
    have HF:=ae ((ab H9).set (q2:=t8) (t2:=t9) (k2:=0) (v2:=0) (n2:=0) hR 0 (.int .i64 t8) rfl)
    go_wp2
    refine bodyPost_ret (v:= .agg #[.int .i64 t8,.int .i64 t9,.int .i64 0,.int .i64 0,.int .i64 0]) (nt) rfl ?_
    exact(ab HF).done (p0:=p) hR (by omega)
   ·have nX9:=(ab H9).nX
    have nX8:¬ w.heap.size=X:=by omega
    have nX7:¬ X=w.heap.size:=by omega
    clear y2l y2u cl cu9
    have HF:=ae ((ab H9).set (q2:=2) (t2:=t8) (k2:=0) (v2:=0) (n2:=0) hR 1 (.int .i64 t8) rfl)
    go_wp2
    refine bodyPost_ret (v:= .agg #[.int .i64 2,.int .i64 t8,.int .i64 0,.int .i64 0,.int .i64 0]) (nt) rfl ?_
    exact(ab HF).done (p0:=p) hR (by omega)
   ·have nX9:=(ab H9).nX
    have nX8:¬ w.heap.size=X:=by omega
    have nX7:¬ X=w.heap.size:=by omega
    clear y2l y2u cl cu9
    have HF:=ae ((ab H9).set (q2:=2) (t2:=t9) (k2:=t8) (v2:=0) (n2:=0) hR 2 (.int .i64 t8) rfl)
    go_wp2
    refine bodyPost_ret (v:= .agg #[.int .i64 2,.int .i64 t9,.int .i64 t8,.int .i64 0,.int .i64 0]) (nt) rfl ?_
    exact(ab HF).done (p0:=p) hR (by omega)
   ·have nX9:=(ab H9).nX
    have nX8:¬ w.heap.size=X:=by omega
    have nX7:¬ X=w.heap.size:=by omega
    clear y2l y2u cl cu9
    have HF:=ae ((ab H9).set (q2:=2) (t2:=t9) (k2:=0) (v2:=t8) (n2:=0) hR 3 (.int .i64 t8) rfl)
    go_wp2
    refine bodyPost_ret (v:= .agg #[.int .i64 2,.int .i64 t9,.int .i64 0,.int .i64 t8,.int .i64 0]) (nt) rfl ?_
    exact(ab HF).done (p0:=p) hR (by omega)
   ·have nX9:=(ab H9).nX
    have nX8:¬ w.heap.size=X:=by omega
    have nX7:¬ X=w.heap.size:=by omega
    clear y2l y2u cl cu9
    have HF:=ae ((ab H9).set (q2:=2) (t2:=t9) (k2:=0) (v2:=0) (n2:=t8) hR 4 (.int .i64 t8) rfl)
    go_wp2
    refine bodyPost_ret (v:= .agg #[.int .i64 2,.int .i64 t9,.int .i64 0,.int .i64 0,.int .i64 t8]) (nt) rfl ?_
    exact(ab HF).done (p0:=p) hR (by omega)
 ·have h01:(y==0)=false:=by simp[h0]
  by_cases h1:y=1
  ·subst h1
   go_wp2_with fail
   have HA:=ae ((ab H3).bel hR (aq w3 (.cells #[.int .i64 1,.int .i64 2,.int .i64 900] 3)))
   have hYA:(w3.alloc (.cells #[.int .i64 1,.int .i64 2,.int .i64 900] 3)).heap[w3.heap.size]? =some (.cells #[.int .i64 1,.int .i64 2,.int .i64 900] 3 (0,0)):=World.alloc_heap_new w3 _
   have neY:w3.heap.size≠R:=by have:=(ab H3).K.low.size;omega
   clear H3
   generalize w3.heap.size=Y at hYA neY ⊢
   generalize w3.alloc (.cells #[.int .i64 1,.int .i64 2,.int .i64 900] 3)=wl at HA hYA ⊢
   refine(aG R a len cap (p+4+1) 3 _ (by decide) (by decide) (ab HA).D).mono ?_
   rintro e' w4 ⟨y9,rfl,y9l,y9u,k9,r9⟩
   obtain⟨y8,rfl⟩:=Int.eq_ofNat_of_zero_le y9l
   have y8u:y8<3:=by omega
   have H4:=ae ((ab HA).kp hR k9 (r9 (by omega)))
   have hYB:=(k9.all Y (ay hYA) neY).trans hYA
   obtain⟨t9,ht9⟩:=pickL [1,2,900] hYB y8u
   have zY:Y<w4.heap.size:=ay hYB
   clear HA k9 r9 hYA hYB y9l
   obtain⟨xc0,xc1,xc2,xc3,xc4⟩:=c5 (ab H4).It
   obtain⟨zc0,zc1,zc2,zc3,zc4⟩:=c5 (ab H4).Z
   have xf0:=cF (ab H4).It 0
   have zf0:=cF (ab H4).Z 0
   have xf1:=cF (ab H4).It 1
   have zf1:=cF (ab H4).Z 1
   have xf2:=cF (ab H4).It 2
   have zf2:=cF (ab H4).Z 2
   have xf3:=cF (ab H4).It 3
   have zf3:=cF (ab H4).Z 3
   have xf4:=cF (ab H4).It 4
   have zf4:=cF (ab H4).Z 4
   have xz:X<w4.heap.size:=ay (ab H4).It
   have zz:w.heap.size<w4.heap.size:=ay (ab H4).Z
   go_upto_region 7 with fail
   clear xc0 xf0 xc1 xf1 xc2 xf2 xc3 xf3 xc4 xf4 xz zc0 zf0 zc1 zf1 zc2 zf2 zc3 zf3 zc4 zf4 zz ht9 zY
   have H5:Hid (ItI R w (((((w4.setCell ⟨X,0,none⟩ (.int .i64 3)).setCell ⟨X,1,none⟩ (.int .i64 0)).setCell ⟨X,2,none⟩ (.int .i64 0)).setCell ⟨X,3,none⟩ (.int .i64 0)).setCell ⟨X,4,none⟩ (.int .i64 t9)) a len cap (p+4+1+1) X 3 0 0 0 t9):=ae ((((((ab H4).set (q2:=3) (t2:=t) (k2:=k) (v2:=v) (n2:=0) hR 0 (.int .i64 3) rfl).set (q2:=3) (t2:=0) (k2:=k) (v2:=v) (n2:=0) hR 1 (.int .i64 0) rfl).set (q2:=3) (t2:=0) (k2:=0) (v2:=v) (n2:=0) hR 2 (.int .i64 0) rfl).set (q2:=3) (t2:=0) (k2:=0) (v2:=0) (n2:=0) hR 3 (.int .i64 0) rfl).set (q2:=3) (t2:=0) (k2:=0) (v2:=0) (n2:=t9) hR 4 (.int .i64 t9) rfl)
   clear H4
   generalize (((((w4.setCell ⟨X,0,none⟩ (.int .i64 3)).setCell ⟨X,1,none⟩ (.int .i64 0)).setCell ⟨X,2,none⟩ (.int .i64 0)).setCell ⟨X,3,none⟩ (.int .i64 0)).setCell ⟨X,4,none⟩ (.int .i64 t9))=w9 at H5 ⊢
   go_wp2_with fail
   refine(aG R a len cap (p+4+1+1) n _ hn hn2 (ab H5).D).mono ?_
   rintro e' w5 ⟨y2,rfl,y2l,y2u,k9,r9⟩
   have H7:=ae ((ab H5).kp hR k9 (r9 (by omega)))
   clear H5 k9 r9
   by_cases hy:0<y2
   ·have hy1:decide (0<y2)=true:=decide_eq_true hy
    obtain⟨xc0,xc1,xc2,xc3,xc4⟩:=c5 (ab H7).It
    obtain⟨zc0,zc1,zc2,zc3,zc4⟩:=c5 (ab H7).Z
    have xf0:=cF (ab H7).It 0
    have zf0:=cF (ab H7).Z 0
    have xf1:=cF (ab H7).It 1
    have zf1:=cF (ab H7).Z 1
    have xf2:=cF (ab H7).It 2
    have zf2:=cF (ab H7).Z 2
    have xf3:=cF (ab H7).It 3
    have zf3:=cF (ab H7).Z 3
    have xf4:=cF (ab H7).It 4
    have zf4:=cF (ab H7).Z 4
    have xz:X<w5.heap.size:=ay (ab H7).It
    have zz:w.heap.size<w5.heap.size:=ay (ab H7).Z
    go_wp2
    refine bodyPost_ret (v:= .agg #[.int .i64 3,.int .i64 0,.int .i64 0,.int .i64 0,.int .i64 t9]) (nt) rfl ?_
    exact(ab H7).done (p0:=p) hR (by omega)
   ·have hy1:decide (0<y2)=false:=decide_eq_false hy
    go_wp2_with fail
    have HA:=ae ((ab H7).bel hR (aq w5 (.cells #[.int .i64 (-1),.int .i64 0,.int .i64 61,.int .i64 4,.int .i64 10,.int .i64 1000,.int .i64 901] 3)))
    have hYA:(w5.alloc (.cells #[.int .i64 (-1),.int .i64 0,.int .i64 61,.int .i64 4,.int .i64 10,.int .i64 1000,.int .i64 901] 3)).heap[w5.heap.size]? =some (.cells #[.int .i64 (-1),.int .i64 0,.int .i64 61,.int .i64 4,.int .i64 10,.int .i64 1000,.int .i64 901] 3 (0,0)):=World.alloc_heap_new w5 _
    have neY:w5.heap.size≠R:=by have:=(ab H7).K.low.size;omega
    clear H7
    generalize w5.heap.size=Y at hYA neY ⊢
    generalize w5.alloc (.cells #[.int .i64 (-1),.int .i64 0,.int .i64 61,.int .i64 4,.int .i64 10,.int .i64 1000,.int .i64 901] 3)=wl at HA hYA ⊢
    refine(aG R a len cap (p+4+1+1+1) 7 _ (by decide) (by decide) (ab HA).D).mono ?_
    rintro e' w6 ⟨y6,rfl,y6l,y6u,k9,r9⟩
    obtain⟨y7,rfl⟩:=Int.eq_ofNat_of_zero_le y6l
    have y7u:y7<7:=by omega
    have H8:=ae ((ab HA).kp hR k9 (r9 (by omega)))
    have hYB:=(k9.all Y (ay hYA) neY).trans hYA
    obtain⟨t8,ht8⟩:=pickL [-1,0,61,4,10,1000,901] hYB y7u
    have zY:Y<w6.heap.size:=ay hYB
    clear HA k9 r9 hYA hYB y6l
    go_wp2_with fail
    clear ht8 zY
    refine(aG R a len cap (p+4+1+1+1+1) 5 _ (by decide) (by decide) (ab H8).D).mono ?_
    rintro e' w7 ⟨c,rfl,cl,cu9,k9,r9⟩
    have H9:=ae ((ab H8).kp hR k9 (r9 (by omega)))
    clear H8 k9 r9
    obtain⟨xc0,xc1,xc2,xc3,xc4⟩:=c5 (ab H9).It
    obtain⟨zc0,zc1,zc2,zc3,zc4⟩:=c5 (ab H9).Z
    have xf0:=cF (ab H9).It 0
    have zf0:=cF (ab H9).Z 0
    have xf1:=cF (ab H9).It 1
    have zf1:=cF (ab H9).Z 1
    have xf2:=cF (ab H9).It 2
    have zf2:=cF (ab H9).Z 2
    have xf3:=cF (ab H9).It 3
    have zf3:=cF (ab H9).Z 3
    have xf4:=cF (ab H9).It 4
    have zf4:=cF (ab H9).Z 4
    have xz:X<w7.heap.size:=ay (ab H9).It
    have zz:w.heap.size<w7.heap.size:=ay (ab H9).Z
    have hc:c=0∨c=1∨c=2∨c=3∨c=4:=by omega
    rcases hc with rfl|rfl|rfl|rfl|rfl
    ·have nX9:=(ab H9).nX
     have nX8:¬ w.heap.size=X:=by omega
     have nX7:¬ X=w.heap.size:=by omega
     clear y2l y2u cl cu9
     have HF:=ae ((ab H9).set (q2:=t8) (t2:=0) (k2:=0) (v2:=0) (n2:=t9) hR 0 (.int .i64 t8) rfl)
     go_wp2
     refine bodyPost_ret (v:= .agg #[.int .i64 t8,.int .i64 0,.int .i64 0,.int .i64 0,.int .i64 t9]) (nt) rfl ?_
     exact(ab HF).done (p0:=p) hR (by omega)
    ·have nX9:=(ab H9).nX
     have nX8:¬ w.heap.size=X:=by omega
     have nX7:¬ X=w.heap.size:=by omega
     clear y2l y2u cl cu9
     have HF:=ae ((ab H9).set (q2:=3) (t2:=t8) (k2:=0) (v2:=0) (n2:=t9) hR 1 (.int .i64 t8) rfl)
     go_wp2
     refine bodyPost_ret (v:= .agg #[.int .i64 3,.int .i64 t8,.int .i64 0,.int .i64 0,.int .i64 t9]) (nt) rfl ?_
     exact(ab HF).done (p0:=p) hR (by omega)
    ·have nX9:=(ab H9).nX
     have nX8:¬ w.heap.size=X:=by omega
     have nX7:¬ X=w.heap.size:=by omega
     clear y2l y2u cl cu9
     have HF:=ae ((ab H9).set (q2:=3) (t2:=0) (k2:=t8) (v2:=0) (n2:=t9) hR 2 (.int .i64 t8) rfl)
     go_wp2
     refine bodyPost_ret (v:= .agg #[.int .i64 3,.int .i64 0,.int .i64 t8,.int .i64 0,.int .i64 t9]) (nt) rfl ?_
     exact(ab HF).done (p0:=p) hR (by omega)
    ·have nX9:=(ab H9).nX
     have nX8:¬ w.heap.size=X:=by omega
     have nX7:¬ X=w.heap.size:=by omega
     clear y2l y2u cl cu9
     have HF:=ae ((ab H9).set (q2:=3) (t2:=0) (k2:=0) (v2:=t8) (n2:=t9) hR 3 (.int .i64 t8) rfl)
     go_wp2
     refine bodyPost_ret (v:= .agg #[.int .i64 3,.int .i64 0,.int .i64 0,.int .i64 t8,.int .i64 t9]) (nt) rfl ?_
     exact(ab HF).done (p0:=p) hR (by omega)
    ·have nX9:=(ab H9).nX
     have nX8:¬ w.heap.size=X:=by omega
     have nX7:¬ X=w.heap.size:=by omega
     clear y2l y2u cl cu9
     have HF:=ae ((ab H9).set (q2:=3) (t2:=0) (k2:=0) (v2:=0) (n2:=t8) hR 4 (.int .i64 t8) rfl)
     go_wp2
     refine bodyPost_ret (v:= .agg #[.int .i64 3,.int .i64 0,.int .i64 0,.int .i64 0,.int .i64 t8]) (nt) rfl ?_
     exact(ab HF).done (p0:=p) hR (by omega)
  ·have h11:(y==1)=false:=by simp[h1]
   go_wp2_with fail
   refine(aG R a len cap (p+4+1) n _ hn hn2 (ab H3).D).mono ?_
   rintro e' w5 ⟨y2,rfl,y2l,y2u,k9,r9⟩
   have H7:=ae ((ab H3).kp hR k9 (r9 (by omega)))
   clear H3 k9 r9
   by_cases hy:0<y2
   ·have hy1:decide (0<y2)=true:=decide_eq_true hy
    obtain⟨xc0,xc1,xc2,xc3,xc4⟩:=c5 (ab H7).It
    obtain⟨zc0,zc1,zc2,zc3,zc4⟩:=c5 (ab H7).Z
    have xf0:=cF (ab H7).It 0
    have zf0:=cF (ab H7).Z 0
    have xf1:=cF (ab H7).It 1
    have zf1:=cF (ab H7).Z 1
    have xf2:=cF (ab H7).It 2
    have zf2:=cF (ab H7).Z 2
    have xf3:=cF (ab H7).It 3
    have zf3:=cF (ab H7).Z 3
    have xf4:=cF (ab H7).It 4
    have zf4:=cF (ab H7).Z 4
    have xz:X<w5.heap.size:=ay (ab H7).It
    have zz:w.heap.size<w5.heap.size:=ay (ab H7).Z
    go_wp2
    refine bodyPost_ret (v:= .agg #[.int .i64 1,.int .i64 t,.int .i64 k,.int .i64 v,.int .i64 0]) (nt) rfl ?_
    exact(ab H7).done (p0:=p) hR (by omega)
   ·have hy1:decide (0<y2)=false:=decide_eq_false hy
    go_wp2_with fail
    have HA:=ae ((ab H7).bel hR (aq w5 (.cells #[.int .i64 (-1),.int .i64 0,.int .i64 61,.int .i64 4,.int .i64 10,.int .i64 1000,.int .i64 901] 3)))
    have hYA:(w5.alloc (.cells #[.int .i64 (-1),.int .i64 0,.int .i64 61,.int .i64 4,.int .i64 10,.int .i64 1000,.int .i64 901] 3)).heap[w5.heap.size]? =some (.cells #[.int .i64 (-1),.int .i64 0,.int .i64 61,.int .i64 4,.int .i64 10,.int .i64 1000,.int .i64 901] 3 (0,0)):=World.alloc_heap_new w5 _
    have neY:w5.heap.size≠R:=by have:=(ab H7).K.low.size;omega
    clear H7
    generalize w5.heap.size=Y at hYA neY ⊢
    generalize w5.alloc (.cells #[.int .i64 (-1),.int .i64 0,.int .i64 61,.int .i64 4,.int .i64 10,.int .i64 1000,.int .i64 901] 3)=wl at HA hYA ⊢
    refine(aG R a len cap (p+4+1+1) 7 _ (by decide) (by decide) (ab HA).D).mono ?_
    rintro e' w6 ⟨y6,rfl,y6l,y6u,k9,r9⟩
    obtain⟨y7,rfl⟩:=Int.eq_ofNat_of_zero_le y6l
    have y7u:y7<7:=by omega
    have H8:=ae ((ab HA).kp hR k9 (r9 (by omega)))
    have hYB:=(k9.all Y (ay hYA) neY).trans hYA
    obtain⟨t8,ht8⟩:=pickL [-1,0,61,4,10,1000,901] hYB y7u
    have zY:Y<w6.heap.size:=ay hYB
    clear HA k9 r9 hYA hYB y6l
    go_wp2_with fail
    clear ht8 zY
    refine(aG R a len cap (p+4+1+1+1) 5 _ (by decide) (by decide) (ab H8).D).mono ?_
    rintro e' w7 ⟨c,rfl,cl,cu9,k9,r9⟩
    have H9:=ae ((ab H8).kp hR k9 (r9 (by omega)))
    clear H8 k9 r9
    obtain⟨xc0,xc1,xc2,xc3,xc4⟩:=c5 (ab H9).It
    obtain⟨zc0,zc1,zc2,zc3,zc4⟩:=c5 (ab H9).Z
    have xf0:=cF (ab H9).It 0
    have zf0:=cF (ab H9).Z 0
    have xf1:=cF (ab H9).It 1
    have zf1:=cF (ab H9).Z 1
    have xf2:=cF (ab H9).It 2
    have zf2:=cF (ab H9).Z 2
    have xf3:=cF (ab H9).It 3
    have zf3:=cF (ab H9).Z 3
    have xf4:=cF (ab H9).It 4
    have zf4:=cF (ab H9).Z 4
    have xz:X<w7.heap.size:=ay (ab H9).It
    have zz:w.heap.size<w7.heap.size:=ay (ab H9).Z
    have hc:c=0∨c=1∨c=2∨c=3∨c=4:=by omega
    rcases hc with rfl|rfl|rfl|rfl|rfl
    ·have nX9:=(ab H9).nX
     have nX8:¬ w.heap.size=X:=by omega
     have nX7:¬ X=w.heap.size:=by omega
     clear y2l y2u cl cu9
     have HF:=ae ((ab H9).set (q2:=t8) (t2:=t) (k2:=k) (v2:=v) (n2:=0) hR 0 (.int .i64 t8) rfl)
     go_wp2
     refine bodyPost_ret (v:= .agg #[.int .i64 t8,.int .i64 t,.int .i64 k,.int .i64 v,.int .i64 0]) (nt) rfl ?_
     exact(ab HF).done (p0:=p) hR (by omega)
    ·have nX9:=(ab H9).nX
     have nX8:¬ w.heap.size=X:=by omega
     have nX7:¬ X=w.heap.size:=by omega
     clear y2l y2u cl cu9
     have HF:=ae ((ab H9).set (q2:=1) (t2:=t8) (k2:=k) (v2:=v) (n2:=0) hR 1 (.int .i64 t8) rfl)
     go_wp2
     refine bodyPost_ret (v:= .agg #[.int .i64 1,.int .i64 t8,.int .i64 k,.int .i64 v,.int .i64 0]) (nt) rfl ?_
     exact(ab HF).done (p0:=p) hR (by omega)
    ·have nX9:=(ab H9).nX
     have nX8:¬ w.heap.size=X:=by omega
     have nX7:¬ X=w.heap.size:=by omega
     clear y2l y2u cl cu9
     have HF:=ae ((ab H9).set (q2:=1) (t2:=t) (k2:=t8) (v2:=v) (n2:=0) hR 2 (.int .i64 t8) rfl)
     go_wp2
     refine bodyPost_ret (v:= .agg #[.int .i64 1,.int .i64 t,.int .i64 t8,.int .i64 v,.int .i64 0]) (nt) rfl ?_
     exact(ab HF).done (p0:=p) hR (by omega)
    ·have nX9:=(ab H9).nX
     have nX8:¬ w.heap.size=X:=by omega
     have nX7:¬ X=w.heap.size:=by omega
     clear y2l y2u cl cu9
     have HF:=ae ((ab H9).set (q2:=1) (t2:=t) (k2:=k) (v2:=t8) (n2:=0) hR 3 (.int .i64 t8) rfl)
     go_wp2
     refine bodyPost_ret (v:= .agg #[.int .i64 1,.int .i64 t,.int .i64 k,.int .i64 t8,.int .i64 0]) (nt) rfl ?_
     exact(ab HF).done (p0:=p) hR (by omega)
    ·have nX9:=(ab H9).nX
     have nX8:¬ w.heap.size=X:=by omega
     have nX7:¬ X=w.heap.size:=by omega
     clear y2l y2u cl cu9
     have HF:=ae ((ab H9).set (q2:=1) (t2:=t) (k2:=k) (v2:=v) (n2:=t8) hR 4 (.int .i64 t8) rfl)
     go_wp2
     refine bodyPost_ret (v:= .agg #[.int .i64 1,.int .i64 t,.int .i64 k,.int .i64 v,.int .i64 t8]) (nt) rfl ?_
     exact(ab HF).done (p0:=p) hR (by omega)
end Go.Proofs.YtdmhihcipkhecaaGreat
namespace Go.Proofs.YtdmhihcipkhecaaGreat
open Go.ChangeShapes Go.WideShapes Go.ChangeAt Go.RowKit Go.Shelf Go.Maps Go.Deep
set_option linter.unusedSimpArgs false
def DrawOpP(w:World)(e':Ending)(w':World):Prop:=∃(s t k z q l e:Int) (b:Bool) (v r m:Int) (au:Option Addr) (cu:Nat) (xs:List aC) (x1 x2 x3 x4 x5:Int),e'= .returned (.tuple #[.agg #[.int .i64 s,.int .i64 t,.int .i64 k,.int .i64 z,.int .i64 q,.int .i64 l,.int .i64 e,.bool b,.int .i64 v,.int .i64 r],.agg #[.int .i64 m,.slice au xs.length cu],.agg #[.int .i64 x1,.int .i64 x2,.int .i64 x3,.int .i64 x4,.int .i64 x5]])∧aS w' w.heap.size (.slice au xs.length cu) xs∧xs.length≤261∧(-1≤m∧m≤1001)∧Below w.heap.size w w'
/-- What is drawn, and the results' boxes. -/
structure ij(R:Nat)(w W:World)(XJ XS XX:Nat)(s t k z q l e:Int)(b:Bool)(v r:Int)(m:Int)(au:Option Addr)(cu:Nat)(xs:List aC)(x1 x2 x3 x4 x5:Int)(cj cs cx:Array Value):Prop where
 ZJ:W.heap[w.heap.size]? =some (.cells cj 24 (0,0))
 ZS:W.heap[w.heap.size+1]? =some (.cells cs 27 (0,0))
 ZX:W.heap[w.heap.size+1+1]? =some (.cells cx 29 (0,0))
 J:W.heap[XJ]? =some (.cells #[.int .i64 s,.int .i64 t,.int .i64 k,.int .i64 z,.int .i64 q,.int .i64 l,.int .i64 e,.bool b,.int .i64 v,.int .i64 r] 24 (0,0))
 S:W.heap[XS]? =some (.cells #[.int .i64 m,.slice au xs.length cu] 27 (0,0))
 X:W.heap[XX]? =some (.cells #[.int .i64 x1,.int .i64 x2,.int .i64 x3,.int .i64 x4,.int .i64 x5] 29 (0,0))
 nR:w.heap.size+1+1<R
 nJ:R<XJ
 nS:R<XS
 nX:R<XX
 O:aS W (R+1) (.slice au xs.length cu) xs
 L:Below w.heap.size w W
theorem ij.kp{R XJ XS XX:Nat}{w W:World}{s t k z q l e:Int}{b:Bool}{v r m:Int}{au:Option Addr}{cu:Nat}{xs:List aC}{x1 x2 x3 x4 x5:Int}{cj cs cx:Array Value}{W2:World}(h:ij R w W XJ XS XX s t k z q l e b v r m au cu xs x1 x2 x3 x4 x5 cj cs cx)(k9:Kp R W W2):ij R w W2 XJ XS XX s t k z q l e b v r m au cu xs x1 x2 x3 x4 x5 cj cs cx:=
 ⟨(k9.all _ (ay h.ZJ) (by have:=h.nR;omega)).trans h.ZJ,(k9.all _ (ay h.ZS) (by have:=h.nR;omega)).trans h.ZS,(k9.all _ (ay h.ZX) (by have:=h.nR;omega)).trans h.ZX,(k9.all _ (ay h.J) (by have:=h.nJ;omega)).trans h.J,(k9.all _ (ay h.S) (by have:=h.nS;omega)).trans h.S,(k9.all _ (ay h.X) (by have:=h.nX;omega)).trans h.X,h.nR,h.nJ,h.nS,h.nX,jM h.O k9 (by omega),h.L.trans (k9.low.mono (by have:=h.nR;omega))⟩
theorem ij.bel{R XJ XS XX:Nat}{w W:World}{s t k z q l e:Int}{b:Bool}{v r m:Int}{au:Option Addr}{cu:Nat}{xs:List aC}{x1 x2 x3 x4 x5:Int}{cj cs cx:Array Value}{W2:World}(h:ij R w W XJ XS XX s t k z q l e b v r m au cu xs x1 x2 x3 x4 x5 cj cs cx)(hb:Below W.heap.size W W2):ij R w W2 XJ XS XX s t k z q l e b v r m au cu xs x1 x2 x3 x4 x5 cj cs cx:=
 h.kp (Kp.of_bel (by have:=ay h.J;have:=h.nJ;omega) hb)
theorem ij.setZJ{R XJ XS XX:Nat}{w W:World}{s t k z q l e:Int}{b:Bool}{v r m:Int}{au:Option Addr}{cu:Nat}{xs:List aC}{x1 x2 x3 x4 x5:Int}{cj cs cx:Array Value}{c9:Array Value}(h:ij R w W XJ XS XX s t k z q l e b v r m au cu xs x1 x2 x3 x4 x5 cj cs cx)(o:Nat)(u:Value)(hx:cj.setIfInBounds o u=c9):ij R w (W.setCell ⟨w.heap.size,o,none⟩ u) XJ XS XX s t k z q l e b v r m au cu xs x1 x2 x3 x4 x5 c9 cs cx:=
 ⟨by have h9:=Joins.block_setCell (i:=o) h.ZJ u;rw[hx]at h9;exact h9,(Below.heap_setCell _ _ _ _ (by have:=h.nR;have:=h.nJ;have:=h.nS;have:=h.nX;show _≠w.heap.size;omega)).trans h.ZS,(Below.heap_setCell _ _ _ _ (by have:=h.nR;have:=h.nJ;have:=h.nS;have:=h.nX;show _≠w.heap.size;omega)).trans h.ZX,(Below.heap_setCell _ _ _ _ (by have:=h.nR;have:=h.nJ;have:=h.nS;have:=h.nX;show _≠w.heap.size;omega)).trans h.J,(Below.heap_setCell _ _ _ _ (by have:=h.nR;have:=h.nJ;have:=h.nS;have:=h.nX;show _≠w.heap.size;omega)).trans h.S,(Below.heap_setCell _ _ _ _ (by have:=h.nR;have:=h.nJ;have:=h.nS;have:=h.nX;show _≠w.heap.size;omega)).trans h.X,h.nR,h.nJ,h.nS,h.nX,al h.O (af h.O h.ZJ (by decide)),av h.L (by show w.heap.size≤w.heap.size;omega) _⟩
theorem ij.setZS{R XJ XS XX:Nat}{w W:World}{s t k z q l e:Int}{b:Bool}{v r m:Int}{au:Option Addr}{cu:Nat}{xs:List aC}{x1 x2 x3 x4 x5:Int}{cj cs cx:Array Value}{c9:Array Value}(h:ij R w W XJ XS XX s t k z q l e b v r m au cu xs x1 x2 x3 x4 x5 cj cs cx)(o:Nat)(u:Value)(hx:cs.setIfInBounds o u=c9):ij R w (W.setCell ⟨w.heap.size+1,o,none⟩ u) XJ XS XX s t k z q l e b v r m au cu xs x1 x2 x3 x4 x5 cj c9 cx:=
 ⟨(Below.heap_setCell _ _ _ _ (by have:=h.nR;have:=h.nJ;have:=h.nS;have:=h.nX;show _≠w.heap.size+1;omega)).trans h.ZJ,by have h9:=Joins.block_setCell (i:=o) h.ZS u;rw[hx]at h9;exact h9,(Below.heap_setCell _ _ _ _ (by have:=h.nR;have:=h.nJ;have:=h.nS;have:=h.nX;show _≠w.heap.size+1;omega)).trans h.ZX,(Below.heap_setCell _ _ _ _ (by have:=h.nR;have:=h.nJ;have:=h.nS;have:=h.nX;show _≠w.heap.size+1;omega)).trans h.J,(Below.heap_setCell _ _ _ _ (by have:=h.nR;have:=h.nJ;have:=h.nS;have:=h.nX;show _≠w.heap.size+1;omega)).trans h.S,(Below.heap_setCell _ _ _ _ (by have:=h.nR;have:=h.nJ;have:=h.nS;have:=h.nX;show _≠w.heap.size+1;omega)).trans h.X,h.nR,h.nJ,h.nS,h.nX,al h.O (af h.O h.ZS (by decide)),av h.L (by show w.heap.size≤w.heap.size+1;omega) _⟩
theorem ij.setZX{R XJ XS XX:Nat}{w W:World}{s t k z q l e:Int}{b:Bool}{v r m:Int}{au:Option Addr}{cu:Nat}{xs:List aC}{x1 x2 x3 x4 x5:Int}{cj cs cx:Array Value}{c9:Array Value}(h:ij R w W XJ XS XX s t k z q l e b v r m au cu xs x1 x2 x3 x4 x5 cj cs cx)(o:Nat)(u:Value)(hx:cx.setIfInBounds o u=c9):ij R w (W.setCell ⟨w.heap.size+1+1,o,none⟩ u) XJ XS XX s t k z q l e b v r m au cu xs x1 x2 x3 x4 x5 cj cs c9:=
 ⟨(Below.heap_setCell _ _ _ _ (by have:=h.nR;have:=h.nJ;have:=h.nS;have:=h.nX;show _≠w.heap.size+1+1;omega)).trans h.ZJ,(Below.heap_setCell _ _ _ _ (by have:=h.nR;have:=h.nJ;have:=h.nS;have:=h.nX;show _≠w.heap.size+1+1;omega)).trans h.ZS,by have h9:=Joins.block_setCell (i:=o) h.ZX u;rw[hx]at h9;exact h9,(Below.heap_setCell _ _ _ _ (by have:=h.nR;have:=h.nJ;have:=h.nS;have:=h.nX;show _≠w.heap.size+1+1;omega)).trans h.J,(Below.heap_setCell _ _ _ _ (by have:=h.nR;have:=h.nJ;have:=h.nS;have:=h.nX;show _≠w.heap.size+1+1;omega)).trans h.S,(Below.heap_setCell _ _ _ _ (by have:=h.nR;have:=h.nJ;have:=h.nS;have:=h.nX;show _≠w.heap.size+1+1;omega)).trans h.X,h.nR,h.nJ,h.nS,h.nX,al h.O (af h.O h.ZX (by decide)),av h.L (by show w.heap.size≤w.heap.size+1+1;omega) _⟩
theorem ij.setX{R XJ XS XX:Nat}{w W:World}{s t k z q l e:Int}{b:Bool}{v r m:Int}{au:Option Addr}{cu:Nat}{xs:List aC}{x1 x2 x3 x4 x5:Int}{cj cs cx:Array Value}{y1 y2 y3 y4 y5:Int}(h:ij R w W XJ XS XX s t k z q l e b v r m au cu xs x1 x2 x3 x4 x5 cj cs cx)(o:Nat)(u:Value)(hx:(#[.int .i64 x1,.int .i64 x2,.int .i64 x3,.int .i64 x4,.int .i64 x5]:Array Value).setIfInBounds o u=#[.int .i64 y1,.int .i64 y2,.int .i64 y3,.int .i64 y4,.int .i64 y5])(hJ:XJ≠XX)(hS:XS≠XX):ij R w (W.setCell ⟨XX,o,none⟩ u) XJ XS XX s t k z q l e b v r m au cu xs y1 y2 y3 y4 y5 cj cs cx:=
 ⟨(Below.heap_setCell _ _ _ _ (by have:=h.nR;have:=h.nX;show _≠XX;omega)).trans h.ZJ,(Below.heap_setCell _ _ _ _ (by have:=h.nR;have:=h.nX;show _≠XX;omega)).trans h.ZS,(Below.heap_setCell _ _ _ _ (by have:=h.nR;have:=h.nX;show _≠XX;omega)).trans h.ZX,(Below.heap_setCell _ _ _ _ hJ).trans h.J,(Below.heap_setCell _ _ _ _ hS).trans h.S,by have h9:=Joins.block_setCell (i:=o) h.X u;rw[hx]at h9;exact h9,h.nR,h.nJ,h.nS,h.nX,al h.O (af h.O h.X (by decide)),av h.L (by have:=h.nR;have:=h.nX;show w.heap.size≤XX;omega) _⟩
set_option maxRecDepth 100000 in
set_option maxHeartbeats 16000000 in
theorem drawop_any(a:Option Addr)(len cap:Nat)(w:World)(hlc:len≤cap)(hm:len≤1048576)(hb:cK w a len)(hl:∀g o,a=some ⟨g,o,none⟩→0<len→g<w.heap.size)(hn:a=none→cap=0):Calls Tryz.prog 7 #[.slice a len cap] w fun e' w'=>DrawOpP w e' w':=by
 have hbA:Below w.heap.size w (((w.alloc (.cells #[.int .i64 0,.int .i64 0,.int .i64 0,.int .i64 0,.int .i64 0,.int .i64 0,.int .i64 0,.bool false,.int .i64 0,.int .i64 0] 24)).alloc (.cells #[.int .i64 0,.slice none 0 0] 27)).alloc (.cells #[.int .i64 0,.int .i64 0,.int .i64 0,.int .i64 0,.int .i64 0] 29)):=ag (ag (aq _ _) _) _
 have eJ:(((w.alloc (.cells #[.int .i64 0,.int .i64 0,.int .i64 0,.int .i64 0,.int .i64 0,.int .i64 0,.int .i64 0,.bool false,.int .i64 0,.int .i64 0] 24)).alloc (.cells #[.int .i64 0,.slice none 0 0] 27)).alloc (.cells #[.int .i64 0,.int .i64 0,.int .i64 0,.int .i64 0,.int .i64 0] 29)).heap[w.heap.size]? =some (.cells #[.int .i64 0,.int .i64 0,.int .i64 0,.int .i64 0,.int .i64 0,.int .i64 0,.int .i64 0,.bool false,.int .i64 0,.int .i64 0] 24 (0,0)):=aN<|aN<|nA
 have eS:(((w.alloc (.cells #[.int .i64 0,.int .i64 0,.int .i64 0,.int .i64 0,.int .i64 0,.int .i64 0,.int .i64 0,.bool false,.int .i64 0,.int .i64 0] 24)).alloc (.cells #[.int .i64 0,.slice none 0 0] 27)).alloc (.cells #[.int .i64 0,.int .i64 0,.int .i64 0,.int .i64 0,.int .i64 0] 29)).heap[w.heap.size+1]? =some (.cells #[.int .i64 0,.slice none 0 0] 27 (0,0)):=aN<|nA
 have eX:(((w.alloc (.cells #[.int .i64 0,.int .i64 0,.int .i64 0,.int .i64 0,.int .i64 0,.int .i64 0,.int .i64 0,.bool false,.int .i64 0,.int .i64 0] 24)).alloc (.cells #[.int .i64 0,.slice none 0 0] 27)).alloc (.cells #[.int .i64 0,.int .i64 0,.int .i64 0,.int .i64 0,.int .i64 0] 29)).heap[w.heap.size+1+1]? =some (.cells #[.int .i64 0,.int .i64 0,.int .i64 0,.int .i64 0,.int .i64 0] 29 (0,0)):=nA
 have hz3:(((w.alloc (.cells #[.int .i64 0,.int .i64 0,.int .i64 0,.int .i64 0,.int .i64 0,.int .i64 0,.int .i64 0,.bool false,.int .i64 0,.int .i64 0] 24)).alloc (.cells #[.int .i64 0,.slice none 0 0] 27)).alloc (.cells #[.int .i64 0,.int .i64 0,.int .i64 0,.int .i64 0,.int .i64 0] 29)).heap.size=w.heap.size+3:=by simp
 go_enter Tryz.func7,Tryz.ntmps7
 go_wp2_with fail
 refine(open_any a len cap _ hlc hm (hb.bel hl hbA) (fun g o h1 h2=>Nat.lt_of_lt_of_le (hl g o h1 h2) hbA.size) hn).mono ?_
 rintro e' w1 ⟨R,ln,cp,rfl,hR1,hR2,hb1,hrd⟩
 rw[hz3]at hR1
 have fJ:=(hb1.block w.heap.size (by rw[hz3];omega)).trans eJ
 have fS:=(hb1.block (w.heap.size+1) (by rw[hz3];omega)).trans eS
 have fX:=(hb1.block (w.heap.size+1+1) (by rw[hz3];omega)).trans eX
 have hL:=ae (am hbA hb1)
 clear hb hl hn eJ eS eX hb1 hbA hz3
 go_wp2_with fail
 refine(anyop_any R a ln cp 0 16 _ (by decide) (by decide) (by omega) hR2 hrd).mono ?_
 rintro e' w2 ⟨s,t,k,z,q,l,e,b,v,r,m,au,cu,xs,rfl,hO,hx,hmb,k9,p2,hp2,r2⟩
 have gJ:=(k9.all w.heap.size (by omega) (by omega)).trans fJ
 have gS:=(k9.all (w.heap.size+1) (by omega) (by omega)).trans fS
 have gX:=(k9.all (w.heap.size+1+1) (by omega) (by omega)).trans fX
 have hL2:Hid (Below w.heap.size w w2):=ae ((ab hL).trans (k9.low.mono (by omega)))
 have z2:=k9.low.size
 have HO:=ae (World.ownsRow.mono hO (show R+1≤w1.heap.size by omega))
 have HG:=ae gJ
 have HG2:=ae gS
 have HG3:=ae gX
 have HDr:=ae r2
 have HZJ:=ae ((Below.heap_alloc (w2.alloc (.cells #[.int .i64 s,.int .i64 t,.int .i64 k,.int .i64 z,.int .i64 q,.int .i64 l,.int .i64 e,.bool b,.int .i64 v,.int .i64 r] 24)) (.cells #[.int .i64 m,.slice au xs.length cu] 27) w2.heap.size (by simp)).trans (World.alloc_heap_new w2 (.cells #[.int .i64 s,.int .i64 t,.int .i64 k,.int .i64 z,.int .i64 q,.int .i64 l,.int .i64 e,.bool b,.int .i64 v,.int .i64 r] 24)))
 have HZS:=ae (show((w2.alloc (.cells #[.int .i64 s,.int .i64 t,.int .i64 k,.int .i64 z,.int .i64 q,.int .i64 l,.int .i64 e,.bool b,.int .i64 v,.int .i64 r] 24)).alloc (.cells #[.int .i64 m,.slice au xs.length cu] 27)).heap[w2.heap.size+1]? =some (.cells #[.int .i64 m,.slice au xs.length cu] 27 (0,0))from nA)
 clear hrd fJ fS fX hL k9 r2 gJ gS gX hO
 go_wp2_with fail
 have hzz:((w2.alloc (.cells #[.int .i64 s,.int .i64 t,.int .i64 k,.int .i64 z,.int .i64 q,.int .i64 l,.int .i64 e,.bool b,.int .i64 v,.int .i64 r] 24)).alloc (.cells #[.int .i64 m,.slice au xs.length cu] 27)).heap.size=w2.heap.size+2:=by simp
 have hb3:Below w2.heap.size w2 ((w2.alloc (.cells #[.int .i64 s,.int .i64 t,.int .i64 k,.int .i64 z,.int .i64 q,.int .i64 l,.int .i64 e,.bool b,.int .i64 v,.int .i64 r] 24)).alloc (.cells #[.int .i64 m,.slice au xs.length cu] 27)):=ag (aq _ _) _
 refine(lK R a ln cp p2 _ (by omega) (by rw[hzz];omega) ((ab HDr).kp (by omega) hb3)).mono ?_
 rintro e' w4 ⟨T,K,V,rfl,hT,hK,hV,k9,r9⟩
 have iJ:=(k9.all w2.heap.size (by rw[hzz];omega) (by omega)).trans (ab HZJ)
 have iS:=(k9.all (w2.heap.size+1) (by rw[hzz];omega) (by omega)).trans (ab HZS)
 have z4:=k9.low.size
 rw[hzz]at z4
 have k24:Kp R w2 w4:=(Kp.of_bel (by omega) hb3).trans k9
 have HJ4:=ae iJ
 have HS4:=ae iS
 have HK4:=ae k24
 have HD4:=ae r9
 have HX4:=ae (World.alloc_heap_new w4 (.cells #[.int .i64 1,.int .i64 T,.int .i64 K,.int .i64 V,.int .i64 0] 29))
 clear k9 r9 iJ iS k24 HZJ HZS hb3 hzz HDr
 go_wp2_with fail
 have HI:Hid (ij R w (w4.alloc (.cells #[.int .i64 1,.int .i64 T,.int .i64 K,.int .i64 V,.int .i64 0] 29)) w2.heap.size (w2.heap.size+1) w4.heap.size s t k z q l e b v r m au cu xs 1 T K V 0 #[.int .i64 0,.int .i64 0,.int .i64 0,.int .i64 0,.int .i64 0,.int .i64 0,.int .i64 0,.bool false,.int .i64 0,.int .i64 0] #[.int .i64 0,.slice none 0 0] #[.int .i64 0,.int .i64 0,.int .i64 0,.int .i64 0,.int .i64 0]):=ae (by
  have k4:=ab HK4
  have kA:=ce (show R<w2.heap.size by omega) k4 (.cells #[.int .i64 1,.int .i64 T,.int .i64 K,.int .i64 V,.int .i64 0] 29)
  exact⟨(kA.all _ (by omega) (by omega)).trans (ab HG),(kA.all _ (by omega) (by omega)).trans (ab HG2),(kA.all _ (by omega) (by omega)).trans (ab HG3),(Below.heap_alloc w4 _ _ (by omega)).trans (ab HJ4),(Below.heap_alloc w4 _ _ (by omega)).trans (ab HS4),ab HX4,by omega,by omega,by omega,by omega,jM (ab HO) kA (by omega),(ab hL2).trans (kA.low.mono (by omega))⟩)
 have HD:=ae ((ab HD4).kp (show R<w4.heap.size by omega) (aq w4 (.cells #[.int .i64 1,.int .i64 T,.int .i64 K,.int .i64 V,.int .i64 0] 29)))
 have nJX:w2.heap.size≠w4.heap.size:=by omega
 have nSX:w2.heap.size+1≠w4.heap.size:=by omega
 have nJS:w2.heap.size≠w2.heap.size+1:=by omega
 clear HG HG2 HG3 HO hL2 HJ4 HS4 HK4 HD4 HX4
 generalize w4.alloc (.cells #[.int .i64 1,.int .i64 T,.int .i64 K,.int .i64 V,.int .i64 0] 29)=w5 at HI HD ⊢
 have hRX:=(ab HI).nX
 have hRS:=(ab HI).nS
 clear z4 z2 hR1 hR2
 generalize w4.heap.size=XX at HI nJX nSX hRX ⊢
 generalize w2.heap.size+1=XS at HI nSX nJS hRS ⊢
 generalize w2.heap.size=XJ at HI nJX nJS ⊢
 refine(aG R a ln cp (p2+4) 2 _ (by decide) (by decide) (ab HD)).mono ?_
 rintro e' w6 ⟨K2,rfl,K2l,K2u,k9,r9⟩
 have H6:=ae ((ab HI).kp k9)
 have D6:=ae (r9 (by omega))
 clear HI HD k9 r9
 obtain⟨xc0,xc1,xc2,xc3,xc4⟩:=c5 (ab H6).X
 obtain⟨xf0,xf1,xf2,xf3,xf4⟩:=f5 (ab H6).X
 have xz:XX<w6.heap.size:=ay (ab H6).X
 go_wp2_with fail
 clear xc0 xf0 xc1 xf1 xc2 xf2 xc3 xf3 xc4 xf4 xz
 have H7:Hid (ij R w (w6.setCell ⟨XX,2,none⟩ (.int .i64 K2)) XJ XS XX s t k z q l e b v r m au cu xs 1 T K2 V 0 #[.int .i64 0,.int .i64 0,.int .i64 0,.int .i64 0,.int .i64 0,.int .i64 0,.int .i64 0,.bool false,.int .i64 0,.int .i64 0] #[.int .i64 0,.slice none 0 0] #[.int .i64 0,.int .i64 0,.int .i64 0,.int .i64 0,.int .i64 0]):=ae ((ab H6).setX 2 (.int .i64 K2) rfl nJX nSX)
 have D7:=ae (ai (o:=2) (v:= .int .i64 K2) (ab D6) hRX)
 clear H6 D6
 generalize w6.setCell ⟨XX,2,none⟩ (.int .i64 K2)=w7 at H7 D7 ⊢
 refine(aG R a ln cp (p2+4+1) 3 _ (by decide) (by decide) (ab D7)).mono ?_
 rintro e' w8 ⟨y3,rfl,y3l,y3u,k9,r9⟩
 have H8:=ae ((ab H7).kp k9)
 have D8:=ae (r9 (by omega))
 clear H7 D7 k9 r9
 go_upto_if 23 with fail
 go_cut [8] (fun pv W=>pv= .pointer (some ⟨XX,0,none⟩)∧∃(T9:Int) (p9:Nat),p9≤p2+12∧Hid (ij R w W XJ XS XX s t k z q l e b v r m au cu xs 1 T9 K2 V 0 #[.int .i64 0,.int .i64 0,.int .i64 0,.int .i64 0,.int .i64 0,.int .i64 0,.int .i64 0,.bool false,.int .i64 0,.int .i64 0] #[.int .i64 0,.slice none 0 0] #[.int .i64 0,.int .i64 0,.int .i64 0,.int .i64 0,.int .i64 0])∧Hid (Rd R W a ln cp p9))
 case first=>
  by_cases hy:0<y3
  ·have hy1:decide (0<y3)=true:=decide_eq_true hy
   go_wp2_with fail
   have HE:=ae ((ab H8).bel (ap (Below.refl _ _)))
   have DE:=ae ((ab D8).kp (show R<w8.heap.size by have:=ay (ab H8).J;have:=(ab H8).nJ;omega) (ap (Below.refl _ _)))
   refine wp_region_held_drew (S:=(fun W=>W.heap[XS]? =some (.cells #[.int .i64 m,.slice au xs.length cu] 27 (0,0)))) (oc) ?_ (fun hHeld=>?_)
   ·((try dsimp only);exact(ab HE).S)
   refine kV 0 ?_
   refine kT 1 ?_ ?_ ?_
   rotate_left
   ·(intro w9 hSw;(try dsimp only at hSw);have q1:=hSw;obtain⟨bxx0,bxx1⟩:=c2 q1;go_simp<;>with_reducible rfl)
   try simp only[Act.put,tA,tZ,tS]
   refine kV 2 ?_
   refine rD 3 (fun K hK=>?_)
   go_simp
   (go_at_call 25;refine(aG R a ln cp _ 30 _ (by decide) (by decide) (ab DE)).mono ?_;rintro e9 w9 ⟨y4,rfl,y4l,y4u,k9,r9⟩)
   (try go_wp2_with fail)
   have H9:=ae ((ab HE).kp k9)
   have D9:=ae (r9 (by omega))
   clear HE DE H8 D8 k9 r9
   have hw1:IntKind.i64.wrap (m+y4)=m+y4:=IntWalk.i64_in _ ⟨by omega,by omega⟩
   have hw2:IntKind.i64.wrap (m+y4 - 20)=m+y4 - 20:=IntWalk.i64_in _ ⟨by omega,by omega⟩
   clear hHeld
   refine hK.out _ _ ?_ (fun hHeld=>?_)
   ·((try dsimp only);exact(ab H9).S)
   clear hK K
   try simp only[Act.put,tA,tZ,tS]
   refine kV 4 ?_
   refine kV 5 ?_
   refine kV 6 ?_
   refine rD 7 (fun K hK=>?_)
   obtain⟨xc0,xc1,xc2,xc3,xc4⟩:=c5 (ab H9).X
   obtain⟨xf0,xf1,xf2,xf3,xf4⟩:=f5 (ab H9).X
   have xz:XX<w9.heap.size:=ay (ab H9).X
   go_simp
   clear xc0 xf0 xc1 xf1 xc2 xf2 xc3 xf3 xc4 xf4 xz
   have H10:Hid (ij R w (w9.setCell ⟨XX,1,none⟩ (.int .i64 (m+y4 - 20))) XJ XS XX s t k z q l e b v r m au cu xs 1 (m+y4 - 20) K2 V 0 #[.int .i64 0,.int .i64 0,.int .i64 0,.int .i64 0,.int .i64 0,.int .i64 0,.int .i64 0,.bool false,.int .i64 0,.int .i64 0] #[.int .i64 0,.slice none 0 0] #[.int .i64 0,.int .i64 0,.int .i64 0,.int .i64 0,.int .i64 0]):=ae ((ab H9).setX 1 (.int .i64 (m+y4 - 20)) rfl nJX nSX)
   clear hHeld
   refine hK.out _ _ ?_ (fun hHeld=>?_)
   ·((try dsimp only);exact(ab H10).S)
   clear hK K
   try simp only[Act.put,tA,tZ,tS]
   refine wpAnyH_done (oc) ?_ _
   have D10:=ae (ai (o:=1) (v:= .int .i64 (m+y4 - 20)) (ab D9) hRX)
   clear hHeld H9 D9 hw1 hw2
   generalize w9.setCell ⟨XX,1,none⟩ (.int .i64 (m+y4 - 20))=w10 at H10 D10 ⊢
   obtain⟨T2,hT2⟩:∃T2,m+y4 - 20=T2:=⟨_,rfl⟩
   rw[hT2]at H10 ⊢
   clear hT2
   obtain⟨xc0,xc1,xc2,xc3,xc4⟩:=c5 (ab H10).X
   obtain⟨xf0,xf1,xf2,xf3,xf4⟩:=f5 (ab H10).X
   have xz:XX<w10.heap.size:=ay (ab H10).X
   go_wp2_with fail
   refine(aI _ _ _ _).mono ?_
   rintro e' w11 ⟨rfl,hw11⟩
   obtain rfl:=hw11.symm
   clear hw11
   obtain⟨ob,hob⟩:∃ob,bH T2 0 60=ob:=⟨_,rfl⟩
   rw[hob]
   clear hob
   cases ob with
   |true=>
    go_wp2
    go_meet
    exact⟨rfl,T2,_,(by omega),H10,D10⟩
   |false=>
    go_wp2_with fail
    clear xc0 xf0 xc1 xf1 xc2 xf2 xc3 xf3 xc4 xf4 xz
    refine(aG R a ln cp (p2+4+1+1+1) 20 _ (by decide) (by decide) (ab D10)).mono ?_
    rintro e' w12 ⟨y5,rfl,y5l,y5u,k9,r9⟩
    have H12:=ae ((ab H10).kp k9)
    have D12:=ae (r9 (by omega))
    clear H10 D10 k9 r9
    obtain⟨xc0,xc1,xc2,xc3,xc4⟩:=c5 (ab H12).X
    obtain⟨xf0,xf1,xf2,xf3,xf4⟩:=f5 (ab H12).X
    have xz:XX<w12.heap.size:=ay (ab H12).X
    go_wp2
    go_meet
    have H13:Hid (ij R w (w12.setCell ⟨XX,1,none⟩ (.int .i64 y5)) XJ XS XX s t k z q l e b v r m au cu xs 1 y5 K2 V 0 #[.int .i64 0,.int .i64 0,.int .i64 0,.int .i64 0,.int .i64 0,.int .i64 0,.int .i64 0,.bool false,.int .i64 0,.int .i64 0] #[.int .i64 0,.slice none 0 0] #[.int .i64 0,.int .i64 0,.int .i64 0,.int .i64 0,.int .i64 0]):=ae ((ab H12).setX 1 (.int .i64 y5) rfl nJX nSX)
    have D13:=ae (ai (o:=1) (v:= .int .i64 y5) (ab D12) hRX)
    exact⟨rfl,y5,_,(by omega),H13,D13⟩
  ·have hy1:decide (0<y3)=false:=decide_eq_false hy
   go_wp2
   go_meet
   exact⟨rfl,T,_,(by omega),H8,D8⟩
 case rest=>
  rename World=>wr
  obtain⟨rfl,T9,p9,hp9,HS9,DS9⟩:=hcut
  clear H8 D8
  go_wp2_with fail
  refine(aG R a ln cp p9 16 _ (by decide) (by decide) (ab DS9)).mono ?_
  rintro e' w20 ⟨y9,rfl,y9l,y9u,k9,r9⟩
  have HT:=ae ((ab HS9).kp k9)
  have DT:=ae (r9 (by omega))
  clear HS9 DS9 k9 r9
  go_upto_if 40 with fail
  go_cut [8] (fun pv W=>pv= .pointer (some ⟨XX,0,none⟩)∧∃(n1 n2 n3 n4 n5:Int),Hid (ij R w W XJ XS XX s t k z q l e b v r m au cu xs n1 n2 n3 n4 n5 #[.int .i64 0,.int .i64 0,.int .i64 0,.int .i64 0,.int .i64 0,.int .i64 0,.int .i64 0,.bool false,.int .i64 0,.int .i64 0] #[.int .i64 0,.slice none 0 0] #[.int .i64 0,.int .i64 0,.int .i64 0,.int .i64 0,.int .i64 0]))
  case first=>
   by_cases hy9:y9=0
   ·have hy8:(y9==0)=true:=by simp[hy9]
    go_wp2_with fail
    refine(item_any R a ln cp (p9+1) 2 _ (by decide) (by decide) (by omega) (show R<w20.heap.size by have:=ay (ab HT).J;have:=(ab HT).nJ;omega) (ab DT)).mono ?_
    rintro e' w21 ⟨n1,n2,n3,n4,n5,rfl,k9,_⟩
    have HU:=ae ((ab HT).kp k9)
    clear HT DT k9
    obtain⟨xc0,xc1,xc2,xc3,xc4⟩:=c5 (ab HU).X
    obtain⟨xf0,xf1,xf2,xf3,xf4⟩:=f5 (ab HU).X
    have xz:XX<w21.heap.size:=ay (ab HU).X
    go_wp2
    go_meet
    have HV:Hid (ij R w (((((w21.setCell ⟨XX,0,none⟩ (.int .i64 n1)).setCell ⟨XX,1,none⟩ (.int .i64 n2)).setCell ⟨XX,2,none⟩ (.int .i64 n3)).setCell ⟨XX,3,none⟩ (.int .i64 n4)).setCell ⟨XX,4,none⟩ (.int .i64 n5)) XJ XS XX s t k z q l e b v r m au cu xs n1 n2 n3 n4 n5 #[.int .i64 0,.int .i64 0,.int .i64 0,.int .i64 0,.int .i64 0,.int .i64 0,.int .i64 0,.bool false,.int .i64 0,.int .i64 0] #[.int .i64 0,.slice none 0 0] #[.int .i64 0,.int .i64 0,.int .i64 0,.int .i64 0,.int .i64 0]):=ae ((((((ab HU).setX (y1:=n1) (y2:=T9) (y3:=K2) (y4:=V) (y5:=0) 0 (.int .i64 n1) rfl nJX nSX).setX (y1:=n1) (y2:=n2) (y3:=K2) (y4:=V) (y5:=0) 1 (.int .i64 n2) rfl nJX nSX).setX (y1:=n1) (y2:=n2) (y3:=n3) (y4:=V) (y5:=0) 2 (.int .i64 n3) rfl nJX nSX).setX (y1:=n1) (y2:=n2) (y3:=n3) (y4:=n4) (y5:=0) 3 (.int .i64 n4) rfl nJX nSX).setX (y1:=n1) (y2:=n2) (y3:=n3) (y4:=n4) (y5:=n5) 4 (.int .i64 n5) rfl nJX nSX)
    exact⟨rfl,_,_,_,_,_,HV⟩
   ·have hy8:(y9==0)=false:=by simp[hy9]
    go_wp2
    go_meet
    exact⟨rfl,_,_,_,_,_,HT⟩
  case rest=>
   rename World=>wt
   obtain⟨rfl,n1,n2,n3,n4,n5,HV⟩:=hcut
   clear HT DT
   go_upto_region 11 with fail
   have HE:=ae ((ab HV).bel (ap (Below.refl _ _)))
   refine wp_region_held_drew (S:=(fun W=>W.heap[XJ]? =some (.cells #[.int .i64 s,.int .i64 t,.int .i64 k,.int .i64 z,.int .i64 q,.int .i64 l,.int .i64 e,.bool b,.int .i64 v,.int .i64 r] 24 (0,0))∧W.heap[XS]? =some (.cells #[.int .i64 m,.slice au xs.length cu] 27 (0,0))∧W.heap[XX]? =some (.cells #[.int .i64 n1,.int .i64 n2,.int .i64 n3,.int .i64 n4,.int .i64 n5] 29 (0,0)))) (oc) ?_ (fun hHeld=>?_)
   ·((try dsimp only);exact⟨(ab HE).J,(ab HE).S,(ab HE).X⟩)
   refine kT 0 ?_ ?_ ?_
   rotate_left
   ·(intro w9 hSw;(try dsimp only at hSw);obtain⟨q0,q1,q2⟩:=hSw;obtain⟨axx0,axx1,axx2,axx3,axx4,axx5,axx6,axx7,axx8,axx9⟩:=cZ q0;go_simp<;>with_reducible rfl)
   try simp only[Act.put,tA,tZ,tS]
   refine kT 1 ?_ ?_ ?_
   rotate_left
   ·(intro w9 hSw;(try dsimp only at hSw);obtain⟨q0,q1,q2⟩:=hSw;obtain⟨bxx0,bxx1⟩:=c2 q1;go_simp<;>with_reducible rfl)
   try simp only[Act.put,tA,tZ,tS]
   refine kT 2 ?_ ?_ ?_
   rotate_left
   ·(intro w9 hSw;(try dsimp only at hSw);obtain⟨q0,q1,q2⟩:=hSw;obtain⟨cxx0,cxx1,cxx2,cxx3,cxx4⟩:=c5 q2;go_simp<;>with_reducible rfl)
   try simp only[Act.put,tA,tZ,tS]
   refine rD 3 (fun K hK=>?_)
   have y0x0:=cA (ab HV).ZJ 0
   have y0x1:=cA (ab HV).ZJ 1
   have y0x2:=cA (ab HV).ZJ 2
   have y0x3:=cA (ab HV).ZJ 3
   have y0x4:=cA (ab HV).ZJ 4
   have y0x5:=cA (ab HV).ZJ 5
   have y0x6:=cA (ab HV).ZJ 6
   have y0x7:=cA (ab HV).ZJ 7
   have y0x8:=cA (ab HV).ZJ 8
   have y0x9:=cA (ab HV).ZJ 9
   simp only[gA,gZ,gS]at y0x0 y0x1 y0x2 y0x3 y0x4 y0x5 y0x6 y0x7 y0x8 y0x9
   have yf0x0:=cF (ab HV).ZJ 0
   have yf0x1:=cF (ab HV).ZJ 1
   have yf0x2:=cF (ab HV).ZJ 2
   have yf0x3:=cF (ab HV).ZJ 3
   have yf0x4:=cF (ab HV).ZJ 4
   have yf0x5:=cF (ab HV).ZJ 5
   have yf0x6:=cF (ab HV).ZJ 6
   have yf0x7:=cF (ab HV).ZJ 7
   have yf0x8:=cF (ab HV).ZJ 8
   have yf0x9:=cF (ab HV).ZJ 9
   have yz0:w.heap.size<wt.heap.size:=ay (ab HV).ZJ
   have y1x0:=cA (ab HV).ZS 0
   have y1x1:=cA (ab HV).ZS 1
   simp only[gA,gZ,gS]at y1x0 y1x1
   have yf1x0:=cF (ab HV).ZS 0
   have yf1x1:=cF (ab HV).ZS 1
   have yz1:w.heap.size+1<wt.heap.size:=ay (ab HV).ZS
   have y2x0:=cA (ab HV).ZX 0
   have y2x1:=cA (ab HV).ZX 1
   have y2x2:=cA (ab HV).ZX 2
   have y2x3:=cA (ab HV).ZX 3
   have y2x4:=cA (ab HV).ZX 4
   simp only[gA,gZ,gS]at y2x0 y2x1 y2x2 y2x3 y2x4
   have yf2x0:=cF (ab HV).ZX 0
   have yf2x1:=cF (ab HV).ZX 1
   have yf2x2:=cF (ab HV).ZX 2
   have yf2x3:=cF (ab HV).ZX 3
   have yf2x4:=cF (ab HV).ZX 4
   have yz2:w.heap.size+1+1<wt.heap.size:=ay (ab HV).ZX
   go_simp
   have HF0:Hid (ij R w ((((((((((wt.setCell ⟨w.heap.size,0,none⟩ (.int .i64 s)).setCell ⟨w.heap.size,1,none⟩ (.int .i64 t)).setCell ⟨w.heap.size,2,none⟩ (.int .i64 k)).setCell ⟨w.heap.size,3,none⟩ (.int .i64 z)).setCell ⟨w.heap.size,4,none⟩ (.int .i64 q)).setCell ⟨w.heap.size,5,none⟩ (.int .i64 l)).setCell ⟨w.heap.size,6,none⟩ (.int .i64 e)).setCell ⟨w.heap.size,7,none⟩ (.bool b)).setCell ⟨w.heap.size,8,none⟩ (.int .i64 v)).setCell ⟨w.heap.size,9,none⟩ (.int .i64 r)) XJ XS XX s t k z q l e b v r m au cu xs n1 n2 n3 n4 n5 #[.int .i64 s,.int .i64 t,.int .i64 k,.int .i64 z,.int .i64 q,.int .i64 l,.int .i64 e,.bool b,.int .i64 v,.int .i64 r] #[.int .i64 0,.slice none 0 0] #[.int .i64 0,.int .i64 0,.int .i64 0,.int .i64 0,.int .i64 0]):=ae (((((((((((ab HV).setZJ 0 (.int .i64 s) (c9:=#[.int .i64 s,.int .i64 0,.int .i64 0,.int .i64 0,.int .i64 0,.int .i64 0,.int .i64 0,.bool false,.int .i64 0,.int .i64 0]) rfl).setZJ 1 (.int .i64 t) (c9:=#[.int .i64 s,.int .i64 t,.int .i64 0,.int .i64 0,.int .i64 0,.int .i64 0,.int .i64 0,.bool false,.int .i64 0,.int .i64 0]) rfl).setZJ 2 (.int .i64 k) (c9:=#[.int .i64 s,.int .i64 t,.int .i64 k,.int .i64 0,.int .i64 0,.int .i64 0,.int .i64 0,.bool false,.int .i64 0,.int .i64 0]) rfl).setZJ 3 (.int .i64 z) (c9:=#[.int .i64 s,.int .i64 t,.int .i64 k,.int .i64 z,.int .i64 0,.int .i64 0,.int .i64 0,.bool false,.int .i64 0,.int .i64 0]) rfl).setZJ 4 (.int .i64 q) (c9:=#[.int .i64 s,.int .i64 t,.int .i64 k,.int .i64 z,.int .i64 q,.int .i64 0,.int .i64 0,.bool false,.int .i64 0,.int .i64 0]) rfl).setZJ 5 (.int .i64 l) (c9:=#[.int .i64 s,.int .i64 t,.int .i64 k,.int .i64 z,.int .i64 q,.int .i64 l,.int .i64 0,.bool false,.int .i64 0,.int .i64 0]) rfl).setZJ 6 (.int .i64 e) (c9:=#[.int .i64 s,.int .i64 t,.int .i64 k,.int .i64 z,.int .i64 q,.int .i64 l,.int .i64 e,.bool false,.int .i64 0,.int .i64 0]) rfl).setZJ 7 (.bool b) (c9:=#[.int .i64 s,.int .i64 t,.int .i64 k,.int .i64 z,.int .i64 q,.int .i64 l,.int .i64 e,.bool b,.int .i64 0,.int .i64 0]) rfl).setZJ 8 (.int .i64 v) (c9:=#[.int .i64 s,.int .i64 t,.int .i64 k,.int .i64 z,.int .i64 q,.int .i64 l,.int .i64 e,.bool b,.int .i64 v,.int .i64 0]) rfl).setZJ 9 (.int .i64 r) (c9:=#[.int .i64 s,.int .i64 t,.int .i64 k,.int .i64 z,.int .i64 q,.int .i64 l,.int .i64 e,.bool b,.int .i64 v,.int .i64 r]) rfl)
   have HQ0:=ae ((ab HF0).bel (ap (Below.refl _ _)))
   clear hHeld
   refine hK.out _ _ ?_ (fun hHeld=>?_)
   ·((try dsimp only);exact⟨(ab HQ0).J,(ab HQ0).S,(ab HQ0).X⟩)
   clear hK K
   try simp only[Act.put,tA,tZ,tS]
   refine rD 4 (fun K hK=>?_)
   go_simp
   have HF1:Hid (ij R w ((((((((((((wt.setCell ⟨w.heap.size,0,none⟩ (.int .i64 s)).setCell ⟨w.heap.size,1,none⟩ (.int .i64 t)).setCell ⟨w.heap.size,2,none⟩ (.int .i64 k)).setCell ⟨w.heap.size,3,none⟩ (.int .i64 z)).setCell ⟨w.heap.size,4,none⟩ (.int .i64 q)).setCell ⟨w.heap.size,5,none⟩ (.int .i64 l)).setCell ⟨w.heap.size,6,none⟩ (.int .i64 e)).setCell ⟨w.heap.size,7,none⟩ (.bool b)).setCell ⟨w.heap.size,8,none⟩ (.int .i64 v)).setCell ⟨w.heap.size,9,none⟩ (.int .i64 r)).setCell ⟨w.heap.size+1,0,none⟩ (.int .i64 m)).setCell ⟨w.heap.size+1,1,none⟩ (.slice au xs.length cu)) XJ XS XX s t k z q l e b v r m au cu xs n1 n2 n3 n4 n5 #[.int .i64 s,.int .i64 t,.int .i64 k,.int .i64 z,.int .i64 q,.int .i64 l,.int .i64 e,.bool b,.int .i64 v,.int .i64 r] #[.int .i64 m,.slice au xs.length cu] #[.int .i64 0,.int .i64 0,.int .i64 0,.int .i64 0,.int .i64 0]):=ae (((ab HF0).setZS 0 (.int .i64 m) (c9:=#[.int .i64 m,.slice none 0 0]) rfl).setZS 1 (.slice au xs.length cu) (c9:=#[.int .i64 m,.slice au xs.length cu]) rfl)
   have HQ1:=ae ((ab HF1).bel (ap (Below.refl _ _)))
   clear hHeld
   refine hK.out _ _ ?_ (fun hHeld=>?_)
   ·((try dsimp only);exact⟨(ab HQ1).J,(ab HQ1).S,(ab HQ1).X⟩)
   clear hK K
   try simp only[Act.put,tA,tZ,tS]
   refine rD 5 (fun K hK=>?_)
   go_simp
   have HF2:Hid (ij R w (((((((((((((((((wt.setCell ⟨w.heap.size,0,none⟩ (.int .i64 s)).setCell ⟨w.heap.size,1,none⟩ (.int .i64 t)).setCell ⟨w.heap.size,2,none⟩ (.int .i64 k)).setCell ⟨w.heap.size,3,none⟩ (.int .i64 z)).setCell ⟨w.heap.size,4,none⟩ (.int .i64 q)).setCell ⟨w.heap.size,5,none⟩ (.int .i64 l)).setCell ⟨w.heap.size,6,none⟩ (.int .i64 e)).setCell ⟨w.heap.size,7,none⟩ (.bool b)).setCell ⟨w.heap.size,8,none⟩ (.int .i64 v)).setCell ⟨w.heap.size,9,none⟩ (.int .i64 r)).setCell ⟨w.heap.size+1,0,none⟩ (.int .i64 m)).setCell ⟨w.heap.size+1,1,none⟩ (.slice au xs.length cu)).setCell ⟨w.heap.size+1+1,0,none⟩ (.int .i64 n1)).setCell ⟨w.heap.size+1+1,1,none⟩ (.int .i64 n2)).setCell ⟨w.heap.size+1+1,2,none⟩ (.int .i64 n3)).setCell ⟨w.heap.size+1+1,3,none⟩ (.int .i64 n4)).setCell ⟨w.heap.size+1+1,4,none⟩ (.int .i64 n5)) XJ XS XX s t k z q l e b v r m au cu xs n1 n2 n3 n4 n5 #[.int .i64 s,.int .i64 t,.int .i64 k,.int .i64 z,.int .i64 q,.int .i64 l,.int .i64 e,.bool b,.int .i64 v,.int .i64 r] #[.int .i64 m,.slice au xs.length cu] #[.int .i64 n1,.int .i64 n2,.int .i64 n3,.int .i64 n4,.int .i64 n5]):=ae ((((((ab HF1).setZX 0 (.int .i64 n1) (c9:=#[.int .i64 n1,.int .i64 0,.int .i64 0,.int .i64 0,.int .i64 0]) rfl).setZX 1 (.int .i64 n2) (c9:=#[.int .i64 n1,.int .i64 n2,.int .i64 0,.int .i64 0,.int .i64 0]) rfl).setZX 2 (.int .i64 n3) (c9:=#[.int .i64 n1,.int .i64 n2,.int .i64 n3,.int .i64 0,.int .i64 0]) rfl).setZX 3 (.int .i64 n4) (c9:=#[.int .i64 n1,.int .i64 n2,.int .i64 n3,.int .i64 n4,.int .i64 0]) rfl).setZX 4 (.int .i64 n5) (c9:=#[.int .i64 n1,.int .i64 n2,.int .i64 n3,.int .i64 n4,.int .i64 n5]) rfl)
   have HQ2:=ae ((ab HF2).bel (ap (Below.refl _ _)))
   clear hHeld
   refine hK.out _ _ ?_ (fun hHeld=>?_)
   ·((try dsimp only);exact⟨(ab HQ2).J,(ab HQ2).S,(ab HQ2).X⟩)
   clear hK K
   try simp only[Act.put,tA,tZ,tS]
   refine wpAnyH_done (oc) ?_ _
   clear hHeld HE HV HF0 HF1 HF2 HQ0 HQ1 y0x0 y0x1 y0x2 y0x3 y0x4 y0x5 y0x6 y0x7 y0x8 y0x9 yf0x0 yf0x1 yf0x2 yf0x3 yf0x4 yf0x5 yf0x6 yf0x7 yf0x8 yf0x9 yz0 y1x0 y1x1 yf1x0 yf1x1 yz1 y2x0 y2x1 y2x2 y2x3 y2x4 yf2x0 yf2x1 yf2x2 yf2x3 yf2x4 yz2
   generalize (((((((((((((((((wt.setCell ⟨w.heap.size,0,none⟩ (.int .i64 s)).setCell ⟨w.heap.size,1,none⟩ (.int .i64 t)).setCell ⟨w.heap.size,2,none⟩ (.int .i64 k)).setCell ⟨w.heap.size,3,none⟩ (.int .i64 z)).setCell ⟨w.heap.size,4,none⟩ (.int .i64 q)).setCell ⟨w.heap.size,5,none⟩ (.int .i64 l)).setCell ⟨w.heap.size,6,none⟩ (.int .i64 e)).setCell ⟨w.heap.size,7,none⟩ (.bool b)).setCell ⟨w.heap.size,8,none⟩ (.int .i64 v)).setCell ⟨w.heap.size,9,none⟩ (.int .i64 r)).setCell ⟨w.heap.size+1,0,none⟩ (.int .i64 m)).setCell ⟨w.heap.size+1,1,none⟩ (.slice au xs.length cu)).setCell ⟨w.heap.size+1+1,0,none⟩ (.int .i64 n1)).setCell ⟨w.heap.size+1+1,1,none⟩ (.int .i64 n2)).setCell ⟨w.heap.size+1+1,2,none⟩ (.int .i64 n3)).setCell ⟨w.heap.size+1+1,3,none⟩ (.int .i64 n4)).setCell ⟨w.heap.size+1+1,4,none⟩ (.int .i64 n5)).drew=wz at HQ2 ⊢
   obtain⟨ya0,ya1,ya2,ya3,ya4,ya5,ya6,ya7,ya8,ya9⟩:=cZ (ab HQ2).ZJ
   obtain⟨yb0,yb1⟩:=c2 (ab HQ2).ZS
   obtain⟨yc0,yc1,yc2,yc3,yc4⟩:=c5 (ab HQ2).ZX
   go_wp2
   refine bodyPost_ret (v:= .tuple #[.agg #[.int .i64 s,.int .i64 t,.int .i64 k,.int .i64 z,.int .i64 q,.int .i64 l,.int .i64 e,.bool b,.int .i64 v,.int .i64 r],.agg #[.int .i64 m,.slice au xs.length cu],.agg #[.int .i64 n1,.int .i64 n2,.int .i64 n3,.int .i64 n4,.int .i64 n5]]) (by simp(maxDischargeDepth:=9) [results,Tryz.results7,go_sem, *]) rfl ?_
   exact⟨s,t,k,z,q,l,e,b,v,r,m,au,cu,xs,n1,n2,n3,n4,n5,rfl,World.ownsRow.mono (ab HQ2).O (by have:=(ab HQ2).nR;omega),by omega,hmb,(ab HQ2).L⟩
end Go.Proofs.YtdmhihcipkhecaaGreat
