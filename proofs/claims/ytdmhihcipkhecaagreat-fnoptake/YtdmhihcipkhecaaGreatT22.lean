/- Laid together: what the claim needs of the texts that were built one by one. -/
import Derived.Test.YtdmhihcipkhecaaGreatT21
import Derived.Test.YtdmhihcipkhecaaGreatT0
import Derived.Test.YtdmhihcipkhecaaGreatT18
import Derived.Test.YtdmhihcipkhecaaGreatT20
set_option linter.unusedVariables false
namespace Go.Proofs.YtdmhihcipkhecaaGreat
open Go.ChangeShapes Go.WideShapes Go.ChangeAt Go.RowKit
theorem fH(y:Int)(h3:0≤y)(h4:y<8):∃t:Int,(#[Value.int .i64 (-1),Value.int .i64 0,Value.int .i64 3,Value.int .i64 4,Value.int .i64 5,Value.int .i64 21,Value.int .i64 10,Value.int .i64 1]:Array Value)[y.toNat]? =some (.int .i64 t)∧(-1)≤t∧t≤21:=by
 obtain rfl|rfl|rfl|rfl|rfl|rfl|rfl|rfl:y=0∨y=1∨y=2∨y=3∨y=4∨y=5∨y=6∨y=7:=by omega
 ·exact⟨(-1),rfl,by decide,by decide⟩
 ·exact⟨0,rfl,by decide,by decide⟩
 ·exact⟨3,rfl,by decide,by decide⟩
 ·exact⟨4,rfl,by decide,by decide⟩
 ·exact⟨5,rfl,by decide,by decide⟩
 ·exact⟨21,rfl,by decide,by decide⟩
 ·exact⟨10,rfl,by decide,by decide⟩
 ·exact⟨1,rfl,by decide,by decide⟩
def AnyJobP(R:Nat)(w:World)(a:Option Addr)(len cap p:Nat)(e':Ending)(w':World):Prop:=∃(s t k z q l e:Int) (b:Bool) (v r:Int),e'= .returned (.agg #[.int .i64 s,.int .i64 t,.int .i64 k,.int .i64 z,.int .i64 q,.int .i64 l,.int .i64 e,.bool b,.int .i64 v,.int .i64 r])∧Kp R w w'∧∃p',p'≤p+14∧Rd R w' a len cap p'
set_option linter.unusedSimpArgs false in
set_option maxRecDepth 20000 in
set_option maxHeartbeats 16000000 in
theorem anyjob_any(R:Nat)(a:Option Addr)(len cap p:Nat)(n:Int)(w:World)(hn:1≤n)(hn2:n≤100000)(hp:p≤800000)(hR0:R<w.heap.size)(h:Rd R w a len cap p):Calls Tryz.prog 53 #[.pointer (some ⟨R,0,none⟩),.int .i64 n] w fun e w'=>AnyJobP R w a len cap p e w':=by
 have hb0:Below w.heap.size w (w.alloc (.cells #[.int .i64 0,.int .i64 0,.int .i64 0,.int .i64 0,.int .i64 0,.int .i64 0,.int .i64 0,.bool false,.int .i64 0,.int .i64 0] 24)):=aq _ _
 have k0:Kp R w (w.alloc (.cells #[.int .i64 0,.int .i64 0,.int .i64 0,.int .i64 0,.int .i64 0,.int .i64 0,.int .i64 0,.bool false,.int .i64 0,.int .i64 0] 24)):=Kp.of_bel (Nat.le_of_lt hR0) hb0
 have hn0:w.heap.size≠R:=by omega
 go_enter Tryz.func53,Tryz.ntmps53
 go_wp2_with fail
 refine(job_any R a len cap p _ (by omega) (oa) (h.kp hR0 hb0)).mono ?_
 rintro e' wa ⟨s,t,k,z,q,l,e,b,v,r,rfl,ka,pa,hpa,da⟩
 have za:w.heap.size<wa.heap.size:=by have h9:=ka.low.size;simp at h9;omega
 have hBa:Below wa.heap.size wa (wa.alloc (.cells #[.int .i64 s,.int .i64 t,.int .i64 k,.int .i64 z,.int .i64 q,.int .i64 l,.int .i64 e,.bool b,.int .i64 v,.int .i64 r] 24)):=aq _ _
 have hRa:(wa.alloc (.cells #[.int .i64 s,.int .i64 t,.int .i64 k,.int .i64 z,.int .i64 q,.int .i64 l,.int .i64 e,.bool b,.int .i64 v,.int .i64 r] 24)).heap[w.heap.size]? =some (.cells #[.int .i64 0,.int .i64 0,.int .i64 0,.int .i64 0,.int .i64 0,.int .i64 0,.int .i64 0,.bool false,.int .i64 0,.int .i64 0] 24 (0,0)):=(hBa.block _ za).trans ((ka.all _ (by simp) hn0).trans (heap_alloc_new _ _))
 have hXa:(wa.alloc (.cells #[.int .i64 s,.int .i64 t,.int .i64 k,.int .i64 z,.int .i64 q,.int .i64 l,.int .i64 e,.bool b,.int .i64 v,.int .i64 r] 24)).heap[wa.heap.size]? =some (.cells #[.int .i64 s,.int .i64 t,.int .i64 k,.int .i64 z,.int .i64 q,.int .i64 l,.int .i64 e,.bool b,.int .i64 v,.int .i64 r] 24 (0,0)):=heap_alloc_new _ _
 have HD:=ae (da.kp (by omega) hBa)
 have HK:=ae ((k0.trans ka).trans (Kp.of_bel (by omega) hBa))
 clear da ka
 go_wp2_with fail
 refine(aG R a len cap pa n _ hn hn2 (ab HD)).mono ?_
 rintro e' wb ⟨x,rfl,x0',x1',kb,rb⟩
 have zb:wa.heap.size<wb.heap.size:=by have h9:=kb.low.size;simp at h9;omega
 have hRb:wb.heap[w.heap.size]? =some (.cells #[.int .i64 0,.int .i64 0,.int .i64 0,.int .i64 0,.int .i64 0,.int .i64 0,.int .i64 0,.bool false,.int .i64 0,.int .i64 0] 24 (0,0)):=(kb.all _ (oa) hn0).trans hRa
 have hXb:wb.heap[wa.heap.size]? =some (.cells #[.int .i64 s,.int .i64 t,.int .i64 k,.int .i64 z,.int .i64 q,.int .i64 l,.int .i64 e,.bool b,.int .i64 v,.int .i64 r] 24 (0,0)):=(kb.all _ (by simp) (by omega)).trans hXa
 have hKb:=ae ((ab HK).trans kb)
 have hDb:=ae (rb (by omega))
 clear HK HD kb rb hRa hXa
 have ne1:w.heap.size≠wa.heap.size:=by omega
 have ne2:wa.heap.size≠w.heap.size:=by omega
 by_cases hx:0<x
 ·have hK:=ab hKb
  have hD:=ab hDb
  have hP:pa+1≤p+14:=by omega
  clear hKb hDb
  obtain⟨x0,f0⟩:=ax (n:=0) hXb 0
  obtain⟨x1,f1⟩:=ax (n:=0) hXb 1
  obtain⟨x2,f2⟩:=ax (n:=0) hXb 2
  obtain⟨x3,f3⟩:=ax (n:=0) hXb 3
  obtain⟨x4,f4⟩:=ax (n:=0) hXb 4
  obtain⟨x5,f5⟩:=ax (n:=0) hXb 5
  obtain⟨x6,f6⟩:=ax (n:=0) hXb 6
  obtain⟨x7,f7⟩:=ax (n:=0) hXb 7
  obtain⟨x8,f8⟩:=ax (n:=0) hXb 8
  obtain⟨x9,f9⟩:=ax (n:=0) hXb 9
  simp only[gA,gZ,gS]at x0 x1 x2 x3 x4 x5 x6 x7 x8 x9
  obtain⟨y0,h0⟩:=ax (n:=0) hRb 0
  obtain⟨y1,h1⟩:=ax (n:=0) hRb 1
  obtain⟨y2,h2⟩:=ax (n:=0) hRb 2
  obtain⟨y3,h3⟩:=ax (n:=0) hRb 3
  obtain⟨y4,h4⟩:=ax (n:=0) hRb 4
  obtain⟨y5,h5⟩:=ax (n:=0) hRb 5
  obtain⟨y6,h6⟩:=ax (n:=0) hRb 6
  obtain⟨y7,h7⟩:=ax (n:=0) hRb 7
  obtain⟨y8,h8⟩:=ax (n:=0) hRb 8
  obtain⟨y9,h9⟩:=ax (n:=0) hRb 9
  simp only[gA,gZ,gS]at y0 y1 y2 y3 y4 y5 y6 y7 y8 y9
  have y9:=y9
  have HH:=ae (And.intro hK hD)
  clear hK hD
  go_wp2
  obtain⟨hK,hD⟩:=ab HH
  refine bodyPost_ret (v:= .agg #[.int .i64 s,.int .i64 t,.int .i64 k,.int .i64 z,.int .i64 q,.int .i64 l,.int .i64 e,.bool b,.int .i64 v,.int .i64 r]) (nq) rfl ?_
  exact⟨_,_,_,_,_,_,_,_,_,_,rfl,(aj (aj (aj (aj (aj (aj (aj (aj (aj (aj hK hR0 (Nat.le_refl _)) hR0 (Nat.le_refl _)) hR0 (Nat.le_refl _)) hR0 (Nat.le_refl _)) hR0 (Nat.le_refl _)) hR0 (Nat.le_refl _)) hR0 (Nat.le_refl _)) hR0 (Nat.le_refl _)) hR0 (Nat.le_refl _)) hR0 (Nat.le_refl _)),_,hP,(ai (ai (ai (ai (ai (ai (ai (ai (ai (ai hD hR0) hR0) hR0) hR0) hR0) hR0) hR0) hR0) hR0) hR0)⟩
 ·have hx0:x=0:=by omega
  subst hx0
  have hBb:Below wb.heap.size wb (wb.alloc (.cells #[.int .i64 (-1),.int .i64 0,.int .i64 3,.int .i64 4,.int .i64 5,.int .i64 21,.int .i64 10,.int .i64 1] 3)):=aq _ _
  go_wp2_with fail
  refine(aG R a len cap (pa+1) 8 _ (by decide) (by decide) ((ab hDb).kp (by omega) hBb)).mono ?_
  rintro e' wc ⟨x,rfl,xx0,xx1,kc,rc⟩
  have hS:wc.heap[wb.heap.size]? =some (.cells #[.int .i64 (-1),.int .i64 0,.int .i64 3,.int .i64 4,.int .i64 5,.int .i64 21,.int .i64 10,.int .i64 1] 3 (0,0)):=(kc.all _ (by simp) (by omega)).trans (heap_alloc_new _ _)
  obtain⟨t9,hz,zl,zu⟩:=fH x xx0 xx1
  have hc9:=(ax (n:=0) hS x.toNat).1.trans hz
  have hix1:¬ x<0:=by omega
  have hix2:x.toNat<8:=by omega
  have hix3:x<8:=xx1
  have zc:wb.heap.size<wc.heap.size:=by have h9:=kc.low.size;simp at h9;omega
  have hRc:wc.heap[w.heap.size]? =some (.cells #[.int .i64 0,.int .i64 0,.int .i64 0,.int .i64 0,.int .i64 0,.int .i64 0,.int .i64 0,.bool false,.int .i64 0,.int .i64 0] 24 (0,0)):=(kc.all _ (oa) hn0).trans ((hBb.block _ (by omega)).trans hRb)
  have hXc:wc.heap[wa.heap.size]? =some (.cells #[.int .i64 s,.int .i64 t,.int .i64 k,.int .i64 z,.int .i64 q,.int .i64 l,.int .i64 e,.bool b,.int .i64 v,.int .i64 r] 24 (0,0)):=(kc.all _ (oa) (by omega)).trans ((hBb.block _ (by omega)).trans hXb)
  have hKc:=ae (((ab hKb).trans (Kp.of_bel (by omega) hBb)).trans kc)
  have hDc:=ae (rc (by omega))
  clear hKb hDb kc rc hRb hXb hS hz
  go_wp2_with fail
  refine(aG R a len cap (pa+1+1) 9 _ (by decide) (by decide) (ab hDc)).mono ?_
  rintro e' wd ⟨y,rfl,yy0,yy1,kd,rd⟩
  have zd:wc.heap.size≤wd.heap.size:=kd.low.size
  have hRd:wd.heap[w.heap.size]? =some (.cells #[.int .i64 0,.int .i64 0,.int .i64 0,.int .i64 0,.int .i64 0,.int .i64 0,.int .i64 0,.bool false,.int .i64 0,.int .i64 0] 24 (0,0)):=(kd.all _ (by omega) hn0).trans hRc
  have hXd:wd.heap[wa.heap.size]? =some (.cells #[.int .i64 s,.int .i64 t,.int .i64 k,.int .i64 z,.int .i64 q,.int .i64 l,.int .i64 e,.bool b,.int .i64 v,.int .i64 r] 24 (0,0)):=(kd.all _ (by omega) (by omega)).trans hXc
  have hKd:=ae ((ab hKc).trans kd)
  have hDd:=ae (rd (by omega))
  clear hKc hDc kd rd hRc hXc hc9
  have hP:pa+1+1+1≤p+14:=by omega
  have lt1:w.heap.size<wd.heap.size:=by omega
  have lt2:wa.heap.size<wd.heap.size:=by omega
  have HX:=ae hXd
  have HR:=ae hRd
  obtain⟨x0,f0⟩:=ax (n:=0) hXd 0
  obtain⟨x1,f1⟩:=ax (n:=0) hXd 1
  obtain⟨x2,f2⟩:=ax (n:=0) hXd 2
  obtain⟨x3,f3⟩:=ax (n:=0) hXd 3
  obtain⟨x4,f4⟩:=ax (n:=0) hXd 4
  obtain⟨x5,f5⟩:=ax (n:=0) hXd 5
  obtain⟨x6,f6⟩:=ax (n:=0) hXd 6
  obtain⟨x7,f7⟩:=ax (n:=0) hXd 7
  obtain⟨x8,f8⟩:=ax (n:=0) hXd 8
  obtain⟨x9,f9⟩:=ax (n:=0) hXd 9
  simp only[gA,gZ,gS]at x0 x1 x2 x3 x4 x5 x6 x7 x8 x9
  obtain⟨y0,h0⟩:=ax (n:=0) hRd 0
  obtain⟨y1,h1⟩:=ax (n:=0) hRd 1
  obtain⟨y2,h2⟩:=ax (n:=0) hRd 2
  obtain⟨y3,h3⟩:=ax (n:=0) hRd 3
  obtain⟨y4,h4⟩:=ax (n:=0) hRd 4
  obtain⟨y5,h5⟩:=ax (n:=0) hRd 5
  obtain⟨y6,h6⟩:=ax (n:=0) hRd 6
  obtain⟨y7,h7⟩:=ax (n:=0) hRd 7
  obtain⟨y8,h8⟩:=ax (n:=0) hRd 8
  obtain⟨y9,h9⟩:=ax (n:=0) hRd 9
  simp only[gA,gZ,gS]at y0 y1 y2 y3 y4 y5 y6 y7 y8 y9
  clear hXd hRd
  have HH:=ae (And.intro (ab hKd) (ab hDd))
  clear hKd hDd
  obtain rfl|rfl|rfl|rfl|rfl|rfl|rfl|rfl|rfl:y=0∨y=1∨y=2∨y=3∨y=4∨y=5∨y=6∨y=7∨y=8:=by omega
  ·go_wp2
   obtain⟨hK,hD⟩:=ab HH
   refine bodyPost_ret (v:= .agg #[.int .i64 t9,.int .i64 t,.int .i64 k,.int .i64 z,.int .i64 q,.int .i64 l,.int .i64 e,.bool b,.int .i64 v,.int .i64 r]) (nq) rfl ?_
   exact⟨_,_,_,_,_,_,_,_,_,_,rfl,(aj (aj (aj (aj (aj (aj (aj (aj (aj (aj (aj (o:=0) (B:=wa.heap.size) hK (by omega) (by omega)) hR0 (Nat.le_refl _)) hR0 (Nat.le_refl _)) hR0 (Nat.le_refl _)) hR0 (Nat.le_refl _)) hR0 (Nat.le_refl _)) hR0 (Nat.le_refl _)) hR0 (Nat.le_refl _)) hR0 (Nat.le_refl _)) hR0 (Nat.le_refl _)) hR0 (Nat.le_refl _)),_,hP,(ai (ai (ai (ai (ai (ai (ai (ai (ai (ai (ai (o:=0) (B:=wa.heap.size) hD (by omega)) hR0) hR0) hR0) hR0) hR0) hR0) hR0) hR0) hR0) hR0)⟩
  ·go_wp2
   obtain⟨hK,hD⟩:=ab HH
   refine bodyPost_ret (v:= .agg #[.int .i64 s,.int .i64 t9,.int .i64 k,.int .i64 z,.int .i64 q,.int .i64 l,.int .i64 e,.bool b,.int .i64 v,.int .i64 r]) (nq) rfl ?_
   exact⟨_,_,_,_,_,_,_,_,_,_,rfl,(aj (aj (aj (aj (aj (aj (aj (aj (aj (aj (aj (o:=1) (B:=wa.heap.size) hK (by omega) (by omega)) hR0 (Nat.le_refl _)) hR0 (Nat.le_refl _)) hR0 (Nat.le_refl _)) hR0 (Nat.le_refl _)) hR0 (Nat.le_refl _)) hR0 (Nat.le_refl _)) hR0 (Nat.le_refl _)) hR0 (Nat.le_refl _)) hR0 (Nat.le_refl _)) hR0 (Nat.le_refl _)),_,hP,(ai (ai (ai (ai (ai (ai (ai (ai (ai (ai (ai (o:=1) (B:=wa.heap.size) hD (by omega)) hR0) hR0) hR0) hR0) hR0) hR0) hR0) hR0) hR0) hR0)⟩
  ·go_wp2
   obtain⟨hK,hD⟩:=ab HH
   refine bodyPost_ret (v:= .agg #[.int .i64 s,.int .i64 t,.int .i64 t9,.int .i64 z,.int .i64 q,.int .i64 l,.int .i64 e,.bool b,.int .i64 v,.int .i64 r]) (nq) rfl ?_
   exact⟨_,_,_,_,_,_,_,_,_,_,rfl,(aj (aj (aj (aj (aj (aj (aj (aj (aj (aj (aj (o:=2) (B:=wa.heap.size) hK (by omega) (by omega)) hR0 (Nat.le_refl _)) hR0 (Nat.le_refl _)) hR0 (Nat.le_refl _)) hR0 (Nat.le_refl _)) hR0 (Nat.le_refl _)) hR0 (Nat.le_refl _)) hR0 (Nat.le_refl _)) hR0 (Nat.le_refl _)) hR0 (Nat.le_refl _)) hR0 (Nat.le_refl _)),_,hP,(ai (ai (ai (ai (ai (ai (ai (ai (ai (ai (ai (o:=2) (B:=wa.heap.size) hD (by omega)) hR0) hR0) hR0) hR0) hR0) hR0) hR0) hR0) hR0) hR0)⟩
  ·go_wp2
   obtain⟨hK,hD⟩:=ab HH
   refine bodyPost_ret (v:= .agg #[.int .i64 s,.int .i64 t,.int .i64 k,.int .i64 t9,.int .i64 q,.int .i64 l,.int .i64 e,.bool b,.int .i64 v,.int .i64 r]) (nq) rfl ?_
   exact⟨_,_,_,_,_,_,_,_,_,_,rfl,(aj (aj (aj (aj (aj (aj (aj (aj (aj (aj (aj (o:=3) (B:=wa.heap.size) hK (by omega) (by omega)) hR0 (Nat.le_refl _)) hR0 (Nat.le_refl _)) hR0 (Nat.le_refl _)) hR0 (Nat.le_refl _)) hR0 (Nat.le_refl _)) hR0 (Nat.le_refl _)) hR0 (Nat.le_refl _)) hR0 (Nat.le_refl _)) hR0 (Nat.le_refl _)) hR0 (Nat.le_refl _)),_,hP,(ai (ai (ai (ai (ai (ai (ai (ai (ai (ai (ai (o:=3) (B:=wa.heap.size) hD (by omega)) hR0) hR0) hR0) hR0) hR0) hR0) hR0) hR0) hR0) hR0)⟩
  ·go_wp2
   obtain⟨hK,hD⟩:=ab HH
   refine bodyPost_ret (v:= .agg #[.int .i64 s,.int .i64 t,.int .i64 k,.int .i64 z,.int .i64 t9,.int .i64 l,.int .i64 e,.bool b,.int .i64 v,.int .i64 r]) (nq) rfl ?_
   exact⟨_,_,_,_,_,_,_,_,_,_,rfl,(aj (aj (aj (aj (aj (aj (aj (aj (aj (aj (aj (o:=4) (B:=wa.heap.size) hK (by omega) (by omega)) hR0 (Nat.le_refl _)) hR0 (Nat.le_refl _)) hR0 (Nat.le_refl _)) hR0 (Nat.le_refl _)) hR0 (Nat.le_refl _)) hR0 (Nat.le_refl _)) hR0 (Nat.le_refl _)) hR0 (Nat.le_refl _)) hR0 (Nat.le_refl _)) hR0 (Nat.le_refl _)),_,hP,(ai (ai (ai (ai (ai (ai (ai (ai (ai (ai (ai (o:=4) (B:=wa.heap.size) hD (by omega)) hR0) hR0) hR0) hR0) hR0) hR0) hR0) hR0) hR0) hR0)⟩
  ·go_wp2
   obtain⟨hK,hD⟩:=ab HH
   refine bodyPost_ret (v:= .agg #[.int .i64 s,.int .i64 t,.int .i64 k,.int .i64 z,.int .i64 q,.int .i64 t9,.int .i64 e,.bool b,.int .i64 v,.int .i64 r]) (nq) rfl ?_
   exact⟨_,_,_,_,_,_,_,_,_,_,rfl,(aj (aj (aj (aj (aj (aj (aj (aj (aj (aj (aj (o:=5) (B:=wa.heap.size) hK (by omega) (by omega)) hR0 (Nat.le_refl _)) hR0 (Nat.le_refl _)) hR0 (Nat.le_refl _)) hR0 (Nat.le_refl _)) hR0 (Nat.le_refl _)) hR0 (Nat.le_refl _)) hR0 (Nat.le_refl _)) hR0 (Nat.le_refl _)) hR0 (Nat.le_refl _)) hR0 (Nat.le_refl _)),_,hP,(ai (ai (ai (ai (ai (ai (ai (ai (ai (ai (ai (o:=5) (B:=wa.heap.size) hD (by omega)) hR0) hR0) hR0) hR0) hR0) hR0) hR0) hR0) hR0) hR0)⟩
  ·go_wp2
   obtain⟨hK,hD⟩:=ab HH
   refine bodyPost_ret (v:= .agg #[.int .i64 s,.int .i64 t,.int .i64 k,.int .i64 z,.int .i64 q,.int .i64 l,.int .i64 t9,.bool b,.int .i64 v,.int .i64 r]) (nq) rfl ?_
   exact⟨_,_,_,_,_,_,_,_,_,_,rfl,(aj (aj (aj (aj (aj (aj (aj (aj (aj (aj (aj (o:=6) (B:=wa.heap.size) hK (by omega) (by omega)) hR0 (Nat.le_refl _)) hR0 (Nat.le_refl _)) hR0 (Nat.le_refl _)) hR0 (Nat.le_refl _)) hR0 (Nat.le_refl _)) hR0 (Nat.le_refl _)) hR0 (Nat.le_refl _)) hR0 (Nat.le_refl _)) hR0 (Nat.le_refl _)) hR0 (Nat.le_refl _)),_,hP,(ai (ai (ai (ai (ai (ai (ai (ai (ai (ai (ai (o:=6) (B:=wa.heap.size) hD (by omega)) hR0) hR0) hR0) hR0) hR0) hR0) hR0) hR0) hR0) hR0)⟩
  ·go_wp2
   obtain⟨hK,hD⟩:=ab HH
   refine bodyPost_ret (v:= .agg #[.int .i64 s,.int .i64 t,.int .i64 k,.int .i64 z,.int .i64 q,.int .i64 l,.int .i64 e,.bool b,.int .i64 (t9*2),.int .i64 r]) (nq) rfl ?_
   exact⟨_,_,_,_,_,_,_,_,_,_,rfl,(aj (aj (aj (aj (aj (aj (aj (aj (aj (aj (aj (o:=8) (B:=wa.heap.size) hK (by omega) (by omega)) hR0 (Nat.le_refl _)) hR0 (Nat.le_refl _)) hR0 (Nat.le_refl _)) hR0 (Nat.le_refl _)) hR0 (Nat.le_refl _)) hR0 (Nat.le_refl _)) hR0 (Nat.le_refl _)) hR0 (Nat.le_refl _)) hR0 (Nat.le_refl _)) hR0 (Nat.le_refl _)),_,hP,(ai (ai (ai (ai (ai (ai (ai (ai (ai (ai (ai (o:=8) (B:=wa.heap.size) hD (by omega)) hR0) hR0) hR0) hR0) hR0) hR0) hR0) hR0) hR0) hR0)⟩
  ·go_wp2
   obtain⟨hK,hD⟩:=ab HH
   refine bodyPost_ret (v:= .agg #[.int .i64 s,.int .i64 t,.int .i64 k,.int .i64 z,.int .i64 q,.int .i64 l,.int .i64 e,.bool b,.int .i64 v,.int .i64 t9]) (nq) rfl ?_
   exact⟨_,_,_,_,_,_,_,_,_,_,rfl,(aj (aj (aj (aj (aj (aj (aj (aj (aj (aj (aj (o:=9) (B:=wa.heap.size) hK (by omega) (by omega)) hR0 (Nat.le_refl _)) hR0 (Nat.le_refl _)) hR0 (Nat.le_refl _)) hR0 (Nat.le_refl _)) hR0 (Nat.le_refl _)) hR0 (Nat.le_refl _)) hR0 (Nat.le_refl _)) hR0 (Nat.le_refl _)) hR0 (Nat.le_refl _)) hR0 (Nat.le_refl _)),_,hP,(ai (ai (ai (ai (ai (ai (ai (ai (ai (ai (ai (o:=9) (B:=wa.heap.size) hD (by omega)) hR0) hR0) hR0) hR0) hR0) hR0) hR0) hR0) hR0) hR0)⟩
end Go.Proofs.YtdmhihcipkhecaaGreat
namespace Go.Proofs.YtdmhihcipkhecaaGreat
open Go.ChangeShapes Go.WideShapes Go.ChangeAt Go.RowKit Go.Shelf Go.Maps Go.Deep
set_option linter.unusedSimpArgs false
def AnyOpP(R:Nat)(w:World)(a:Option Addr)(len cap p:Nat)(e':Ending)(w':World):Prop:=∃(s t k z q l e:Int) (b:Bool) (v r m:Int) (au:Option Addr) (cu:Nat) (xs:List aC),e'= .returned (.tuple #[.agg #[.int .i64 s,.int .i64 t,.int .i64 k,.int .i64 z,.int .i64 q,.int .i64 l,.int .i64 e,.bool b,.int .i64 v,.int .i64 r],.agg #[.int .i64 m,.slice au xs.length cu]])∧aS w' w.heap.size (.slice au xs.length cu) xs∧xs.length≤261∧(-1≤m∧m≤1001)∧Kp R w w'∧∃p',p'≤p+1400∧Rd R w' a len cap p'
/-- A job and an operator while they are drawn: the results' boxes, their own, and the rows. -/
structure lM(R:Nat)(w W:World)(a:Option Addr)(len cap p XJ XS:Nat)(s t k z q l e:Int)(b:Bool)(v r:Int)(m:Int)(au:Option Addr)(cu:Nat)(xs:List aC)(cj cs:Array Value):Prop where
 ZJ:W.heap[w.heap.size]? =some (.cells cj 24 (0,0))
 ZS:W.heap[w.heap.size+1]? =some (.cells cs 27 (0,0))
 J:W.heap[XJ]? =some (.cells #[.int .i64 s,.int .i64 t,.int .i64 k,.int .i64 z,.int .i64 q,.int .i64 l,.int .i64 e,.bool b,.int .i64 v,.int .i64 r] 24 (0,0))
 S:W.heap[XS]? =some (.cells #[.int .i64 m,.slice au xs.length cu] 27 (0,0))
 nJ:w.heap.size+1<XJ
 nS:w.heap.size+1<XS
 O:aS W w.heap.size (.slice au xs.length cu) xs
 K:Kp R w W
 D:Rd R W a len cap p
theorem lM.kp{R XJ XS:Nat}{w W:World}{a:Option Addr}{len cap p:Nat}{s t k z q l e:Int}{b:Bool}{v r m:Int}{au:Option Addr}{cu:Nat}{xs:List aC}{cj cs:Array Value}{W2:World}{p2:Nat}(h:lM R w W a len cap p XJ XS s t k z q l e b v r m au cu xs cj cs)(hR:R<w.heap.size)(k9:Kp R W W2)(d:Rd R W2 a len cap p2):lM R w W2 a len cap p2 XJ XS s t k z q l e b v r m au cu xs cj cs:=
 ⟨(k9.all _ (ay h.ZJ) (by omega)).trans h.ZJ,(k9.all _ (ay h.ZS) (by omega)).trans h.ZS,(k9.all _ (ay h.J) (by have:=h.nJ;omega)).trans h.J,(k9.all _ (ay h.S) (by have:=h.nS;omega)).trans h.S,h.nJ,h.nS,jM h.O k9 hR,h.K.trans k9,d⟩
theorem lM.bel{R XJ XS:Nat}{w W:World}{a:Option Addr}{len cap p:Nat}{s t k z q l e:Int}{b:Bool}{v r m:Int}{au:Option Addr}{cu:Nat}{xs:List aC}{cj cs:Array Value}{W2:World}(h:lM R w W a len cap p XJ XS s t k z q l e b v r m au cu xs cj cs)(hR:R<w.heap.size)(hb:Below W.heap.size W W2):lM R w W2 a len cap p XJ XS s t k z q l e b v r m au cu xs cj cs:=
 h.kp hR (Kp.of_bel (by have:=h.K.low.size;omega) hb) (h.D.kp (by have:=h.K.low.size;omega) hb)
theorem lM.setJ{R XJ XS:Nat}{w W:World}{a:Option Addr}{len cap p:Nat}{s t k z q l e:Int}{b:Bool}{v r m:Int}{au:Option Addr}{cu:Nat}{xs:List aC}{cj cs:Array Value}{cj':Array Value}(h:lM R w W a len cap p XJ XS s t k z q l e b v r m au cu xs cj cs)(hR:R<w.heap.size)(o:Nat)(u:Value)(hx:cj.setIfInBounds o u=cj'):lM R w (W.setCell ⟨w.heap.size,o,none⟩ u) a len cap p XJ XS s t k z q l e b v r m au cu xs cj' cs:=
 ⟨by have h9:=Joins.block_setCell (i:=o) h.ZJ u;rw[hx]at h9;exact h9,(Below.heap_setCell _ _ _ _ (by show _≠w.heap.size;omega)).trans h.ZS,(Below.heap_setCell _ _ _ _ (by have:=h.nJ;show _≠w.heap.size;omega)).trans h.J,(Below.heap_setCell _ _ _ _ (by have:=h.nS;show _≠w.heap.size;omega)).trans h.S,h.nJ,h.nS,al h.O (af h.O h.ZJ (by decide)),aj h.K (by omega) (by omega),ai h.D (by omega)⟩
theorem lM.setS{R XJ XS:Nat}{w W:World}{a:Option Addr}{len cap p:Nat}{s t k z q l e:Int}{b:Bool}{v r m:Int}{au:Option Addr}{cu:Nat}{xs:List aC}{cj cs:Array Value}{cs':Array Value}(h:lM R w W a len cap p XJ XS s t k z q l e b v r m au cu xs cj cs)(hR:R<w.heap.size)(o:Nat)(u:Value)(hx:cs.setIfInBounds o u=cs'):lM R w (W.setCell ⟨w.heap.size+1,o,none⟩ u) a len cap p XJ XS s t k z q l e b v r m au cu xs cj cs':=
 ⟨(Below.heap_setCell _ _ _ _ (by show _≠w.heap.size+1;omega)).trans h.ZJ,by have h9:=Joins.block_setCell (i:=o) h.ZS u;rw[hx]at h9;exact h9,(Below.heap_setCell _ _ _ _ (by have:=h.nJ;show _≠w.heap.size+1;omega)).trans h.J,(Below.heap_setCell _ _ _ _ (by have:=h.nS;show _≠w.heap.size+1;omega)).trans h.S,h.nJ,h.nS,al h.O (af h.O h.ZS (by decide)),aj h.K (by omega) (by omega),ai h.D (by omega)⟩
set_option maxRecDepth 100000 in
set_option maxHeartbeats 16000000 in
theorem anyop_any(R:Nat)(a:Option Addr)(len cap p:Nat)(n:Int)(w:World)(hn:1≤n)(hn2:n≤100000)(hp:p≤600000)(hR0:R<w.heap.size)(h:Rd R w a len cap p):Calls Tryz.prog 23 #[.pointer (some ⟨R,0,none⟩),.int .i64 n] w fun e' w'=>AnyOpP R w a len cap p e' w':=by
 have hb0:Below w.heap.size w ((w.alloc (.cells #[.int .i64 0,.int .i64 0,.int .i64 0,.int .i64 0,.int .i64 0,.int .i64 0,.int .i64 0,.bool false,.int .i64 0,.int .i64 0] 24)).alloc (.cells #[.int .i64 0,.slice none 0 0] 27)):=ag (aq _ _) _
 have eJ:((w.alloc (.cells #[.int .i64 0,.int .i64 0,.int .i64 0,.int .i64 0,.int .i64 0,.int .i64 0,.int .i64 0,.bool false,.int .i64 0,.int .i64 0] 24)).alloc (.cells #[.int .i64 0,.slice none 0 0] 27)).heap[w.heap.size]? =some (.cells #[.int .i64 0,.int .i64 0,.int .i64 0,.int .i64 0,.int .i64 0,.int .i64 0,.int .i64 0,.bool false,.int .i64 0,.int .i64 0] 24 (0,0)):=aN<|nA
 have eS:((w.alloc (.cells #[.int .i64 0,.int .i64 0,.int .i64 0,.int .i64 0,.int .i64 0,.int .i64 0,.int .i64 0,.bool false,.int .i64 0,.int .i64 0] 24)).alloc (.cells #[.int .i64 0,.slice none 0 0] 27)).heap[w.heap.size+1]? =some (.cells #[.int .i64 0,.slice none 0 0] 27 (0,0)):=nA
 have HK:=ae (Kp.of_bel (Nat.le_of_lt hR0) hb0)
 have hz2:((w.alloc (.cells #[.int .i64 0,.int .i64 0,.int .i64 0,.int .i64 0,.int .i64 0,.int .i64 0,.int .i64 0,.bool false,.int .i64 0,.int .i64 0] 24)).alloc (.cells #[.int .i64 0,.slice none 0 0] 27)).heap.size=w.heap.size+2:=by simp
 go_enter Tryz.func23,Tryz.ntmps23
 go_wp2_with fail
 refine(job_any R a len cap p _ (by omega) (by rw[hz2];omega) (h.kp hR0 hb0)).mono ?_
 rintro e' w1 ⟨s,t,k,z,q,l,e,b,v,r,rfl,k9,p1,hp1,r9⟩
 have fJ:=(k9.all w.heap.size (by rw[hz2];omega) (by omega)).trans eJ
 have fS:=(k9.all (w.heap.size+1) (by rw[hz2];omega) (by omega)).trans eS
 have HK1:=ae ((ab HK).trans k9)
 have zw1:=k9.low.size
 rw[hz2]at zw1
 clear eJ eS HK k9 hb0 hz2 h
 have HJ:=ae fJ
 have HS:=ae fS
 have HR:=ae r9
 have HNJ:=ae (World.alloc_heap_new w1 (.cells #[.int .i64 s,.int .i64 t,.int .i64 k,.int .i64 z,.int .i64 q,.int .i64 l,.int .i64 e,.bool b,.int .i64 v,.int .i64 r] 24))
 clear fJ fS r9
 go_wp2_with fail
 have hRw:R<w1.heap.size:=by omega
 have hk2:Kp R w1 (w1.alloc (.cells #[.int .i64 s,.int .i64 t,.int .i64 k,.int .i64 z,.int .i64 q,.int .i64 l,.int .i64 e,.bool b,.int .i64 v,.int .i64 r] 24)):=Kp.of_bel (Nat.le_of_lt hRw) (aq _ _)
 have hXJ0:=ab HNJ
 have nJ:w.heap.size+1<w1.heap.size:=by omega
 have fJ:=(Below.heap_alloc w1 (.cells #[.int .i64 s,.int .i64 t,.int .i64 k,.int .i64 z,.int .i64 q,.int .i64 l,.int .i64 e,.bool b,.int .i64 v,.int .i64 r] 24) w.heap.size (by omega)).trans (ab HJ)
 have fS:=(Below.heap_alloc w1 (.cells #[.int .i64 s,.int .i64 t,.int .i64 k,.int .i64 z,.int .i64 q,.int .i64 l,.int .i64 e,.bool b,.int .i64 v,.int .i64 r] 24) (w.heap.size+1) (by omega)).trans (ab HS)
 have HR2:=ae ((ab HR).kp hRw (aq w1 (.cells #[.int .i64 s,.int .i64 t,.int .i64 k,.int .i64 z,.int .i64 q,.int .i64 l,.int .i64 e,.bool b,.int .i64 v,.int .i64 r] 24)))
 have HK2:=ae ((ab HK1).trans hk2)
 have zw2:w1.heap.size<(w1.alloc (.cells #[.int .i64 s,.int .i64 t,.int .i64 k,.int .i64 z,.int .i64 q,.int .i64 l,.int .i64 e,.bool b,.int .i64 v,.int .i64 r] 24)).heap.size:=by simp
 clear HNJ HJ HS HR HK1 hk2
 generalize w1.heap.size=XJ at hXJ0 nJ zw1 hRw zw2 ⊢
 generalize w1.alloc (.cells #[.int .i64 s,.int .i64 t,.int .i64 k,.int .i64 z,.int .i64 q,.int .i64 l,.int .i64 e,.bool b,.int .i64 v,.int .i64 r] 24)=w2 at hXJ0 fJ fS HR2 HK2 zw2 ⊢
 refine(opd_any R a len cap p1 s t k z q l e b v r _ (by omega) (by omega) (ab HR2)).mono ?_
 rintro e' w3 ⟨m,au,cu,xs,rfl,hO,hx,hm,k9,p3,hp3,r9⟩
 have gJ:=(k9.all w.heap.size (by omega) (by omega)).trans fJ
 have gS:=(k9.all (w.heap.size+1) (by omega) (by omega)).trans fS
 have gX:=(k9.all XJ zw2 (by omega)).trans hXJ0
 have zw3:=k9.low.size
 have HI0:Hid (aS w3 w.heap.size (.slice au xs.length cu) xs∧Kp R w w3∧Rd R w3 a len cap p3):=ae ⟨World.ownsRow.mono hO (by omega),(ab HK2).trans k9,r9⟩
 have HG:=ae gJ
 have HG2:=ae gS
 have HG3:=ae gX
 have HNS:=ae (World.alloc_heap_new w3 (.cells #[.int .i64 m,.slice au xs.length cu] 27))
 clear hO k9 r9 fJ fS hXJ0 gJ gS gX HR2 HK2
 go_wp2_with fail
 have HI:Hid (lM R w (w3.alloc (.cells #[.int .i64 m,.slice au xs.length cu] 27)) a len cap p3 XJ w3.heap.size s t k z q l e b v r m au cu xs #[.int .i64 0,.int .i64 0,.int .i64 0,.int .i64 0,.int .i64 0,.int .i64 0,.int .i64 0,.bool false,.int .i64 0,.int .i64 0] #[.int .i64 0,.slice none 0 0]):=ae (by
  obtain⟨h1,h2,h3⟩:=ab HI0
  have hR3:R<w3.heap.size:=by omega
  exact⟨(Below.heap_alloc w3 (.cells #[.int .i64 m,.slice au xs.length cu] 27) w.heap.size (by omega)).trans (ab HG),(Below.heap_alloc w3 (.cells #[.int .i64 m,.slice au xs.length cu] 27) (w.heap.size+1) (by omega)).trans (ab HG2),(Below.heap_alloc w3 (.cells #[.int .i64 m,.slice au xs.length cu] 27) XJ (by omega)).trans (ab HG3),ab HNS,nJ,by omega,World.ownsRow.alloc h1 _,h2.trans (Kp.of_bel (Nat.le_of_lt hR3) (aq _ _)),h3.kp hR3 (aq _ _)⟩)
 clear HG HG2 HG3 HNS HI0 zw2 zw3
 generalize w3.heap.size=XS at HI ⊢
 generalize w3.alloc (.cells #[.int .i64 m,.slice au xs.length cu] 27)=w4 at HI ⊢
 refine(aG R a len cap p3 n _ hn hn2 (ab HI).D).mono ?_
 rintro e' w5 ⟨y,rfl,yl,yu,k9,r9⟩
 have HD:=ae ((ab HI).kp hR0 k9 (r9 (by omega)))
 clear HI k9 r9
 have nJ2:=(ab HD).nJ
 have nS2:=(ab HD).nS
 by_cases hy:0<y
 ·have hy1:decide (0<y)=true:=decide_eq_true hy
  go_wp2_with fail
  have HE:=ae ((ab HD).bel hR0 (ap (Below.refl _ _)))
  refine wp_region_held_drew (S:=(fun W=>W.heap[XJ]? =some (.cells #[.int .i64 s,.int .i64 t,.int .i64 k,.int .i64 z,.int .i64 q,.int .i64 l,.int .i64 e,.bool b,.int .i64 v,.int .i64 r] 24 (0,0))∧W.heap[XS]? =some (.cells #[.int .i64 m,.slice au xs.length cu] 27 (0,0)))) (oc) ?_ (fun hHeld=>?_)
  ·((try dsimp only);exact⟨(ab HE).J,(ab HE).S⟩)
  refine kT 0 ?_ ?_ ?_
  rotate_left
  ·(intro w9 hSw;(try dsimp only at hSw);obtain⟨q0,q1⟩:=hSw;obtain⟨axx0,axx1,axx2,axx3,axx4,axx5,axx6,axx7,axx8,axx9⟩:=cZ q0;go_simp<;>with_reducible rfl)
  try simp only[Act.put,tA,tZ,tS]
  refine kT 1 ?_ ?_ ?_
  rotate_left
  ·(intro w9 hSw;(try dsimp only at hSw);obtain⟨q0,q1⟩:=hSw;obtain⟨bxx0,bxx1⟩:=c2 q1;go_simp<;>with_reducible rfl)
  try simp only[Act.put,tA,tZ,tS]
  refine rD 2 (fun K hK=>?_)
  obtain⟨yJ0,yJ1,yJ2,yJ3,yJ4,yJ5,yJ6,yJ7,yJ8,yJ9⟩:=cZ (ab HD).ZJ
  obtain⟨yfJ0,yfJ1,yfJ2,yfJ3,yfJ4,yfJ5,yfJ6,yfJ7,yfJ8,yfJ9⟩:=f10 (ab HD).ZJ
  have yzJ:w.heap.size<w5.heap.size:=ay (ab HD).ZJ
  obtain⟨yS0,yS1⟩:=c2 (ab HD).ZS
  obtain⟨yfS0,yfS1⟩:=f2 (ab HD).ZS
  have yzS:w.heap.size+1<w5.heap.size:=ay (ab HD).ZS
  go_simp
  have HF0:Hid (lM R w ((((((((((w5.setCell ⟨w.heap.size,0,none⟩ (.int .i64 s)).setCell ⟨w.heap.size,1,none⟩ (.int .i64 t)).setCell ⟨w.heap.size,2,none⟩ (.int .i64 k)).setCell ⟨w.heap.size,3,none⟩ (.int .i64 z)).setCell ⟨w.heap.size,4,none⟩ (.int .i64 q)).setCell ⟨w.heap.size,5,none⟩ (.int .i64 l)).setCell ⟨w.heap.size,6,none⟩ (.int .i64 e)).setCell ⟨w.heap.size,7,none⟩ (.bool b)).setCell ⟨w.heap.size,8,none⟩ (.int .i64 v)).setCell ⟨w.heap.size,9,none⟩ (.int .i64 r)) a len cap (p3+1) XJ XS s t k z q l e b v r m au cu xs #[.int .i64 s,.int .i64 t,.int .i64 k,.int .i64 z,.int .i64 q,.int .i64 l,.int .i64 e,.bool b,.int .i64 v,.int .i64 r] #[.int .i64 0,.slice none 0 0]):=ae (((((((((((ab HD).setJ hR0 0 (.int .i64 s) (cj':=#[.int .i64 s,.int .i64 0,.int .i64 0,.int .i64 0,.int .i64 0,.int .i64 0,.int .i64 0,.bool false,.int .i64 0,.int .i64 0]) rfl).setJ hR0 1 (.int .i64 t) (cj':=#[.int .i64 s,.int .i64 t,.int .i64 0,.int .i64 0,.int .i64 0,.int .i64 0,.int .i64 0,.bool false,.int .i64 0,.int .i64 0]) rfl).setJ hR0 2 (.int .i64 k) (cj':=#[.int .i64 s,.int .i64 t,.int .i64 k,.int .i64 0,.int .i64 0,.int .i64 0,.int .i64 0,.bool false,.int .i64 0,.int .i64 0]) rfl).setJ hR0 3 (.int .i64 z) (cj':=#[.int .i64 s,.int .i64 t,.int .i64 k,.int .i64 z,.int .i64 0,.int .i64 0,.int .i64 0,.bool false,.int .i64 0,.int .i64 0]) rfl).setJ hR0 4 (.int .i64 q) (cj':=#[.int .i64 s,.int .i64 t,.int .i64 k,.int .i64 z,.int .i64 q,.int .i64 0,.int .i64 0,.bool false,.int .i64 0,.int .i64 0]) rfl).setJ hR0 5 (.int .i64 l) (cj':=#[.int .i64 s,.int .i64 t,.int .i64 k,.int .i64 z,.int .i64 q,.int .i64 l,.int .i64 0,.bool false,.int .i64 0,.int .i64 0]) rfl).setJ hR0 6 (.int .i64 e) (cj':=#[.int .i64 s,.int .i64 t,.int .i64 k,.int .i64 z,.int .i64 q,.int .i64 l,.int .i64 e,.bool false,.int .i64 0,.int .i64 0]) rfl).setJ hR0 7 (.bool b) (cj':=#[.int .i64 s,.int .i64 t,.int .i64 k,.int .i64 z,.int .i64 q,.int .i64 l,.int .i64 e,.bool b,.int .i64 0,.int .i64 0]) rfl).setJ hR0 8 (.int .i64 v) (cj':=#[.int .i64 s,.int .i64 t,.int .i64 k,.int .i64 z,.int .i64 q,.int .i64 l,.int .i64 e,.bool b,.int .i64 v,.int .i64 0]) rfl).setJ hR0 9 (.int .i64 r) (cj':=#[.int .i64 s,.int .i64 t,.int .i64 k,.int .i64 z,.int .i64 q,.int .i64 l,.int .i64 e,.bool b,.int .i64 v,.int .i64 r]) rfl)
  have HF:=ae ((ab HF0).bel hR0 (ap (Below.refl _ _)))
  clear hHeld
  refine hK.out _ _ ?_ (fun hHeld=>?_)
  ·((try dsimp only);exact⟨(ab HF).J,(ab HF).S⟩)
  clear hK K
  try simp only[Act.put,tA,tZ,tS]
  refine rD 3 (fun K hK=>?_)
  go_simp
  have HG0:Hid (lM R w ((((((((((((w5.setCell ⟨w.heap.size,0,none⟩ (.int .i64 s)).setCell ⟨w.heap.size,1,none⟩ (.int .i64 t)).setCell ⟨w.heap.size,2,none⟩ (.int .i64 k)).setCell ⟨w.heap.size,3,none⟩ (.int .i64 z)).setCell ⟨w.heap.size,4,none⟩ (.int .i64 q)).setCell ⟨w.heap.size,5,none⟩ (.int .i64 l)).setCell ⟨w.heap.size,6,none⟩ (.int .i64 e)).setCell ⟨w.heap.size,7,none⟩ (.bool b)).setCell ⟨w.heap.size,8,none⟩ (.int .i64 v)).setCell ⟨w.heap.size,9,none⟩ (.int .i64 r)).setCell ⟨w.heap.size+1,0,none⟩ (.int .i64 m)).setCell ⟨w.heap.size+1,1,none⟩ (.slice au xs.length cu)) a len cap (p3+1) XJ XS s t k z q l e b v r m au cu xs #[.int .i64 s,.int .i64 t,.int .i64 k,.int .i64 z,.int .i64 q,.int .i64 l,.int .i64 e,.bool b,.int .i64 v,.int .i64 r] #[.int .i64 m,.slice au xs.length cu]):=ae (((ab HF0).setS hR0 0 (.int .i64 m) (cs':=#[.int .i64 m,.slice none 0 0]) rfl).setS hR0 1 (.slice au xs.length cu) (cs':=#[.int .i64 m,.slice au xs.length cu]) rfl)
  have HG:=ae ((ab HG0).bel hR0 (ap (Below.refl _ _)))
  clear hHeld
  refine hK.out _ _ ?_ (fun hHeld=>?_)
  ·((try dsimp only);exact⟨(ab HG).J,(ab HG).S⟩)
  clear hK K
  try simp only[Act.put,tA,tZ,tS]
  clear yJ0 yfJ0 yJ1 yfJ1 yJ2 yfJ2 yJ3 yfJ3 yJ4 yfJ4 yJ5 yfJ5 yJ6 yfJ6 yJ7 yfJ7 yJ8 yfJ8 yJ9 yfJ9 yzJ yS0 yfS0 yS1 yfS1 yzS
  clear HD HE HF HF0 HG0
  refine wpAnyH_done (oc) ?_ _
  clear hHeld
  generalize (((((((((((((w5.setCell ⟨w.heap.size,0,none⟩ (.int .i64 s)).setCell ⟨w.heap.size,1,none⟩ (.int .i64 t)).setCell ⟨w.heap.size,2,none⟩ (.int .i64 k)).setCell ⟨w.heap.size,3,none⟩ (.int .i64 z)).setCell ⟨w.heap.size,4,none⟩ (.int .i64 q)).setCell ⟨w.heap.size,5,none⟩ (.int .i64 l)).setCell ⟨w.heap.size,6,none⟩ (.int .i64 e)).setCell ⟨w.heap.size,7,none⟩ (.bool b)).setCell ⟨w.heap.size,8,none⟩ (.int .i64 v)).setCell ⟨w.heap.size,9,none⟩ (.int .i64 r)).setCell ⟨w.heap.size+1,0,none⟩ (.int .i64 m)).setCell ⟨w.heap.size+1,1,none⟩ (.slice au xs.length cu)).drew)=wz at HG ⊢
  obtain⟨yJ0,yJ1,yJ2,yJ3,yJ4,yJ5,yJ6,yJ7,yJ8,yJ9⟩:=cZ (ab HG).ZJ
  obtain⟨yfJ0,yfJ1,yfJ2,yfJ3,yfJ4,yfJ5,yfJ6,yfJ7,yfJ8,yfJ9⟩:=f10 (ab HG).ZJ
  have yzJ:w.heap.size<wz.heap.size:=ay (ab HG).ZJ
  obtain⟨yS0,yS1⟩:=c2 (ab HG).ZS
  obtain⟨yfS0,yfS1⟩:=f2 (ab HG).ZS
  have yzS:w.heap.size+1<wz.heap.size:=ay (ab HG).ZS
  go_wp2
  refine bodyPost_ret (v:= .tuple #[.agg #[.int .i64 s,.int .i64 t,.int .i64 k,.int .i64 z,.int .i64 q,.int .i64 l,.int .i64 e,.bool b,.int .i64 v,.int .i64 r],.agg #[.int .i64 m,.slice au xs.length cu]]) (ns) rfl ?_
  exact⟨s,t,k,z,q,l,e,b,v,r,m,au,cu,xs,rfl,(ab HG).O,(by omega),hm,(ab HG).K,_,(by omega),(ab HG).D⟩
 ·have hy1:decide (0<y)=false:=decide_eq_false hy
  go_wp2_with fail
  refine(aG R a len cap (p3+1) 4 _ (by decide) (by decide) (ab HD).D).mono ?_
  rintro e' w6 ⟨y2,rfl,y2l,y2u,k9,r9⟩
  have HB:=ae ((ab HD).kp hR0 k9 (r9 (by omega)))
  clear HD k9 r9
  by_cases hy2:y2=0
  ·have hy3:(y2==0)=true:=by simp[hy2]
   go_wp2_with fail
   have HE:=ae ((ab HB).bel hR0 (ap (Below.refl _ _)))
   refine wp_region_held_drew (S:=(fun W=>W.heap[XJ]? =some (.cells #[.int .i64 s,.int .i64 t,.int .i64 k,.int .i64 z,.int .i64 q,.int .i64 l,.int .i64 e,.bool b,.int .i64 v,.int .i64 r] 24 (0,0))∧W.heap[XS]? =some (.cells #[.int .i64 m,.slice au xs.length cu] 27 (0,0)))) (oc) ?_ (fun hHeld=>?_)
   ·((try dsimp only);exact⟨(ab HE).J,(ab HE).S⟩)
   refine kV 0 ?_
   refine kT 2 ?_ ?_ ?_
   rotate_left
   ·(intro w9 hSw;(try dsimp only at hSw);obtain⟨q0,q1⟩:=hSw;obtain⟨bxx0,bxx1⟩:=c2 q1;go_simp<;>with_reducible rfl)
   try simp only[Act.put,tA,tZ,tS]
   refine rD 1 (fun K hK=>?_)
   go_simp
   (go_at_call 53;refine(anyjob_any R a len cap _ 1 _ (by decide) (by decide) (by omega) (by have:=(ab HE).K.low.size;omega) (ab HE).D).mono ?_;rintro e9 w7 ⟨s2,t2,k2,z2,q2,l2,e2,b2,v2,r2,rfl,k9,p7,hp7,r9⟩)
   (try go_wp2_with fail)
   have HC:=ae ((ab HE).kp hR0 k9 r9)
   clear HE HB k9 r9
   clear hHeld
   refine hK.out _ _ ?_ (fun hHeld=>?_)
   ·((try dsimp only);exact⟨(ab HC).J,(ab HC).S⟩)
   clear hK K
   try simp only[Act.put,tA,tZ,tS]
   refine rD 3 (fun K hK=>?_)
   obtain⟨yJ0,yJ1,yJ2,yJ3,yJ4,yJ5,yJ6,yJ7,yJ8,yJ9⟩:=cZ (ab HC).ZJ
   obtain⟨yfJ0,yfJ1,yfJ2,yfJ3,yfJ4,yfJ5,yfJ6,yfJ7,yfJ8,yfJ9⟩:=f10 (ab HC).ZJ
   have yzJ:w.heap.size<w7.heap.size:=ay (ab HC).ZJ
   go_simp
   clear yJ0 yfJ0 yJ1 yfJ1 yJ2 yfJ2 yJ3 yfJ3 yJ4 yfJ4 yJ5 yfJ5 yJ6 yfJ6 yJ7 yfJ7 yJ8 yfJ8 yJ9 yfJ9 yzJ
   have HF:Hid (lM R w ((((((((((w7.setCell ⟨w.heap.size,0,none⟩ (.int .i64 s2)).setCell ⟨w.heap.size,1,none⟩ (.int .i64 t2)).setCell ⟨w.heap.size,2,none⟩ (.int .i64 k2)).setCell ⟨w.heap.size,3,none⟩ (.int .i64 z2)).setCell ⟨w.heap.size,4,none⟩ (.int .i64 q2)).setCell ⟨w.heap.size,5,none⟩ (.int .i64 l2)).setCell ⟨w.heap.size,6,none⟩ (.int .i64 e2)).setCell ⟨w.heap.size,7,none⟩ (.bool b2)).setCell ⟨w.heap.size,8,none⟩ (.int .i64 v2)).setCell ⟨w.heap.size,9,none⟩ (.int .i64 r2)) a len cap (p7) XJ XS s t k z q l e b v r m au cu xs #[.int .i64 s2,.int .i64 t2,.int .i64 k2,.int .i64 z2,.int .i64 q2,.int .i64 l2,.int .i64 e2,.bool b2,.int .i64 v2,.int .i64 r2] #[.int .i64 0,.slice none 0 0]):=ae (((((((((((ab HC).setJ hR0 0 (.int .i64 s2) (cj':=#[.int .i64 s2,.int .i64 0,.int .i64 0,.int .i64 0,.int .i64 0,.int .i64 0,.int .i64 0,.bool false,.int .i64 0,.int .i64 0]) rfl).setJ hR0 1 (.int .i64 t2) (cj':=#[.int .i64 s2,.int .i64 t2,.int .i64 0,.int .i64 0,.int .i64 0,.int .i64 0,.int .i64 0,.bool false,.int .i64 0,.int .i64 0]) rfl).setJ hR0 2 (.int .i64 k2) (cj':=#[.int .i64 s2,.int .i64 t2,.int .i64 k2,.int .i64 0,.int .i64 0,.int .i64 0,.int .i64 0,.bool false,.int .i64 0,.int .i64 0]) rfl).setJ hR0 3 (.int .i64 z2) (cj':=#[.int .i64 s2,.int .i64 t2,.int .i64 k2,.int .i64 z2,.int .i64 0,.int .i64 0,.int .i64 0,.bool false,.int .i64 0,.int .i64 0]) rfl).setJ hR0 4 (.int .i64 q2) (cj':=#[.int .i64 s2,.int .i64 t2,.int .i64 k2,.int .i64 z2,.int .i64 q2,.int .i64 0,.int .i64 0,.bool false,.int .i64 0,.int .i64 0]) rfl).setJ hR0 5 (.int .i64 l2) (cj':=#[.int .i64 s2,.int .i64 t2,.int .i64 k2,.int .i64 z2,.int .i64 q2,.int .i64 l2,.int .i64 0,.bool false,.int .i64 0,.int .i64 0]) rfl).setJ hR0 6 (.int .i64 e2) (cj':=#[.int .i64 s2,.int .i64 t2,.int .i64 k2,.int .i64 z2,.int .i64 q2,.int .i64 l2,.int .i64 e2,.bool false,.int .i64 0,.int .i64 0]) rfl).setJ hR0 7 (.bool b2) (cj':=#[.int .i64 s2,.int .i64 t2,.int .i64 k2,.int .i64 z2,.int .i64 q2,.int .i64 l2,.int .i64 e2,.bool b2,.int .i64 0,.int .i64 0]) rfl).setJ hR0 8 (.int .i64 v2) (cj':=#[.int .i64 s2,.int .i64 t2,.int .i64 k2,.int .i64 z2,.int .i64 q2,.int .i64 l2,.int .i64 e2,.bool b2,.int .i64 v2,.int .i64 0]) rfl).setJ hR0 9 (.int .i64 r2) (cj':=#[.int .i64 s2,.int .i64 t2,.int .i64 k2,.int .i64 z2,.int .i64 q2,.int .i64 l2,.int .i64 e2,.bool b2,.int .i64 v2,.int .i64 r2]) rfl)
   clear hHeld
   refine hK.out _ _ ?_ (fun hHeld=>?_)
   ·((try dsimp only);exact⟨(ab HF).J,(ab HF).S⟩)
   clear hK K
   try simp only[Act.put,tA,tZ,tS]
   refine rD 4 (fun K hK=>?_)
   have yS0:=cA (ab HF).ZS 0
   have yS1:=cA (ab HF).ZS 1
   simp only[gA,gZ,gS]at yS0 yS1
   have yfS0:=cF (ab HF).ZS 0
   have yfS1:=cF (ab HF).ZS 1
   have yzS:w.heap.size+1<((((((((((w7.setCell ⟨w.heap.size,0,none⟩ (.int .i64 s2)).setCell ⟨w.heap.size,1,none⟩ (.int .i64 t2)).setCell ⟨w.heap.size,2,none⟩ (.int .i64 k2)).setCell ⟨w.heap.size,3,none⟩ (.int .i64 z2)).setCell ⟨w.heap.size,4,none⟩ (.int .i64 q2)).setCell ⟨w.heap.size,5,none⟩ (.int .i64 l2)).setCell ⟨w.heap.size,6,none⟩ (.int .i64 e2)).setCell ⟨w.heap.size,7,none⟩ (.bool b2)).setCell ⟨w.heap.size,8,none⟩ (.int .i64 v2)).setCell ⟨w.heap.size,9,none⟩ (.int .i64 r2)).heap.size:=ay (ab HF).ZS
   go_simp
   clear yS0 yfS0 yS1 yfS1 yzS
   have HG:Hid (lM R w ((((((((((((w7.setCell ⟨w.heap.size,0,none⟩ (.int .i64 s2)).setCell ⟨w.heap.size,1,none⟩ (.int .i64 t2)).setCell ⟨w.heap.size,2,none⟩ (.int .i64 k2)).setCell ⟨w.heap.size,3,none⟩ (.int .i64 z2)).setCell ⟨w.heap.size,4,none⟩ (.int .i64 q2)).setCell ⟨w.heap.size,5,none⟩ (.int .i64 l2)).setCell ⟨w.heap.size,6,none⟩ (.int .i64 e2)).setCell ⟨w.heap.size,7,none⟩ (.bool b2)).setCell ⟨w.heap.size,8,none⟩ (.int .i64 v2)).setCell ⟨w.heap.size,9,none⟩ (.int .i64 r2)).setCell ⟨w.heap.size+1,0,none⟩ (.int .i64 m)).setCell ⟨w.heap.size+1,1,none⟩ (.slice au xs.length cu)) a len cap (p7) XJ XS s t k z q l e b v r m au cu xs #[.int .i64 s2,.int .i64 t2,.int .i64 k2,.int .i64 z2,.int .i64 q2,.int .i64 l2,.int .i64 e2,.bool b2,.int .i64 v2,.int .i64 r2] #[.int .i64 m,.slice au xs.length cu]):=ae (((ab HF).setS hR0 0 (.int .i64 m) (cs':=#[.int .i64 m,.slice none 0 0]) rfl).setS hR0 1 (.slice au xs.length cu) (cs':=#[.int .i64 m,.slice au xs.length cu]) rfl)
   clear hHeld
   refine hK.out _ _ ?_ (fun hHeld=>?_)
   ·((try dsimp only);exact⟨(ab HG).J,(ab HG).S⟩)
   clear hK K
   try simp only[Act.put,tA,tZ,tS]
   clear HC HF
   refine wpAnyH_done (oc) ?_ _
   clear hHeld
   generalize ((((((((((((w7.setCell ⟨w.heap.size,0,none⟩ (.int .i64 s2)).setCell ⟨w.heap.size,1,none⟩ (.int .i64 t2)).setCell ⟨w.heap.size,2,none⟩ (.int .i64 k2)).setCell ⟨w.heap.size,3,none⟩ (.int .i64 z2)).setCell ⟨w.heap.size,4,none⟩ (.int .i64 q2)).setCell ⟨w.heap.size,5,none⟩ (.int .i64 l2)).setCell ⟨w.heap.size,6,none⟩ (.int .i64 e2)).setCell ⟨w.heap.size,7,none⟩ (.bool b2)).setCell ⟨w.heap.size,8,none⟩ (.int .i64 v2)).setCell ⟨w.heap.size,9,none⟩ (.int .i64 r2)).setCell ⟨w.heap.size+1,0,none⟩ (.int .i64 m)).setCell ⟨w.heap.size+1,1,none⟩ (.slice au xs.length cu))=wz at HG ⊢
   have yJ0:=cA (ab HG).ZJ 0
   have yJ1:=cA (ab HG).ZJ 1
   have yJ2:=cA (ab HG).ZJ 2
   have yJ3:=cA (ab HG).ZJ 3
   have yJ4:=cA (ab HG).ZJ 4
   have yJ5:=cA (ab HG).ZJ 5
   have yJ6:=cA (ab HG).ZJ 6
   have yJ7:=cA (ab HG).ZJ 7
   have yJ8:=cA (ab HG).ZJ 8
   have yJ9:=cA (ab HG).ZJ 9
   simp only[gA,gZ,gS]at yJ0 yJ1 yJ2 yJ3 yJ4 yJ5 yJ6 yJ7 yJ8 yJ9
   have yfJ0:=cF (ab HG).ZJ 0
   have yfJ1:=cF (ab HG).ZJ 1
   have yfJ2:=cF (ab HG).ZJ 2
   have yfJ3:=cF (ab HG).ZJ 3
   have yfJ4:=cF (ab HG).ZJ 4
   have yfJ5:=cF (ab HG).ZJ 5
   have yfJ6:=cF (ab HG).ZJ 6
   have yfJ7:=cF (ab HG).ZJ 7
   have yfJ8:=cF (ab HG).ZJ 8
   have yfJ9:=cF (ab HG).ZJ 9
   have yzJ:w.heap.size<wz.heap.size:=ay (ab HG).ZJ
   have yS0:=cA (ab HG).ZS 0
   have yS1:=cA (ab HG).ZS 1
   simp only[gA,gZ,gS]at yS0 yS1
   have yfS0:=cF (ab HG).ZS 0
   have yfS1:=cF (ab HG).ZS 1
   have yzS:w.heap.size+1<wz.heap.size:=ay (ab HG).ZS
   go_wp2
   refine bodyPost_ret (v:= .tuple #[.agg #[.int .i64 s2,.int .i64 t2,.int .i64 k2,.int .i64 z2,.int .i64 q2,.int .i64 l2,.int .i64 e2,.bool b2,.int .i64 v2,.int .i64 r2],.agg #[.int .i64 m,.slice au xs.length cu]]) (ns) rfl ?_
   exact⟨s2,t2,k2,z2,q2,l2,e2,b2,v2,r2,m,au,cu,xs,rfl,(ab HG).O,(by omega),hm,(ab HG).K,_,(by omega),(ab HG).D⟩
  ·have hy3:(y2==0)=false:=by simp[hy2]
   go_wp2_with fail
   have HE:=ae ((ab HB).bel hR0 (ap (Below.refl _ _)))
   refine wp_region_held_drew (S:=(fun W=>W.heap[XJ]? =some (.cells #[.int .i64 s,.int .i64 t,.int .i64 k,.int .i64 z,.int .i64 q,.int .i64 l,.int .i64 e,.bool b,.int .i64 v,.int .i64 r] 24 (0,0))∧W.heap[XS]? =some (.cells #[.int .i64 m,.slice au xs.length cu] 27 (0,0)))) (oc) ?_ (fun hHeld=>?_)
   ·((try dsimp only);exact⟨(ab HE).J,(ab HE).S⟩)
   refine kT 0 ?_ ?_ ?_
   rotate_left
   ·(intro w9 hSw;(try dsimp only at hSw);obtain⟨q0,q1⟩:=hSw;obtain⟨axx0,axx1,axx2,axx3,axx4,axx5,axx6,axx7,axx8,axx9⟩:=cZ q0;go_simp<;>with_reducible rfl)
   try simp only[Act.put,tA,tZ,tS]
   refine kV 1 ?_
   refine kT 2 ?_ ?_ ?_
   rotate_left
   ·(intro w9 hSw;(try dsimp only at hSw);obtain⟨q0,q1⟩:=hSw;obtain⟨bxx0,bxx1⟩:=c2 q1;go_simp<;>with_reducible rfl)
   try simp only[Act.put,tA,tZ,tS]
   refine rD 3 (fun K hK=>?_)
   go_simp
   have HRw:Hid (cO w6.drew au xs.length xs):=ae (by
    obtain⟨a9,c9,e9,h1,h2,_⟩:=eo (ab HE).O (by omega)
    simp at e9
    obtain⟨rfl,rfl⟩:=e9
    exact h1)
   (go_at_call 54;refine(bad_any R a len cap _ m au xs.length cu xs _ (ab HRw) (by omega) hm (by omega) (by have:=(ab HE).K.low.size;omega) (ab HE).D).mono ?_;rintro e9 w7 ⟨m2,au2,cu2,xs2,rfl,hO2,hx2,hm2,k9,p7,hp7,r9⟩)
   (try go_wp2_with fail)
   have HC:=ae ((ab HE).kp hR0 k9 r9)
   have zw6:=(ab HE).K.low.size
   have HO2:Hid (aS w7 w.heap.size (.slice au2 xs2.length cu2) xs2):=ae (World.ownsRow.mono hO2 (by show w.heap.size≤w6.drew.heap.size;exact zw6))
   clear HE HB k9 r9 HRw hO2
   clear hHeld
   refine hK.out _ _ ?_ (fun hHeld=>?_)
   ·((try dsimp only);exact⟨(ab HC).J,(ab HC).S⟩)
   clear hK K
   try simp only[Act.put,tA,tZ,tS]
   refine rD 4 (fun K hK=>?_)
   obtain⟨yJ0,yJ1,yJ2,yJ3,yJ4,yJ5,yJ6,yJ7,yJ8,yJ9⟩:=cZ (ab HC).ZJ
   obtain⟨yfJ0,yfJ1,yfJ2,yfJ3,yfJ4,yfJ5,yfJ6,yfJ7,yfJ8,yfJ9⟩:=f10 (ab HC).ZJ
   have yzJ:w.heap.size<w7.heap.size:=ay (ab HC).ZJ
   go_simp
   clear yJ0 yfJ0 yJ1 yfJ1 yJ2 yfJ2 yJ3 yfJ3 yJ4 yfJ4 yJ5 yfJ5 yJ6 yfJ6 yJ7 yfJ7 yJ8 yfJ8 yJ9 yfJ9 yzJ
   have HF:Hid (lM R w ((((((((((w7.setCell ⟨w.heap.size,0,none⟩ (.int .i64 s)).setCell ⟨w.heap.size,1,none⟩ (.int .i64 t)).setCell ⟨w.heap.size,2,none⟩ (.int .i64 k)).setCell ⟨w.heap.size,3,none⟩ (.int .i64 z)).setCell ⟨w.heap.size,4,none⟩ (.int .i64 q)).setCell ⟨w.heap.size,5,none⟩ (.int .i64 l)).setCell ⟨w.heap.size,6,none⟩ (.int .i64 e)).setCell ⟨w.heap.size,7,none⟩ (.bool b)).setCell ⟨w.heap.size,8,none⟩ (.int .i64 v)).setCell ⟨w.heap.size,9,none⟩ (.int .i64 r)) a len cap (p7) XJ XS s t k z q l e b v r m au cu xs #[.int .i64 s,.int .i64 t,.int .i64 k,.int .i64 z,.int .i64 q,.int .i64 l,.int .i64 e,.bool b,.int .i64 v,.int .i64 r] #[.int .i64 0,.slice none 0 0]):=ae (((((((((((ab HC).setJ hR0 0 (.int .i64 s) (cj':=#[.int .i64 s,.int .i64 0,.int .i64 0,.int .i64 0,.int .i64 0,.int .i64 0,.int .i64 0,.bool false,.int .i64 0,.int .i64 0]) rfl).setJ hR0 1 (.int .i64 t) (cj':=#[.int .i64 s,.int .i64 t,.int .i64 0,.int .i64 0,.int .i64 0,.int .i64 0,.int .i64 0,.bool false,.int .i64 0,.int .i64 0]) rfl).setJ hR0 2 (.int .i64 k) (cj':=#[.int .i64 s,.int .i64 t,.int .i64 k,.int .i64 0,.int .i64 0,.int .i64 0,.int .i64 0,.bool false,.int .i64 0,.int .i64 0]) rfl).setJ hR0 3 (.int .i64 z) (cj':=#[.int .i64 s,.int .i64 t,.int .i64 k,.int .i64 z,.int .i64 0,.int .i64 0,.int .i64 0,.bool false,.int .i64 0,.int .i64 0]) rfl).setJ hR0 4 (.int .i64 q) (cj':=#[.int .i64 s,.int .i64 t,.int .i64 k,.int .i64 z,.int .i64 q,.int .i64 0,.int .i64 0,.bool false,.int .i64 0,.int .i64 0]) rfl).setJ hR0 5 (.int .i64 l) (cj':=#[.int .i64 s,.int .i64 t,.int .i64 k,.int .i64 z,.int .i64 q,.int .i64 l,.int .i64 0,.bool false,.int .i64 0,.int .i64 0]) rfl).setJ hR0 6 (.int .i64 e) (cj':=#[.int .i64 s,.int .i64 t,.int .i64 k,.int .i64 z,.int .i64 q,.int .i64 l,.int .i64 e,.bool false,.int .i64 0,.int .i64 0]) rfl).setJ hR0 7 (.bool b) (cj':=#[.int .i64 s,.int .i64 t,.int .i64 k,.int .i64 z,.int .i64 q,.int .i64 l,.int .i64 e,.bool b,.int .i64 0,.int .i64 0]) rfl).setJ hR0 8 (.int .i64 v) (cj':=#[.int .i64 s,.int .i64 t,.int .i64 k,.int .i64 z,.int .i64 q,.int .i64 l,.int .i64 e,.bool b,.int .i64 v,.int .i64 0]) rfl).setJ hR0 9 (.int .i64 r) (cj':=#[.int .i64 s,.int .i64 t,.int .i64 k,.int .i64 z,.int .i64 q,.int .i64 l,.int .i64 e,.bool b,.int .i64 v,.int .i64 r]) rfl)
   clear hHeld
   refine hK.out _ _ ?_ (fun hHeld=>?_)
   ·((try dsimp only);exact⟨(ab HF).J,(ab HF).S⟩)
   clear hK K
   try simp only[Act.put,tA,tZ,tS]
   have HO3:Hid (aS ((((((((((w7.setCell ⟨w.heap.size,0,none⟩ (.int .i64 s)).setCell ⟨w.heap.size,1,none⟩ (.int .i64 t)).setCell ⟨w.heap.size,2,none⟩ (.int .i64 k)).setCell ⟨w.heap.size,3,none⟩ (.int .i64 z)).setCell ⟨w.heap.size,4,none⟩ (.int .i64 q)).setCell ⟨w.heap.size,5,none⟩ (.int .i64 l)).setCell ⟨w.heap.size,6,none⟩ (.int .i64 e)).setCell ⟨w.heap.size,7,none⟩ (.bool b)).setCell ⟨w.heap.size,8,none⟩ (.int .i64 v)).setCell ⟨w.heap.size,9,none⟩ (.int .i64 r)) w.heap.size (.slice au2 xs2.length cu2) xs2):=ae (al (al (al (al (al (al (al (al (al (al (ab HO2) (af (ab HO2) (ab HC).ZJ (by decide))) (af (ab HO2) (ab HC).ZJ (by decide))) (af (ab HO2) (ab HC).ZJ (by decide))) (af (ab HO2) (ab HC).ZJ (by decide))) (af (ab HO2) (ab HC).ZJ (by decide))) (af (ab HO2) (ab HC).ZJ (by decide))) (af (ab HO2) (ab HC).ZJ (by decide))) (af (ab HO2) (ab HC).ZJ (by decide))) (af (ab HO2) (ab HC).ZJ (by decide))) (af (ab HO2) (ab HC).ZJ (by decide)))
   refine rD 5 (fun K hK=>?_)
   have yS0:=cA (ab HF).ZS 0
   have yS1:=cA (ab HF).ZS 1
   simp only[gA,gZ,gS]at yS0 yS1
   have yfS0:=cF (ab HF).ZS 0
   have yfS1:=cF (ab HF).ZS 1
   have yzS:w.heap.size+1<((((((((((w7.setCell ⟨w.heap.size,0,none⟩ (.int .i64 s)).setCell ⟨w.heap.size,1,none⟩ (.int .i64 t)).setCell ⟨w.heap.size,2,none⟩ (.int .i64 k)).setCell ⟨w.heap.size,3,none⟩ (.int .i64 z)).setCell ⟨w.heap.size,4,none⟩ (.int .i64 q)).setCell ⟨w.heap.size,5,none⟩ (.int .i64 l)).setCell ⟨w.heap.size,6,none⟩ (.int .i64 e)).setCell ⟨w.heap.size,7,none⟩ (.bool b)).setCell ⟨w.heap.size,8,none⟩ (.int .i64 v)).setCell ⟨w.heap.size,9,none⟩ (.int .i64 r)).heap.size:=ay (ab HF).ZS
   go_simp
   clear yS0 yfS0 yS1 yfS1 yzS
   have HG:Hid (lM R w ((((((((((((w7.setCell ⟨w.heap.size,0,none⟩ (.int .i64 s)).setCell ⟨w.heap.size,1,none⟩ (.int .i64 t)).setCell ⟨w.heap.size,2,none⟩ (.int .i64 k)).setCell ⟨w.heap.size,3,none⟩ (.int .i64 z)).setCell ⟨w.heap.size,4,none⟩ (.int .i64 q)).setCell ⟨w.heap.size,5,none⟩ (.int .i64 l)).setCell ⟨w.heap.size,6,none⟩ (.int .i64 e)).setCell ⟨w.heap.size,7,none⟩ (.bool b)).setCell ⟨w.heap.size,8,none⟩ (.int .i64 v)).setCell ⟨w.heap.size,9,none⟩ (.int .i64 r)).setCell ⟨w.heap.size+1,0,none⟩ (.int .i64 m2)).setCell ⟨w.heap.size+1,1,none⟩ (.slice au2 xs2.length cu2)) a len cap (p7) XJ XS s t k z q l e b v r m au cu xs #[.int .i64 s,.int .i64 t,.int .i64 k,.int .i64 z,.int .i64 q,.int .i64 l,.int .i64 e,.bool b,.int .i64 v,.int .i64 r] #[.int .i64 m2,.slice au2 xs2.length cu2]):=ae (((ab HF).setS hR0 0 (.int .i64 m2) (cs':=#[.int .i64 m2,.slice none 0 0]) rfl).setS hR0 1 (.slice au2 xs2.length cu2) (cs':=#[.int .i64 m2,.slice au2 xs2.length cu2]) rfl)
   clear hHeld
   refine hK.out _ _ ?_ (fun hHeld=>?_)
   ·((try dsimp only);exact⟨(ab HG).J,(ab HG).S⟩)
   clear hK K
   try simp only[Act.put,tA,tZ,tS]
   have HO4:Hid (aS ((((((((((((w7.setCell ⟨w.heap.size,0,none⟩ (.int .i64 s)).setCell ⟨w.heap.size,1,none⟩ (.int .i64 t)).setCell ⟨w.heap.size,2,none⟩ (.int .i64 k)).setCell ⟨w.heap.size,3,none⟩ (.int .i64 z)).setCell ⟨w.heap.size,4,none⟩ (.int .i64 q)).setCell ⟨w.heap.size,5,none⟩ (.int .i64 l)).setCell ⟨w.heap.size,6,none⟩ (.int .i64 e)).setCell ⟨w.heap.size,7,none⟩ (.bool b)).setCell ⟨w.heap.size,8,none⟩ (.int .i64 v)).setCell ⟨w.heap.size,9,none⟩ (.int .i64 r)).setCell ⟨w.heap.size+1,0,none⟩ (.int .i64 m2)).setCell ⟨w.heap.size+1,1,none⟩ (.slice au2 xs2.length cu2)) w.heap.size (.slice au2 xs2.length cu2) xs2):=ae (al (al (ab HO3) (af (ab HO3) (ab HF).ZS (by decide))) (af (ab HO3) (ab HF).ZS (by decide)))
   clear HO2 HO3 HC HF
   refine wpAnyH_done (oc) ?_ _
   clear hHeld
   generalize ((((((((((((w7.setCell ⟨w.heap.size,0,none⟩ (.int .i64 s)).setCell ⟨w.heap.size,1,none⟩ (.int .i64 t)).setCell ⟨w.heap.size,2,none⟩ (.int .i64 k)).setCell ⟨w.heap.size,3,none⟩ (.int .i64 z)).setCell ⟨w.heap.size,4,none⟩ (.int .i64 q)).setCell ⟨w.heap.size,5,none⟩ (.int .i64 l)).setCell ⟨w.heap.size,6,none⟩ (.int .i64 e)).setCell ⟨w.heap.size,7,none⟩ (.bool b)).setCell ⟨w.heap.size,8,none⟩ (.int .i64 v)).setCell ⟨w.heap.size,9,none⟩ (.int .i64 r)).setCell ⟨w.heap.size+1,0,none⟩ (.int .i64 m2)).setCell ⟨w.heap.size+1,1,none⟩ (.slice au2 xs2.length cu2))=wz at HG HO4 ⊢
   have yJ0:=cA (ab HG).ZJ 0
   have yJ1:=cA (ab HG).ZJ 1
   have yJ2:=cA (ab HG).ZJ 2
   have yJ3:=cA (ab HG).ZJ 3
   have yJ4:=cA (ab HG).ZJ 4
   have yJ5:=cA (ab HG).ZJ 5
   have yJ6:=cA (ab HG).ZJ 6
   have yJ7:=cA (ab HG).ZJ 7
   have yJ8:=cA (ab HG).ZJ 8
   have yJ9:=cA (ab HG).ZJ 9
   simp only[gA,gZ,gS]at yJ0 yJ1 yJ2 yJ3 yJ4 yJ5 yJ6 yJ7 yJ8 yJ9
   have yfJ0:=cF (ab HG).ZJ 0
   have yfJ1:=cF (ab HG).ZJ 1
   have yfJ2:=cF (ab HG).ZJ 2
   have yfJ3:=cF (ab HG).ZJ 3
   have yfJ4:=cF (ab HG).ZJ 4
   have yfJ5:=cF (ab HG).ZJ 5
   have yfJ6:=cF (ab HG).ZJ 6
   have yfJ7:=cF (ab HG).ZJ 7
   have yfJ8:=cF (ab HG).ZJ 8
   have yfJ9:=cF (ab HG).ZJ 9
   have yzJ:w.heap.size<wz.heap.size:=ay (ab HG).ZJ
   have yS0:=cA (ab HG).ZS 0
   have yS1:=cA (ab HG).ZS 1
   simp only[gA,gZ,gS]at yS0 yS1
   have yfS0:=cF (ab HG).ZS 0
   have yfS1:=cF (ab HG).ZS 1
   have yzS:w.heap.size+1<wz.heap.size:=ay (ab HG).ZS
   go_wp2
   refine bodyPost_ret (v:= .tuple #[.agg #[.int .i64 s,.int .i64 t,.int .i64 k,.int .i64 z,.int .i64 q,.int .i64 l,.int .i64 e,.bool b,.int .i64 v,.int .i64 r],.agg #[.int .i64 m2,.slice au2 xs2.length cu2]]) (ns) rfl ?_
   exact⟨s,t,k,z,q,l,e,b,v,r,m2,au2,cu2,xs2,rfl,(ab HO4),hx2,hm2,(ab HG).K,_,(by omega),(ab HG).D⟩
end Go.Proofs.YtdmhihcipkhecaaGreat
