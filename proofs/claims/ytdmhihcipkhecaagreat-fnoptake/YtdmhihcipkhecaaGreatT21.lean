/- Laid together: what the claim needs of the texts that were built one by one. -/
import Derived.Test.YtdmhihcipkhecaaGreatT18
import Derived.Deep.DeepCutAuto
import Derived.Lib.SmallJoins
import Derived.Test.YtdmhihcipkhecaaGreatT0
set_option linter.unusedVariables false
namespace Go.Proofs.YtdmhihcipkhecaaGreat
open Go.ChangeShapes Go.WideShapes Go.ChangeAt Go.RowKit
theorem iD(y:Int)(h3:0≤y)(h4:y<6):∃t:Int,(#[Value.int .i64 1,Value.int .i64 3,Value.int .i64 5,Value.int .i64 8,Value.int .i64 10,Value.int .i64 20]:Array Value)[y.toNat]? =some (.int .i64 t)∧1≤t∧t≤20:=by
 obtain rfl|rfl|rfl|rfl|rfl|rfl:y=0∨y=1∨y=2∨y=3∨y=4∨y=5:=by omega
 ·exact⟨1,rfl,by decide,by decide⟩
 ·exact⟨3,rfl,by decide,by decide⟩
 ·exact⟨5,rfl,by decide,by decide⟩
 ·exact⟨8,rfl,by decide,by decide⟩
 ·exact⟨10,rfl,by decide,by decide⟩
 ·exact⟨20,rfl,by decide,by decide⟩
theorem jN(y:Int)(h3:0≤y)(h4:y<5):∃t:Int,(#[Value.int .i64 0,Value.int .i64 2,Value.int .i64 5,Value.int .i64 12,Value.int .i64 20]:Array Value)[y.toNat]? =some (.int .i64 t)∧0≤t∧t≤20:=by
 obtain rfl|rfl|rfl|rfl|rfl:y=0∨y=1∨y=2∨y=3∨y=4:=by omega
 ·exact⟨0,rfl,by decide,by decide⟩
 ·exact⟨2,rfl,by decide,by decide⟩
 ·exact⟨5,rfl,by decide,by decide⟩
 ·exact⟨12,rfl,by decide,by decide⟩
 ·exact⟨20,rfl,by decide,by decide⟩
theorem iY(y:Int)(h3:0≤y)(h4:y<5):∃t:Int,(#[Value.int .i64 (-9),Value.int .i64 (-9),Value.int .i64 (-9),Value.int .i64 0,Value.int .i64 5]:Array Value)[y.toNat]? =some (.int .i64 t)∧(-9)≤t∧t≤5:=by
 obtain rfl|rfl|rfl|rfl|rfl:y=0∨y=1∨y=2∨y=3∨y=4:=by omega
 ·exact⟨(-9),rfl,by decide,by decide⟩
 ·exact⟨(-9),rfl,by decide,by decide⟩
 ·exact⟨(-9),rfl,by decide,by decide⟩
 ·exact⟨0,rfl,by decide,by decide⟩
 ·exact⟨5,rfl,by decide,by decide⟩
def PJob:Prd:=fun u _=>∃(s t k z q l e:Int) (b:Bool) (v r:Int),u= .agg #[.int .i64 s,.int .i64 t,.int .i64 k,.int .i64 z,.int .i64 q,.int .i64 l,.int .i64 e,.bool b,.int .i64 v,.int .i64 r]
theorem blk10{W:World}{B ty:Nat}{z0 z1 z2 z3 z4 z5 z6 z7 z8 z9 u0 u1 u2 u3 u4 u5 u6 u7 u8 u9:Value}(h:W.heap[B]? =some (.cells #[z0,z1,z2,z3,z4,z5,z6,z7,z8,z9] ty (0,0))):((((((((((W.setCell ⟨B,0,none⟩ u0).setCell ⟨B,1,none⟩ u1).setCell ⟨B,2,none⟩ u2).setCell ⟨B,3,none⟩ u3).setCell ⟨B,4,none⟩ u4).setCell ⟨B,5,none⟩ u5).setCell ⟨B,6,none⟩ u6).setCell ⟨B,7,none⟩ u7).setCell ⟨B,8,none⟩ u8).setCell ⟨B,9,none⟩ u9).heap[B]? =some (.cells #[u0,u1,u2,u3,u4,u5,u6,u7,u8,u9] ty (0,0)):=by
 have h:(W.setCell ⟨B,0,none⟩ u0).heap[B]? =some (.cells #[u0,z1,z2,z3,z4,z5,z6,z7,z8,z9] ty (0,0)):=Joins.block_setCell h _
 have h:((W.setCell ⟨B,0,none⟩ u0).setCell ⟨B,1,none⟩ u1).heap[B]? =some (.cells #[u0,u1,z2,z3,z4,z5,z6,z7,z8,z9] ty (0,0)):=Joins.block_setCell h _
 have h:(((W.setCell ⟨B,0,none⟩ u0).setCell ⟨B,1,none⟩ u1).setCell ⟨B,2,none⟩ u2).heap[B]? =some (.cells #[u0,u1,u2,z3,z4,z5,z6,z7,z8,z9] ty (0,0)):=Joins.block_setCell h _
 have h:((((W.setCell ⟨B,0,none⟩ u0).setCell ⟨B,1,none⟩ u1).setCell ⟨B,2,none⟩ u2).setCell ⟨B,3,none⟩ u3).heap[B]? =some (.cells #[u0,u1,u2,u3,z4,z5,z6,z7,z8,z9] ty (0,0)):=Joins.block_setCell h _
 have h:(((((W.setCell ⟨B,0,none⟩ u0).setCell ⟨B,1,none⟩ u1).setCell ⟨B,2,none⟩ u2).setCell ⟨B,3,none⟩ u3).setCell ⟨B,4,none⟩ u4).heap[B]? =some (.cells #[u0,u1,u2,u3,u4,z5,z6,z7,z8,z9] ty (0,0)):=Joins.block_setCell h _
 have h:((((((W.setCell ⟨B,0,none⟩ u0).setCell ⟨B,1,none⟩ u1).setCell ⟨B,2,none⟩ u2).setCell ⟨B,3,none⟩ u3).setCell ⟨B,4,none⟩ u4).setCell ⟨B,5,none⟩ u5).heap[B]? =some (.cells #[u0,u1,u2,u3,u4,u5,z6,z7,z8,z9] ty (0,0)):=Joins.block_setCell h _
 have h:(((((((W.setCell ⟨B,0,none⟩ u0).setCell ⟨B,1,none⟩ u1).setCell ⟨B,2,none⟩ u2).setCell ⟨B,3,none⟩ u3).setCell ⟨B,4,none⟩ u4).setCell ⟨B,5,none⟩ u5).setCell ⟨B,6,none⟩ u6).heap[B]? =some (.cells #[u0,u1,u2,u3,u4,u5,u6,z7,z8,z9] ty (0,0)):=Joins.block_setCell h _
 have h:((((((((W.setCell ⟨B,0,none⟩ u0).setCell ⟨B,1,none⟩ u1).setCell ⟨B,2,none⟩ u2).setCell ⟨B,3,none⟩ u3).setCell ⟨B,4,none⟩ u4).setCell ⟨B,5,none⟩ u5).setCell ⟨B,6,none⟩ u6).setCell ⟨B,7,none⟩ u7).heap[B]? =some (.cells #[u0,u1,u2,u3,u4,u5,u6,u7,z8,z9] ty (0,0)):=Joins.block_setCell h _
 have h:(((((((((W.setCell ⟨B,0,none⟩ u0).setCell ⟨B,1,none⟩ u1).setCell ⟨B,2,none⟩ u2).setCell ⟨B,3,none⟩ u3).setCell ⟨B,4,none⟩ u4).setCell ⟨B,5,none⟩ u5).setCell ⟨B,6,none⟩ u6).setCell ⟨B,7,none⟩ u7).setCell ⟨B,8,none⟩ u8).heap[B]? =some (.cells #[u0,u1,u2,u3,u4,u5,u6,u7,u8,z9] ty (0,0)):=Joins.block_setCell h _
 have h:((((((((((W.setCell ⟨B,0,none⟩ u0).setCell ⟨B,1,none⟩ u1).setCell ⟨B,2,none⟩ u2).setCell ⟨B,3,none⟩ u3).setCell ⟨B,4,none⟩ u4).setCell ⟨B,5,none⟩ u5).setCell ⟨B,6,none⟩ u6).setCell ⟨B,7,none⟩ u7).setCell ⟨B,8,none⟩ u8).setCell ⟨B,9,none⟩ u9).heap[B]? =some (.cells #[u0,u1,u2,u3,u4,u5,u6,u7,u8,u9] ty (0,0)):=Joins.block_setCell h _
 exact h
theorem st_job(R:Nat):St R PJob:=fun _ _ _ _ h=>h
/-- What is left of the region: a job in a box. -/
def JobB(R:Nat)(w0:World)(a:Option Addr)(len cap p:Nat)(pv:Value)(W:World):Prop:=∃(B:Nat) (s t k z q l e:Int) (b:Bool) (v r:Int),pv= .pointer (some ⟨B,0,none⟩)∧w0.heap.size≤B∧W.heap[B]? =some (.cells #[.int .i64 s,.int .i64 t,.int .i64 k,.int .i64 z,.int .i64 q,.int .i64 l,.int .i64 e,.bool b,.int .i64 v,.int .i64 r] 24 (0,0))∧Kp R w0 W∧∃p',p'≤p+9∧Rd R W a len cap p'
/-- A drawn job. -/
def JobP(R:Nat)(w:World)(a:Option Addr)(len cap p:Nat)(e':Ending)(w':World):Prop:=∃(s t k z q l e:Int) (b:Bool) (v r:Int),e'= .returned (.agg #[.int .i64 s,.int .i64 t,.int .i64 k,.int .i64 z,.int .i64 q,.int .i64 l,.int .i64 e,.bool b,.int .i64 v,.int .i64 r])∧Kp R w w'∧∃p',p'≤p+11∧Rd R w' a len cap p'
def jobPs(R B0:Nat):List Prd:=[kF (.pointer (some ⟨R,0,none⟩)),cC 0 2,cC 1 3,kF (.pointer (some ⟨R,0,none⟩)),cC 0 1,cC 1 2,kF (.pointer (some ⟨R,0,none⟩)),cC 0 2,cC 1 3,PSl R 6 #[.int .i64 1,.int .i64 3,.int .i64 5,.int .i64 8,.int .i64 10,.int .i64 20],kF (.pointer (some ⟨R,0,none⟩)),cC 0 5,PPt R 1 20,cC 1 20,PSl R 5 #[.int .i64 0,.int .i64 2,.int .i64 5,.int .i64 12,.int .i64 20],kF (.pointer (some ⟨R,0,none⟩)),cC 0 4,PPt R 0 20,cC 0 20,kF (.pointer (some ⟨R,0,none⟩)),cC 0 3,cC 1 4,kF (.pointer (some ⟨R,0,none⟩)),cC 0 1,PBool,PSl R 5 #[.int .i64 (-9),.int .i64 (-9),.int .i64 (-9),.int .i64 0,.int .i64 5],kF (.pointer (some ⟨R,0,none⟩)),cC 0 4,PPt R (-9) 5,cC (-9) 5,kF (.pointer (some ⟨R,0,none⟩)),cC 0 3,cC 1 4,PJob,PBox R B0 #[.int .i64 0,.int .i64 0,.int .i64 0,.int .i64 0,.int .i64 0,.int .i64 0,.int .i64 0,.bool false,.int .i64 0,.int .i64 0] 24,jZ]
theorem jobSt(R B0:Nat):kG R (jobPs R B0):=⟨fb _ _,cX _ _ _,cX _ _ _,fb _ _,cX _ _ _,cX _ _ _,fb _ _,cX _ _ _,cX _ _ _,st_sl _ _ _,fb _ _,cX _ _ _,st_pt _ _ _,cX _ _ _,st_sl _ _ _,fb _ _,cX _ _ _,st_pt _ _ _,cX _ _ _,fb _ _,cX _ _ _,cX _ _ _,fb _ _,cX _ _ _,st_bool _,st_sl _ _ _,fb _ _,cX _ _ _,st_pt _ _ _,cX _ _ _,fb _ _,cX _ _ _,cX _ _ _,st_job _,st_box _ _ _ _,lL _,trivial⟩
set_option linter.unusedSimpArgs false in
set_option maxRecDepth 20000 in
set_option maxHeartbeats 16000000 in
theorem job_any(R:Nat)(a:Option Addr)(len cap p:Nat)(w:World)(hp:p≤900000)(hR0:R<w.heap.size)(h:Rd R w a len cap p):Calls Tryz.prog 51 #[.pointer (some ⟨R,0,none⟩)] w fun e w'=>JobP R w a len cap p e w':=by
 go_enter Tryz.func51,Tryz.ntmps51
 go_wp2_with fail
 go_cut [3] (fun pv W=>JobB R (w.alloc (.cells #[.int .i64 0,.int .i64 0,.int .i64 0,.int .i64 0,.int .i64 0,.int .i64 0,.int .i64 0,.bool false,.int .i64 0,.int .i64 0] 24)) a len cap p pv W)
 case first=>
  have hst:=jobSt R (w.heap.size+1)
  have hrd:=h.kp hR0 (aq w (.cells #[.int .i64 0,.int .i64 0,.int .i64 0,.int .i64 0,.int .i64 0,.int .i64 0,.int .i64 0,.bool false,.int .i64 0,.int .i64 0] 24))
  refine fP (oc) (oc) (oc) (aP R (w.heap.size+1) a len cap p (w.alloc (.cells #[.int .i64 0,.int .i64 0,.int .i64 0,.int .i64 0,.int .i64 0,.int .i64 0,.int .i64 0,.bool false,.int .i64 0,.int .i64 0] 24)) (jobPs R (w.heap.size+1)) [1,4,7,11,16,20,23,27,31] (fun V=>#[.pointer (some ⟨R,0,none⟩),undef,.pointer (some ⟨w.heap.size,0,none⟩),V 34,V 0,V 1,V 2,V 3,V 4,V 5,V 6,V 7,V 8,V 9,V 10,V 11,V 12,V 13,V 14,V 15,V 16,V 17,V 18,V 19,V 20,V 21,V 22,V 23,V 24,V 25,V 26,V 27,V 28,V 29,V 30,V 31,V 32,V 33,undef,undef,undef,undef,undef,undef,undef,undef,undef,undef,undef,undef,undef,undef,undef,undef,undef,undef,undef,undef,undef,undef,undef,undef,undef,undef,undef,undef,undef,undef,undef,undef,undef,undef,undef,undef,undef]) []) ?_ ?_
  ·refine⟨fun _=>undef,rfl,?_,⟨(Below.refl _ _).drew,fun _ _ _=>rfl⟩,?_,?_,p,?_,?_⟩
   ·intro j hj
    exact absurd hj (by simp)
   ·simp
   ·omega
   ·omega
   ·exact⟨hrd.1,hrd.2,hrd.3,hrd.4,hrd.5,hrd.6,hrd.7⟩
  refine⟨?_,?_,?_,?_,?_,?_,?_,?_,?_,?_,?_,?_,?_,?_,?_,?_,?_,?_,?_,?_,?_,?_,?_,?_,?_,?_,?_,?_,?_,?_,?_,?_,?_,?_,?_,?_⟩
  ·intro L ac W hI hL hA K' hK
   obtain⟨V,rfl,hP,hk,hB,hR,hr⟩:=hI
   go_simp
   refine hK.out _ _ (aP.pure (i:=0) (.pointer (some ⟨R,0,none⟩)) hP hk hB hR hr rfl ?_)
   simp[ch]
  ·intro L ac W hI hL hA K' hK
   obtain⟨V,rfl,hP,hk,hB,hR,hr⟩:=hI
   have e0:V 0=(.pointer (some ⟨R,0,none⟩)):=hP 0 (hA ⟨0,.data⟩ (by simp) rfl)
   simp only[e0]
   obtain⟨p',hp',hd⟩:=hr
   have hlt:=dD (i:=1) hL [1,4,7,11,16,20,23,27,31] (by decide)
   have hcn:=cD L [1,4,7,11,16,20,23,27,31]
   simp only[List.length_cons,List.length_nil]at hcn
   go_simp
   (go_at_call 25;refine(aG R a len cap p' 3 W (by omega) (by omega) hd).mono ?_;rintro e' W' ⟨x,rfl,x0,x1,kW,rW⟩)
   (try go_wp2_with fail)
   refine hK.out _ _ (aP.drew (i:=1) (.int .i64 x) hst hP hk hB hR kW ⟨p'+1,by omega,rW (by omega)⟩ ⟨x,rfl,by omega,by omega⟩ ?_)
   simp[ch,e0]
  ·intro L ac W hI hL hA K' hK
   obtain⟨V,rfl,hP,hk,hB,hR,hr⟩:=hI
   obtain⟨z1,e1,lo1,hi1⟩:=(show cC 0 2 (V 1) W from hP 1 (hA ⟨1,.data⟩ (by simp) rfl))
   simp only[e1]
   have hw9:IntKind.i64.wrap (1+z1)=1+z1:=by rw[IntKind.wrap_i64];omega
   go_simp
   (try rw[hw9])
   refine hK.out _ _ (aP.pure (i:=2) (.int .i64 (1+z1)) hP hk hB hR hr ⟨_,rfl,by omega,by omega⟩ ?_)
   simp[ch,e1]
  ·intro L ac W hI hL hA K' hK
   obtain⟨V,rfl,hP,hk,hB,hR,hr⟩:=hI
   go_simp
   refine hK.out _ _ (aP.pure (i:=3) (.pointer (some ⟨R,0,none⟩)) hP hk hB hR hr rfl ?_)
   simp[ch]
  ·intro L ac W hI hL hA K' hK
   obtain⟨V,rfl,hP,hk,hB,hR,hr⟩:=hI
   have e3:V 3=(.pointer (some ⟨R,0,none⟩)):=hP 3 (hA ⟨3,.data⟩ (by simp) rfl)
   simp only[e3]
   obtain⟨p',hp',hd⟩:=hr
   have hlt:=dD (i:=4) hL [1,4,7,11,16,20,23,27,31] (by decide)
   have hcn:=cD L [1,4,7,11,16,20,23,27,31]
   simp only[List.length_cons,List.length_nil]at hcn
   go_simp
   (go_at_call 25;refine(aG R a len cap p' 2 W (by omega) (by omega) hd).mono ?_;rintro e' W' ⟨x,rfl,x0,x1,kW,rW⟩)
   (try go_wp2_with fail)
   refine hK.out _ _ (aP.drew (i:=4) (.int .i64 x) hst hP hk hB hR kW ⟨p'+1,by omega,rW (by omega)⟩ ⟨x,rfl,by omega,by omega⟩ ?_)
   simp[ch,e3]
  ·intro L ac W hI hL hA K' hK
   obtain⟨V,rfl,hP,hk,hB,hR,hr⟩:=hI
   obtain⟨z4,e4,lo4,hi4⟩:=(show cC 0 1 (V 4) W from hP 4 (hA ⟨4,.data⟩ (by simp) rfl))
   simp only[e4]
   have hw9:IntKind.i64.wrap (1+z4)=1+z4:=by rw[IntKind.wrap_i64];omega
   go_simp
   (try rw[hw9])
   refine hK.out _ _ (aP.pure (i:=5) (.int .i64 (1+z4)) hP hk hB hR hr ⟨_,rfl,by omega,by omega⟩ ?_)
   simp[ch,e4]
  ·intro L ac W hI hL hA K' hK
   obtain⟨V,rfl,hP,hk,hB,hR,hr⟩:=hI
   go_simp
   refine hK.out _ _ (aP.pure (i:=6) (.pointer (some ⟨R,0,none⟩)) hP hk hB hR hr rfl ?_)
   simp[ch]
  ·intro L ac W hI hL hA K' hK
   obtain⟨V,rfl,hP,hk,hB,hR,hr⟩:=hI
   have e6:V 6=(.pointer (some ⟨R,0,none⟩)):=hP 6 (hA ⟨6,.data⟩ (by simp) rfl)
   simp only[e6]
   obtain⟨p',hp',hd⟩:=hr
   have hlt:=dD (i:=7) hL [1,4,7,11,16,20,23,27,31] (by decide)
   have hcn:=cD L [1,4,7,11,16,20,23,27,31]
   simp only[List.length_cons,List.length_nil]at hcn
   go_simp
   (go_at_call 25;refine(aG R a len cap p' 3 W (by omega) (by omega) hd).mono ?_;rintro e' W' ⟨x,rfl,x0,x1,kW,rW⟩)
   (try go_wp2_with fail)
   refine hK.out _ _ (aP.drew (i:=7) (.int .i64 x) hst hP hk hB hR kW ⟨p'+1,by omega,rW (by omega)⟩ ⟨x,rfl,by omega,by omega⟩ ?_)
   simp[ch,e6]
  ·intro L ac W hI hL hA K' hK
   obtain⟨V,rfl,hP,hk,hB,hR,hr⟩:=hI
   obtain⟨z7,e7,lo7,hi7⟩:=(show cC 0 2 (V 7) W from hP 7 (hA ⟨7,.data⟩ (by simp) rfl))
   simp only[e7]
   have hw9:IntKind.i64.wrap (1+z7)=1+z7:=by rw[IntKind.wrap_i64];omega
   go_simp
   (try rw[hw9])
   refine hK.out _ _ (aP.pure (i:=8) (.int .i64 (1+z7)) hP hk hB hR hr ⟨_,rfl,by omega,by omega⟩ ?_)
   simp[ch,e7]
  ·intro L ac W hI hL hA K' hK
   obtain⟨V,rfl,hP,hk,hB,hR,hr⟩:=hI
   go_simp
   refine hK.out _ _ (aP.made (i:=9) (.slice (some ⟨W.heap.size,0,none⟩) 6 6) (.cells #[.int .i64 1,.int .i64 3,.int .i64 5,.int .i64 8,.int .i64 10,.int .i64 20] 3) hst hP hk hB hR hr ⟨_,rfl,by omega,heap_alloc_new _ _⟩ ?_)
   simp[ch]
  ·intro L ac W hI hL hA K' hK
   obtain⟨V,rfl,hP,hk,hB,hR,hr⟩:=hI
   go_simp
   refine hK.out _ _ (aP.pure (i:=10) (.pointer (some ⟨R,0,none⟩)) hP hk hB hR hr rfl ?_)
   simp[ch]
  ·intro L ac W hI hL hA K' hK
   obtain⟨V,rfl,hP,hk,hB,hR,hr⟩:=hI
   have e10:V 10=(.pointer (some ⟨R,0,none⟩)):=hP 10 (hA ⟨10,.data⟩ (by simp) rfl)
   simp only[e10]
   obtain⟨p',hp',hd⟩:=hr
   have hlt:=dD (i:=11) hL [1,4,7,11,16,20,23,27,31] (by decide)
   have hcn:=cD L [1,4,7,11,16,20,23,27,31]
   simp only[List.length_cons,List.length_nil]at hcn
   go_simp
   (go_at_call 25;refine(aG R a len cap p' 6 W (by omega) (by omega) hd).mono ?_;rintro e' W' ⟨x,rfl,x0,x1,kW,rW⟩)
   (try go_wp2_with fail)
   refine hK.out _ _ (aP.drew (i:=11) (.int .i64 x) hst hP hk hB hR kW ⟨p'+1,by omega,rW (by omega)⟩ ⟨x,rfl,by omega,by omega⟩ ?_)
   simp[ch,e10]
  ·intro L ac W hI hL hA K' hK
   obtain⟨V,rfl,hP,hk,hB,hR,hr⟩:=hI
   obtain⟨g9,e9,n9,k9⟩:=(show PSl R 6 #[.int .i64 1,.int .i64 3,.int .i64 5,.int .i64 8,.int .i64 10,.int .i64 20] (V 9) W from hP 9 (hA ⟨9,.data⟩ (by simp) rfl))
   obtain⟨z11,e11,lo11,hi11⟩:=(show cC 0 5 (V 11) W from hP 11 (hA ⟨11,.data⟩ (by simp) rfl))
   simp only[e9,e11]
   obtain⟨z,hz,zl,zu⟩:=iD z11 lo11 (by omega)
   have hc9:=(ax (n:=0) k9 z11.toNat).1.trans hz
   have hix:(0:Int)≤z11∧z11<6:=⟨lo11,by omega⟩
   have hix1:¬ z11<0:=by omega
   have hix2:z11.toNat<6:=by omega
   go_simp
   refine hK.out _ _ (aP.pure (i:=12) (.pointer (some ⟨g9,z11.toNat,none⟩)) hP hk hB hR hr ⟨_,_,_,rfl,n9,hc9,zl,zu⟩ ?_)
   simp[ch,e9,e11]
  ·intro L ac W hI hL hA K' hK
   obtain⟨V,rfl,hP,hk,hB,hR,hr⟩:=hI
   obtain⟨g12,o12,z12,e12,n12,c12,lo12,hi12⟩:=(show PPt R 1 20 (V 12) W from hP 12 (hA ⟨12,.data⟩ (by simp) rfl))
   simp only[e12]
   go_simp
   refine hK.out _ _ (aP.pure (i:=13) (.int .i64 z12) hP hk hB hR hr ⟨_,rfl,lo12,hi12⟩ ?_)
   simp[ch,e12]
  ·intro L ac W hI hL hA K' hK
   obtain⟨V,rfl,hP,hk,hB,hR,hr⟩:=hI
   go_simp
   refine hK.out _ _ (aP.made (i:=14) (.slice (some ⟨W.heap.size,0,none⟩) 5 5) (.cells #[.int .i64 0,.int .i64 2,.int .i64 5,.int .i64 12,.int .i64 20] 3) hst hP hk hB hR hr ⟨_,rfl,by omega,heap_alloc_new _ _⟩ ?_)
   simp[ch]
  ·intro L ac W hI hL hA K' hK
   obtain⟨V,rfl,hP,hk,hB,hR,hr⟩:=hI
   go_simp
   refine hK.out _ _ (aP.pure (i:=15) (.pointer (some ⟨R,0,none⟩)) hP hk hB hR hr rfl ?_)
   simp[ch]
  ·intro L ac W hI hL hA K' hK
   obtain⟨V,rfl,hP,hk,hB,hR,hr⟩:=hI
   have e15:V 15=(.pointer (some ⟨R,0,none⟩)):=hP 15 (hA ⟨15,.data⟩ (by simp) rfl)
   simp only[e15]
   obtain⟨p',hp',hd⟩:=hr
   have hlt:=dD (i:=16) hL [1,4,7,11,16,20,23,27,31] (by decide)
   have hcn:=cD L [1,4,7,11,16,20,23,27,31]
   simp only[List.length_cons,List.length_nil]at hcn
   go_simp
   (go_at_call 25;refine(aG R a len cap p' 5 W (by omega) (by omega) hd).mono ?_;rintro e' W' ⟨x,rfl,x0,x1,kW,rW⟩)
   (try go_wp2_with fail)
   refine hK.out _ _ (aP.drew (i:=16) (.int .i64 x) hst hP hk hB hR kW ⟨p'+1,by omega,rW (by omega)⟩ ⟨x,rfl,by omega,by omega⟩ ?_)
   simp[ch,e15]
  ·intro L ac W hI hL hA K' hK
   obtain⟨V,rfl,hP,hk,hB,hR,hr⟩:=hI
   obtain⟨g14,e14,n14,k14⟩:=(show PSl R 5 #[.int .i64 0,.int .i64 2,.int .i64 5,.int .i64 12,.int .i64 20] (V 14) W from hP 14 (hA ⟨14,.data⟩ (by simp) rfl))
   obtain⟨z16,e16,lo16,hi16⟩:=(show cC 0 4 (V 16) W from hP 16 (hA ⟨16,.data⟩ (by simp) rfl))
   simp only[e14,e16]
   obtain⟨z,hz,zl,zu⟩:=jN z16 lo16 (by omega)
   have hc9:=(ax (n:=0) k14 z16.toNat).1.trans hz
   have hix:(0:Int)≤z16∧z16<5:=⟨lo16,by omega⟩
   have hix1:¬ z16<0:=by omega
   have hix2:z16.toNat<5:=by omega
   go_simp
   refine hK.out _ _ (aP.pure (i:=17) (.pointer (some ⟨g14,z16.toNat,none⟩)) hP hk hB hR hr ⟨_,_,_,rfl,n14,hc9,zl,zu⟩ ?_)
   simp[ch,e14,e16]
  ·intro L ac W hI hL hA K' hK
   obtain⟨V,rfl,hP,hk,hB,hR,hr⟩:=hI
   obtain⟨g17,o17,z17,e17,n17,c17,lo17,hi17⟩:=(show PPt R 0 20 (V 17) W from hP 17 (hA ⟨17,.data⟩ (by simp) rfl))
   simp only[e17]
   go_simp
   refine hK.out _ _ (aP.pure (i:=18) (.int .i64 z17) hP hk hB hR hr ⟨_,rfl,lo17,hi17⟩ ?_)
   simp[ch,e17]
  ·intro L ac W hI hL hA K' hK
   obtain⟨V,rfl,hP,hk,hB,hR,hr⟩:=hI
   go_simp
   refine hK.out _ _ (aP.pure (i:=19) (.pointer (some ⟨R,0,none⟩)) hP hk hB hR hr rfl ?_)
   simp[ch]
  ·intro L ac W hI hL hA K' hK
   obtain⟨V,rfl,hP,hk,hB,hR,hr⟩:=hI
   have e19:V 19=(.pointer (some ⟨R,0,none⟩)):=hP 19 (hA ⟨19,.data⟩ (by simp) rfl)
   simp only[e19]
   obtain⟨p',hp',hd⟩:=hr
   have hlt:=dD (i:=20) hL [1,4,7,11,16,20,23,27,31] (by decide)
   have hcn:=cD L [1,4,7,11,16,20,23,27,31]
   simp only[List.length_cons,List.length_nil]at hcn
   go_simp
   (go_at_call 25;refine(aG R a len cap p' 4 W (by omega) (by omega) hd).mono ?_;rintro e' W' ⟨x,rfl,x0,x1,kW,rW⟩)
   (try go_wp2_with fail)
   refine hK.out _ _ (aP.drew (i:=20) (.int .i64 x) hst hP hk hB hR kW ⟨p'+1,by omega,rW (by omega)⟩ ⟨x,rfl,by omega,by omega⟩ ?_)
   simp[ch,e19]
  ·intro L ac W hI hL hA K' hK
   obtain⟨V,rfl,hP,hk,hB,hR,hr⟩:=hI
   obtain⟨z20,e20,lo20,hi20⟩:=(show cC 0 3 (V 20) W from hP 20 (hA ⟨20,.data⟩ (by simp) rfl))
   simp only[e20]
   have hw9:IntKind.i64.wrap (1+z20)=1+z20:=by rw[IntKind.wrap_i64];omega
   go_simp
   (try rw[hw9])
   refine hK.out _ _ (aP.pure (i:=21) (.int .i64 (1+z20)) hP hk hB hR hr ⟨_,rfl,by omega,by omega⟩ ?_)
   simp[ch,e20]
  ·intro L ac W hI hL hA K' hK
   obtain⟨V,rfl,hP,hk,hB,hR,hr⟩:=hI
   go_simp
   refine hK.out _ _ (aP.pure (i:=22) (.pointer (some ⟨R,0,none⟩)) hP hk hB hR hr rfl ?_)
   simp[ch]
  ·intro L ac W hI hL hA K' hK
   obtain⟨V,rfl,hP,hk,hB,hR,hr⟩:=hI
   have e22:V 22=(.pointer (some ⟨R,0,none⟩)):=hP 22 (hA ⟨22,.data⟩ (by simp) rfl)
   simp only[e22]
   obtain⟨p',hp',hd⟩:=hr
   have hlt:=dD (i:=23) hL [1,4,7,11,16,20,23,27,31] (by decide)
   have hcn:=cD L [1,4,7,11,16,20,23,27,31]
   simp only[List.length_cons,List.length_nil]at hcn
   go_simp
   (go_at_call 25;refine(aG R a len cap p' 2 W (by omega) (by omega) hd).mono ?_;rintro e' W' ⟨x,rfl,x0,x1,kW,rW⟩)
   (try go_wp2_with fail)
   refine hK.out _ _ (aP.drew (i:=23) (.int .i64 x) hst hP hk hB hR kW ⟨p'+1,by omega,rW (by omega)⟩ ⟨x,rfl,by omega,by omega⟩ ?_)
   simp[ch,e22]
  ·intro L ac W hI hL hA K' hK
   obtain⟨V,rfl,hP,hk,hB,hR,hr⟩:=hI
   obtain⟨z23,e23,lo23,hi23⟩:=(show cC 0 1 (V 23) W from hP 23 (hA ⟨23,.data⟩ (by simp) rfl))
   simp only[e23]
   go_simp
   refine hK.out _ _ (aP.pure (i:=24) (.bool (z23==0)) hP hk hB hR hr ⟨_,rfl⟩ ?_)
   simp[ch,e23]
  ·intro L ac W hI hL hA K' hK
   obtain⟨V,rfl,hP,hk,hB,hR,hr⟩:=hI
   go_simp
   refine hK.out _ _ (aP.made (i:=25) (.slice (some ⟨W.heap.size,0,none⟩) 5 5) (.cells #[.int .i64 (-9),.int .i64 (-9),.int .i64 (-9),.int .i64 0,.int .i64 5] 3) hst hP hk hB hR hr ⟨_,rfl,by omega,heap_alloc_new _ _⟩ ?_)
   simp[ch]
  ·intro L ac W hI hL hA K' hK
   obtain⟨V,rfl,hP,hk,hB,hR,hr⟩:=hI
   go_simp
   refine hK.out _ _ (aP.pure (i:=26) (.pointer (some ⟨R,0,none⟩)) hP hk hB hR hr rfl ?_)
   simp[ch]
  ·intro L ac W hI hL hA K' hK
   obtain⟨V,rfl,hP,hk,hB,hR,hr⟩:=hI
   have e26:V 26=(.pointer (some ⟨R,0,none⟩)):=hP 26 (hA ⟨26,.data⟩ (by simp) rfl)
   simp only[e26]
   obtain⟨p',hp',hd⟩:=hr
   have hlt:=dD (i:=27) hL [1,4,7,11,16,20,23,27,31] (by decide)
   have hcn:=cD L [1,4,7,11,16,20,23,27,31]
   simp only[List.length_cons,List.length_nil]at hcn
   go_simp
   (go_at_call 25;refine(aG R a len cap p' 5 W (by omega) (by omega) hd).mono ?_;rintro e' W' ⟨x,rfl,x0,x1,kW,rW⟩)
   (try go_wp2_with fail)
   refine hK.out _ _ (aP.drew (i:=27) (.int .i64 x) hst hP hk hB hR kW ⟨p'+1,by omega,rW (by omega)⟩ ⟨x,rfl,by omega,by omega⟩ ?_)
   simp[ch,e26]
  ·intro L ac W hI hL hA K' hK
   obtain⟨V,rfl,hP,hk,hB,hR,hr⟩:=hI
   obtain⟨g25,e25,n25,k25⟩:=(show PSl R 5 #[.int .i64 (-9),.int .i64 (-9),.int .i64 (-9),.int .i64 0,.int .i64 5] (V 25) W from hP 25 (hA ⟨25,.data⟩ (by simp) rfl))
   obtain⟨z27,e27,lo27,hi27⟩:=(show cC 0 4 (V 27) W from hP 27 (hA ⟨27,.data⟩ (by simp) rfl))
   simp only[e25,e27]
   obtain⟨z,hz,zl,zu⟩:=iY z27 lo27 (by omega)
   have hc9:=(ax (n:=0) k25 z27.toNat).1.trans hz
   have hix:(0:Int)≤z27∧z27<5:=⟨lo27,by omega⟩
   have hix1:¬ z27<0:=by omega
   have hix2:z27.toNat<5:=by omega
   go_simp
   refine hK.out _ _ (aP.pure (i:=28) (.pointer (some ⟨g25,z27.toNat,none⟩)) hP hk hB hR hr ⟨_,_,_,rfl,n25,hc9,zl,zu⟩ ?_)
   simp[ch,e25,e27]
  ·intro L ac W hI hL hA K' hK
   obtain⟨V,rfl,hP,hk,hB,hR,hr⟩:=hI
   obtain⟨g28,o28,z28,e28,n28,c28,lo28,hi28⟩:=(show PPt R (-9) 5 (V 28) W from hP 28 (hA ⟨28,.data⟩ (by simp) rfl))
   simp only[e28]
   go_simp
   refine hK.out _ _ (aP.pure (i:=29) (.int .i64 z28) hP hk hB hR hr ⟨_,rfl,lo28,hi28⟩ ?_)
   simp[ch,e28]
  ·intro L ac W hI hL hA K' hK
   obtain⟨V,rfl,hP,hk,hB,hR,hr⟩:=hI
   go_simp
   refine hK.out _ _ (aP.pure (i:=30) (.pointer (some ⟨R,0,none⟩)) hP hk hB hR hr rfl ?_)
   simp[ch]
  ·intro L ac W hI hL hA K' hK
   obtain⟨V,rfl,hP,hk,hB,hR,hr⟩:=hI
   have e30:V 30=(.pointer (some ⟨R,0,none⟩)):=hP 30 (hA ⟨30,.data⟩ (by simp) rfl)
   simp only[e30]
   obtain⟨p',hp',hd⟩:=hr
   have hlt:=dD (i:=31) hL [1,4,7,11,16,20,23,27,31] (by decide)
   have hcn:=cD L [1,4,7,11,16,20,23,27,31]
   simp only[List.length_cons,List.length_nil]at hcn
   go_simp
   (go_at_call 25;refine(aG R a len cap p' 4 W (by omega) (by omega) hd).mono ?_;rintro e' W' ⟨x,rfl,x0,x1,kW,rW⟩)
   (try go_wp2_with fail)
   refine hK.out _ _ (aP.drew (i:=31) (.int .i64 x) hst hP hk hB hR kW ⟨p'+1,by omega,rW (by omega)⟩ ⟨x,rfl,by omega,by omega⟩ ?_)
   simp[ch,e30]
  ·intro L ac W hI hL hA K' hK
   obtain⟨V,rfl,hP,hk,hB,hR,hr⟩:=hI
   obtain⟨z31,e31,lo31,hi31⟩:=(show cC 0 3 (V 31) W from hP 31 (hA ⟨31,.data⟩ (by simp) rfl))
   simp only[e31]
   have hw9:IntKind.i64.wrap (1+z31)=1+z31:=by rw[IntKind.wrap_i64];omega
   go_simp
   (try rw[hw9])
   refine hK.out _ _ (aP.pure (i:=32) (.int .i64 (1+z31)) hP hk hB hR hr ⟨_,rfl,by omega,by omega⟩ ?_)
   simp[ch,e31]
  ·intro L ac W hI hL hA K' hK
   obtain⟨V,rfl,hP,hk,hB,hR,hr⟩:=hI
   obtain⟨z2,e2,lo2,hi2⟩:=(show cC 1 3 (V 2) W from hP 2 (hA ⟨2,.data⟩ (by simp) rfl))
   obtain⟨z5,e5,lo5,hi5⟩:=(show cC 1 2 (V 5) W from hP 5 (hA ⟨5,.data⟩ (by simp) rfl))
   obtain⟨z8,e8,lo8,hi8⟩:=(show cC 1 3 (V 8) W from hP 8 (hA ⟨8,.data⟩ (by simp) rfl))
   obtain⟨z13,e13,lo13,hi13⟩:=(show cC 1 20 (V 13) W from hP 13 (hA ⟨13,.data⟩ (by simp) rfl))
   obtain⟨z18,e18,lo18,hi18⟩:=(show cC 0 20 (V 18) W from hP 18 (hA ⟨18,.data⟩ (by simp) rfl))
   obtain⟨z21,e21,lo21,hi21⟩:=(show cC 1 4 (V 21) W from hP 21 (hA ⟨21,.data⟩ (by simp) rfl))
   obtain⟨b24,e24⟩:=(show PBool (V 24) W from hP 24 (hA ⟨24,.data⟩ (by simp) rfl))
   obtain⟨z29,e29,lo29,hi29⟩:=(show cC (-9) 5 (V 29) W from hP 29 (hA ⟨29,.data⟩ (by simp) rfl))
   obtain⟨z32,e32,lo32,hi32⟩:=(show cC 1 4 (V 32) W from hP 32 (hA ⟨32,.data⟩ (by simp) rfl))
   simp only[e2,e5,e8,e13,e18,e21,e24,e29,e32]
   go_simp
   refine hK.out _ _ (aP.pure (i:=33) (.agg #[.int .i64 z2,.int .i64 z5,.int .i64 z8,.int .i64 z13,.int .i64 0,.int .i64 z18,.int .i64 z21,.bool b24,.int .i64 z29,.int .i64 z32]) hP hk hB hR hr ⟨_,_,_,_,_,_,_,_,_,_,rfl⟩ ?_)
   simp[ch,e2,e5,e8,e13,e18,e21,e24,e29,e32]
  ·intro L ac W hI hL hA K' hK
   obtain⟨V,rfl,hP,hk,hB,hR,hr⟩:=hI
   go_simp
   refine hK.out _ _ (aP.made (i:=34) (.pointer (some ⟨W.heap.size,0,none⟩)) (.cells #[.int .i64 0,.int .i64 0,.int .i64 0,.int .i64 0,.int .i64 0,.int .i64 0,.int .i64 0,.bool false,.int .i64 0,.int .i64 0] 24) hst hP hk hB hR hr ⟨_,rfl,by omega,hB,heap_alloc_new _ _⟩ ?_)
   simp[ch]
  ·intro L ac W hI hA K' hK
   obtain⟨V,rfl,hP,hk,hB,hR,p',hp',hd⟩:=hI
   obtain⟨g34,e34,n34,m34,k34⟩:=(show PBox R (w.heap.size+1) #[.int .i64 0,.int .i64 0,.int .i64 0,.int .i64 0,.int .i64 0,.int .i64 0,.int .i64 0,.bool false,.int .i64 0,.int .i64 0] 24 (V 34) W from hP 34 (hA 34 (by decide)))
   obtain⟨s,t,k,z,q,l,e,b,v,r,e33⟩:=(show PJob (V 33) W from hP 33 (hA 33 (by decide)))
   have hcn:=cD L [1,4,7,11,16,20,23,27,31]
   simp only[List.length_cons,List.length_nil]at hcn
   obtain⟨x0,f0⟩:=ax (n:=0) k34 0
   obtain⟨x1,f1⟩:=ax (n:=0) k34 1
   obtain⟨x2,f2⟩:=ax (n:=0) k34 2
   obtain⟨x3,f3⟩:=ax (n:=0) k34 3
   obtain⟨x4,f4⟩:=ax (n:=0) k34 4
   obtain⟨x5,f5⟩:=ax (n:=0) k34 5
   obtain⟨x6,f6⟩:=ax (n:=0) k34 6
   obtain⟨x7,f7⟩:=ax (n:=0) k34 7
   obtain⟨x8,f8⟩:=ax (n:=0) k34 8
   obtain⟨x9,f9⟩:=ax (n:=0) k34 9
   simp only[gA,gZ,gS]at x0 x1 x2 x3 x4 x5 x6 x7 x8 x9
   go_simp
   refine hK.out _ _ ?_
   go_wp2
   go_meet
   refine⟨g34,s,t,k,z,q,l,e,b,v,r,rfl,by simp;omega,?_,?_,p',by omega,?_⟩
   ·exact blk10 k34
   ·exact(aj (aj (aj (aj (aj (aj (aj (aj (aj (aj hk (by omega) (oa)) (by omega) (oa)) (by omega) (oa)) (by omega) (oa)) (by omega) (oa)) (by omega) (oa)) (by omega) (oa)) (by omega) (oa)) (by omega) (oa)) (by omega) (oa))
   ·exact(ai (ai (ai (ai (ai (ai (ai (ai (ai (ai hd (by omega)) (by omega)) (by omega)) (by omega)) (by omega)) (by omega)) (by omega)) (by omega)) (by omega)) (by omega))
 case rest=>
  rename World=>wa
  obtain⟨B,s,t,k,z,q,l,e,b,v,r,rfl,hB,hX,hk,p',hp',hd⟩:=hcut
  have hB':w.heap.size+1≤B:=by simpa using hB
  clear hB
  have hlt:=ay hX
  have hres:wa.heap[w.heap.size]? =some (.cells #[.int .i64 0,.int .i64 0,.int .i64 0,.int .i64 0,.int .i64 0,.int .i64 0,.int .i64 0,.bool false,.int .i64 0,.int .i64 0] 24 (0,0)):=(hk.all _ (by simp) (by omega)).trans (heap_alloc_new _ _)
  obtain⟨x0,f0⟩:=ax (n:=0) hX 0
  obtain⟨x1,f1⟩:=ax (n:=0) hX 1
  obtain⟨x2,f2⟩:=ax (n:=0) hX 2
  obtain⟨x3,f3⟩:=ax (n:=0) hX 3
  obtain⟨x4,f4⟩:=ax (n:=0) hX 4
  obtain⟨x5,f5⟩:=ax (n:=0) hX 5
  obtain⟨x6,f6⟩:=ax (n:=0) hX 6
  obtain⟨x7,f7⟩:=ax (n:=0) hX 7
  obtain⟨x8,f8⟩:=ax (n:=0) hX 8
  obtain⟨x9,f9⟩:=ax (n:=0) hX 9
  obtain⟨y0,h0⟩:=ax (n:=0) hres 0
  obtain⟨y1,h1⟩:=ax (n:=0) hres 1
  obtain⟨y2,h2⟩:=ax (n:=0) hres 2
  obtain⟨y3,h3⟩:=ax (n:=0) hres 3
  obtain⟨y4,h4⟩:=ax (n:=0) hres 4
  obtain⟨y5,h5⟩:=ax (n:=0) hres 5
  obtain⟨y6,h6⟩:=ax (n:=0) hres 6
  obtain⟨y7,h7⟩:=ax (n:=0) hres 7
  obtain⟨y8,h8⟩:=ax (n:=0) hres 8
  obtain⟨y9,h9⟩:=ax (n:=0) hres 9
  simp only[gA,gZ,gS]at x0 x1 x2 x3 x4 x5 x6 x7 x8 x9 y0 y1 y2 y3 y4 y5 y6 y7 y8 y9
  have hne1:w.heap.size≠B:=by omega
  have hne2:B≠w.heap.size:=by omega
  have HX:=ae hX
  have HR:=ae hres
  clear hX hres
  by_cases hkd:k=2
  ·subst hkd
   go_wp2_with fail
   go_cut [3] (fun pv W=>JobB R (w.alloc (.cells #[.int .i64 0,.int .i64 0,.int .i64 0,.int .i64 0,.int .i64 0,.int .i64 0,.int .i64 0,.bool false,.int .i64 0,.int .i64 0] 24)) a len cap (p+2) pv W)
   case first=>
    have hst:kG R ([kF (.pointer (some ⟨B,3,none⟩)),kF (.int .i64 z),kF (.pointer (some ⟨R,0,none⟩)),cC 0 3,jZ,kF (.pointer (some ⟨R,0,none⟩)),cC 0 3,cC 1 4,jZ,kF (.pointer (some ⟨B,4,none⟩)),jZ]):=⟨fb _ _,fb _ _,fb _ _,cX _ _ _,lL _,fb _ _,cX _ _ _,cX _ _ _,lL _,fb _ _,lL _,trivial⟩
    have hRw:R<wa.heap.size:=by omega
    refine fP (oc) (oc) (oc) (aP R wa.heap.size a len cap p' wa ([kF (.pointer (some ⟨B,3,none⟩)),kF (.int .i64 z),kF (.pointer (some ⟨R,0,none⟩)),cC 0 3,jZ,kF (.pointer (some ⟨R,0,none⟩)),cC 0 3,cC 1 4,jZ,kF (.pointer (some ⟨B,4,none⟩)),jZ]) [3,6] (fun V=>#[.pointer (some ⟨R,0,none⟩),undef,.pointer (some ⟨w.heap.size,0,none⟩),.pointer (some ⟨B,0,none⟩),u4,u5,u6,u7,u8,u9,u10,u11,u12,u13,u14,u15,u16,u17,u18,u19,u20,u21,u22,u23,u24,u25,u26,u27,u28,u29,u30,u31,u32,u33,u34,u35,u36,u37,.pointer (some ⟨B,2,none⟩),.int .i64 2,.bool true,V 0,V 1,V 2,V 3,V 4,V 5,V 6,V 7,V 8,V 9,u51,u52,u53,u54,u55,u56,u57,u58,u59,u60,u61,u62,u63,u64,u65,u66,u67,u68,u69,u70,u71,u72,u73,u74]) []) ?_ ?_
    ·refine⟨fun j=>[u41,u42,u43,u44,u45,u46,u47,u48,u49,u50].getD j undef,rfl,?_,⟨(Below.refl _ _).drew,fun _ _ _=>rfl⟩,?_,?_,p',?_,?_⟩
     ·intro j hj
      exact absurd hj (by simp)
     ·simp
     ·omega
     ·omega
     ·exact⟨hd.1,hd.2,hd.3,hd.4,hd.5,hd.6,hd.7⟩
    refine⟨?_,?_,?_,?_,?_,?_,?_,?_,?_,?_,?_⟩
    ·intro L ac W hI hL hA K' hK
     obtain⟨V,rfl,hP,hk,hB,hR,hr⟩:=hI
     go_simp
     refine hK.out _ _ (aP.pure (i:=0) (.pointer (some ⟨B,3,none⟩)) hP hk hB hR hr rfl ?_)
     simp[ch]
    ·intro L ac W hI hL hA K' hK
     obtain⟨V,rfl,hP,hk,hB,hR,hr⟩:=hI
     have e0:V 0=(.pointer (some ⟨B,3,none⟩)):=hP 0 (hA ⟨0,.data⟩ (by simp) rfl)
     simp only[e0]
     have hc9:W.cell? ⟨B,3,none⟩=some (.int .i64 z):=(hk.cell hlt (by omega)).trans x3
     go_simp
     refine hK.out _ _ (aP.pure (i:=1) (.int .i64 z) hP hk hB hR hr rfl ?_)
     simp[ch,e0]
    ·intro L ac W hI hL hA K' hK
     obtain⟨V,rfl,hP,hk,hB,hR,hr⟩:=hI
     go_simp
     refine hK.out _ _ (aP.pure (i:=2) (.pointer (some ⟨R,0,none⟩)) hP hk hB hR hr rfl ?_)
     simp[ch]
    ·intro L ac W hI hL hA K' hK
     obtain⟨V,rfl,hP,hk,hB,hR,hr⟩:=hI
     have e2:V 2=(.pointer (some ⟨R,0,none⟩)):=hP 2 (hA ⟨2,.data⟩ (by simp) rfl)
     simp only[e2]
     obtain⟨p',hp',hd⟩:=hr
     have hlt:=dD (i:=3) hL [3,6] (by decide)
     have hcn:=cD L [3,6]
     simp only[List.length_cons,List.length_nil]at hcn
     go_simp
     (go_at_call 25;refine(aG R a len cap p' 4 W (by omega) (by omega) hd).mono ?_;rintro e' W' ⟨x,rfl,x0,x1,kW,rW⟩)
     (try go_wp2_with fail)
     refine hK.out _ _ (aP.drew (i:=3) (.int .i64 x) hst hP hk hB hR kW ⟨p'+1,by omega,rW (by omega)⟩ ⟨x,rfl,by omega,by omega⟩ ?_)
     simp[ch,e2]
    ·intro L ac W hI hL hA K' hK
     obtain⟨V,rfl,hP,hk,hB,hR,hr⟩:=hI
     have e1:V 1=(.int .i64 z):=hP 1 (hA ⟨1,.data⟩ (by simp) rfl)
     obtain⟨z3,e3,lo3,hi3⟩:=(show cC 0 3 (V 3) W from hP 3 (hA ⟨3,.data⟩ (by simp) rfl))
     simp only[e1,e3]
     go_simp
     refine hK.out _ _ (aP.pure (i:=4) (.int .i64 (IntKind.i64.wrap (z+z3))) hP hk hB hR hr ⟨_,rfl⟩ ?_)
     simp[ch,e1,e3]
    ·intro L ac W hI hL hA K' hK
     obtain⟨V,rfl,hP,hk,hB,hR,hr⟩:=hI
     go_simp
     refine hK.out _ _ (aP.pure (i:=5) (.pointer (some ⟨R,0,none⟩)) hP hk hB hR hr rfl ?_)
     simp[ch]
    ·intro L ac W hI hL hA K' hK
     obtain⟨V,rfl,hP,hk,hB,hR,hr⟩:=hI
     have e5:V 5=(.pointer (some ⟨R,0,none⟩)):=hP 5 (hA ⟨5,.data⟩ (by simp) rfl)
     simp only[e5]
     obtain⟨p',hp',hd⟩:=hr
     have hlt:=dD (i:=6) hL [3,6] (by decide)
     have hcn:=cD L [3,6]
     simp only[List.length_cons,List.length_nil]at hcn
     go_simp
     (go_at_call 25;refine(aG R a len cap p' 4 W (by omega) (by omega) hd).mono ?_;rintro e' W' ⟨x,rfl,x0,x1,kW,rW⟩)
     (try go_wp2_with fail)
     refine hK.out _ _ (aP.drew (i:=6) (.int .i64 x) hst hP hk hB hR kW ⟨p'+1,by omega,rW (by omega)⟩ ⟨x,rfl,by omega,by omega⟩ ?_)
     simp[ch,e5]
    ·intro L ac W hI hL hA K' hK
     obtain⟨V,rfl,hP,hk,hB,hR,hr⟩:=hI
     obtain⟨z6,e6,lo6,hi6⟩:=(show cC 0 3 (V 6) W from hP 6 (hA ⟨6,.data⟩ (by simp) rfl))
     simp only[e6]
     have hw9:IntKind.i64.wrap (1+z6)=1+z6:=by rw[IntKind.wrap_i64];omega
     go_simp
     (try rw[hw9])
     refine hK.out _ _ (aP.pure (i:=7) (.int .i64 (1+z6)) hP hk hB hR hr ⟨_,rfl,by omega,by omega⟩ ?_)
     simp[ch,e6]
    ·intro L ac W hI hL hA K' hK
     obtain⟨V,rfl,hP,hk,hB,hR,hr⟩:=hI
     obtain⟨z4,e4⟩:=(show jZ (V 4) W from hP 4 (hA ⟨4,.data⟩ (by simp) rfl))
     obtain⟨z7,e7,lo7,hi7⟩:=(show cC 1 4 (V 7) W from hP 7 (hA ⟨7,.data⟩ (by simp) rfl))
     simp only[e4,e7]
     have hz9:¬ z7=0:=by omega
     go_simp
     refine hK.out _ _ (aP.pure (i:=8) (.int .i64 (IntKind.i64.wrap (z4.tdiv z7))) hP hk hB hR hr ⟨_,rfl⟩ ?_)
     simp[ch,e4,e7]
    ·intro L ac W hI hL hA K' hK
     obtain⟨V,rfl,hP,hk,hB,hR,hr⟩:=hI
     go_simp
     refine hK.out _ _ (aP.pure (i:=9) (.pointer (some ⟨B,4,none⟩)) hP hk hB hR hr rfl ?_)
     simp[ch]
    ·intro L ac W hI hA K' hK
     obtain⟨V,rfl,hP,hk3,hB3,hR3,p3,hp3,hd3⟩:=hI
     obtain⟨z8,e8⟩:=(show jZ (V 8) W from hP 8 (hA 8 (by decide)))
     have e9:V 9= .pointer (some ⟨B,4,none⟩):=hP 9 (hA 9 (by decide))
     have hcn:=cD L [3,6]
     simp only[List.length_cons,List.length_nil]at hcn
     have hX3:W.heap[B]? =_:=(hk3.all B hlt (by omega)).trans (ab HX)
     obtain⟨c4,d4⟩:=ax (n:=0) hX3 4
     simp only[gA,gZ,gS]at c4
     simp only[e8,e9]
     go_simp
     refine hK.out _ _ ?_
     go_wp2
     go_meet
     refine⟨B,s,t,2,z,z8,l,e,b,v,r,rfl,by simp;omega,Joins.block_setCell hX3 _,aj (hk.trans hk3) (by omega) (oa),p3,by omega,ai hd3 (by omega)⟩
   case rest=>
    rename World=>wb
    clear x0 x1 x2 x3 x4 x5 x6 x7 x8 x9 y0 y1 y2 y3 y4 y5 y6 y7 y8 y9 f0 f1 f2 f3 f4 f5 f6 f7 f8 f9 h0 h1 h2 h3 h4 h5 h6 h7 h8 h9
    obtain⟨B,s,t,k,z,q,l,e,b,v,r,rfl,hB,hX,hk,p',hp',hd⟩:=hcut
    have hB':w.heap.size+1≤B:=by simpa using hB
    clear hB
    have hlt:=ay hX
    have hres:wb.heap[w.heap.size]? =some (.cells #[.int .i64 0,.int .i64 0,.int .i64 0,.int .i64 0,.int .i64 0,.int .i64 0,.int .i64 0,.bool false,.int .i64 0,.int .i64 0] 24 (0,0)):=(hk.all _ (by simp) (by omega)).trans (heap_alloc_new _ _)
    obtain⟨x0,f0⟩:=ax (n:=0) hX 0
    obtain⟨x1,f1⟩:=ax (n:=0) hX 1
    obtain⟨x2,f2⟩:=ax (n:=0) hX 2
    obtain⟨x3,f3⟩:=ax (n:=0) hX 3
    obtain⟨x4,f4⟩:=ax (n:=0) hX 4
    obtain⟨x5,f5⟩:=ax (n:=0) hX 5
    obtain⟨x6,f6⟩:=ax (n:=0) hX 6
    obtain⟨x7,f7⟩:=ax (n:=0) hX 7
    obtain⟨x8,f8⟩:=ax (n:=0) hX 8
    obtain⟨x9,f9⟩:=ax (n:=0) hX 9
    obtain⟨y0,h0⟩:=ax (n:=0) hres 0
    obtain⟨y1,h1⟩:=ax (n:=0) hres 1
    obtain⟨y2,h2⟩:=ax (n:=0) hres 2
    obtain⟨y3,h3⟩:=ax (n:=0) hres 3
    obtain⟨y4,h4⟩:=ax (n:=0) hres 4
    obtain⟨y5,h5⟩:=ax (n:=0) hres 5
    obtain⟨y6,h6⟩:=ax (n:=0) hres 6
    obtain⟨y7,h7⟩:=ax (n:=0) hres 7
    obtain⟨y8,h8⟩:=ax (n:=0) hres 8
    obtain⟨y9,h9⟩:=ax (n:=0) hres 9
    simp only[gA,gZ,gS]at x0 x1 x2 x3 x4 x5 x6 x7 x8 x9 y0 y1 y2 y3 y4 y5 y6 y7 y8 y9
    have hne1:w.heap.size≠B:=by omega
    have hne2:B≠w.heap.size:=by omega
    have HX:=ae hX
    have HR:=ae hres
    clear hX hres
    have fin:∀(q':Int) (W:World),Kp R w W→Rd R W a len cap p'→JobP R w a len cap p (.returned (.agg #[.int .i64 s,.int .i64 t,.int .i64 k,.int .i64 z,.int .i64 q',.int .i64 l,.int .i64 e,.bool b,.int .i64 v,.int .i64 r])) W:=fun q' W h1 h2=>⟨s,t,k,z,q',l,e,b,v,r,rfl,h1,p',by omega,h2⟩
    have hkw:Kp R w wb:=(Kp.of_bel (Nat.le_of_lt hR0) (aq w _)).trans hk
    by_cases c1:q<1
    ·go_wp2
     refine bodyPost_ret (v:= .agg #[.int .i64 s,.int .i64 t,.int .i64 k,.int .i64 z,.int .i64 (wrap64 ((wrap64 (z+1)).tdiv 2)),.int .i64 l,.int .i64 e,.bool b,.int .i64 v,.int .i64 r]) (np) rfl ?_
     exact fin _ _ (aj (aj (aj (aj (aj (aj (aj (aj (aj (aj (aj (o:=4) (B:=B) hkw (by omega) (by omega)) hR0 (Nat.le_refl _)) hR0 (Nat.le_refl _)) hR0 (Nat.le_refl _)) hR0 (Nat.le_refl _)) hR0 (Nat.le_refl _)) hR0 (Nat.le_refl _)) hR0 (Nat.le_refl _)) hR0 (Nat.le_refl _)) hR0 (Nat.le_refl _)) hR0 (Nat.le_refl _)) (ai (ai (ai (ai (ai (ai (ai (ai (ai (ai (ai (o:=4) (B:=B) hd (by omega)) hR0) hR0) hR0) hR0) hR0) hR0) hR0) hR0) hR0) hR0)
    ·by_cases c2:wrap64 (4*q)<z
     ·go_wp2
      refine bodyPost_ret (v:= .agg #[.int .i64 s,.int .i64 t,.int .i64 k,.int .i64 z,.int .i64 (wrap64 ((wrap64 (z+1)).tdiv 2)),.int .i64 l,.int .i64 e,.bool b,.int .i64 v,.int .i64 r]) (np) rfl ?_
      exact fin _ _ (aj (aj (aj (aj (aj (aj (aj (aj (aj (aj (aj (o:=4) (B:=B) hkw (by omega) (by omega)) hR0 (Nat.le_refl _)) hR0 (Nat.le_refl _)) hR0 (Nat.le_refl _)) hR0 (Nat.le_refl _)) hR0 (Nat.le_refl _)) hR0 (Nat.le_refl _)) hR0 (Nat.le_refl _)) hR0 (Nat.le_refl _)) hR0 (Nat.le_refl _)) hR0 (Nat.le_refl _)) (ai (ai (ai (ai (ai (ai (ai (ai (ai (ai (ai (o:=4) (B:=B) hd (by omega)) hR0) hR0) hR0) hR0) hR0) hR0) hR0) hR0) hR0) hR0)
     ·by_cases c3:z<q
      ·go_wp2
       refine bodyPost_ret (v:= .agg #[.int .i64 s,.int .i64 t,.int .i64 k,.int .i64 z,.int .i64 (wrap64 ((wrap64 (z+1)).tdiv 2)),.int .i64 l,.int .i64 e,.bool b,.int .i64 v,.int .i64 r]) (np) rfl ?_
       exact fin _ _ (aj (aj (aj (aj (aj (aj (aj (aj (aj (aj (aj (o:=4) (B:=B) hkw (by omega) (by omega)) hR0 (Nat.le_refl _)) hR0 (Nat.le_refl _)) hR0 (Nat.le_refl _)) hR0 (Nat.le_refl _)) hR0 (Nat.le_refl _)) hR0 (Nat.le_refl _)) hR0 (Nat.le_refl _)) hR0 (Nat.le_refl _)) hR0 (Nat.le_refl _)) hR0 (Nat.le_refl _)) (ai (ai (ai (ai (ai (ai (ai (ai (ai (ai (ai (o:=4) (B:=B) hd (by omega)) hR0) hR0) hR0) hR0) hR0) hR0) hR0) hR0) hR0) hR0)
      ·go_wp2
       refine bodyPost_ret (v:= .agg #[.int .i64 s,.int .i64 t,.int .i64 k,.int .i64 z,.int .i64 q,.int .i64 l,.int .i64 e,.bool b,.int .i64 v,.int .i64 r]) (np) rfl ?_
       exact fin q _ (aj (aj (aj (aj (aj (aj (aj (aj (aj (aj hkw hR0 (Nat.le_refl _)) hR0 (Nat.le_refl _)) hR0 (Nat.le_refl _)) hR0 (Nat.le_refl _)) hR0 (Nat.le_refl _)) hR0 (Nat.le_refl _)) hR0 (Nat.le_refl _)) hR0 (Nat.le_refl _)) hR0 (Nat.le_refl _)) hR0 (Nat.le_refl _)) (ai (ai (ai (ai (ai (ai (ai (ai (ai (ai hd hR0) hR0) hR0) hR0) hR0) hR0) hR0) hR0) hR0) hR0)
  ·go_wp2
   refine bodyPost_ret (v:= .agg #[.int .i64 s,.int .i64 t,.int .i64 k,.int .i64 z,.int .i64 q,.int .i64 l,.int .i64 e,.bool b,.int .i64 v,.int .i64 r]) (np) rfl ?_
   exact⟨s,t,k,z,q,l,e,b,v,r,rfl,(aj (aj (aj (aj (aj (aj (aj (aj (aj (aj ((Kp.of_bel (Nat.le_of_lt hR0) (aq w _)).trans hk) hR0 (Nat.le_refl _)) hR0 (Nat.le_refl _)) hR0 (Nat.le_refl _)) hR0 (Nat.le_refl _)) hR0 (Nat.le_refl _)) hR0 (Nat.le_refl _)) hR0 (Nat.le_refl _)) hR0 (Nat.le_refl _)) hR0 (Nat.le_refl _)) hR0 (Nat.le_refl _)),p',by omega,(ai (ai (ai (ai (ai (ai (ai (ai (ai (ai hd hR0) hR0) hR0) hR0) hR0) hR0) hR0) hR0) hR0) hR0)⟩
end Go.Proofs.YtdmhihcipkhecaaGreat
