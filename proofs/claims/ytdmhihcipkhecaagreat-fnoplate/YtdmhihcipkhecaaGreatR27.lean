/- Laid together: what the claim needs of the texts that were built one by one. -/
import Derived.Test.YtdmhihcipkhecaaGreatR25
import Derived.Test.YtdmhihcipkhecaaGreatR26
import Derived.Deep.DeepCutAuto
import Derived.Test.YtdmhihcipkhecaaGreatR0
import Derived.Test.YtdmhihcipkhecaaGreatR5
set_option linter.unusedVariables false
namespace Go.Proofs.YtdmhihcipkhecaaGreat
open Go.ChangeShapes Go.WideShapes Go.ChangeAt Go.RowKit Go.Shelf Go.Maps Go.Deep
set_option linter.unusedSimpArgs false
def DrawOpP(w:World)(e':Ending)(w':World):Prop:=∃(s t k z q l e:Int) (b:Bool) (v r m:Int) (au:Option Addr) (cu:Nat) (xs:List aD) (x1 x2 x3 x4 x5:Int),e'= .returned (.tuple #[.agg #[.int .i64 s,.int .i64 t,.int .i64 k,.int .i64 z,.int .i64 q,.int .i64 l,.int .i64 e,.bool b,.int .i64 v,.int .i64 r],.agg #[.int .i64 m,.slice au xs.length cu],.agg #[.int .i64 x1,.int .i64 x2,.int .i64 x3,.int .i64 x4,.int .i64 x5]])∧aT w' w.heap.size (.slice au xs.length cu) xs∧xs.length≤401∧(-1≤m∧m≤1001)∧Below w.heap.size w w'
/-- What is drawn, and the results' boxes. -/
structure iL(R:Nat)(w W:World)(XJ XS XX:Nat)(s t k z q l e:Int)(b:Bool)(v r:Int)(m:Int)(au:Option Addr)(cu:Nat)(xs:List aD)(x1 x2 x3 x4 x5:Int)(cj cs cx:Array Value):Prop where
 ZJ:W.heap[w.heap.size]? =some (.cells cj 24 (0,0))
 ZS:W.heap[w.heap.size+1]? =some (.cells cs 27 (0,0))
 ZX:W.heap[w.heap.size+1+1]? =some (.cells cx 29 (0,0))
 J:W.heap[XJ]? =some (.cells #[.int .i64 s,.int .i64 t,.int .i64 k,.int .i64 z,.int .i64 q,.int .i64 l,.int .i64 e,.bool b,.int .i64 v,.int .i64 r] 24 (0,0))
 S:W.heap[XS]? =some (.cells #[.int .i64 m,.slice au xs.length cu] 27 (0,0))
 X:W.heap[XX]? =some (.cells #[.int .i64 x1,.int .i64 x2,.int .i64 x3,.int .i64 x4,.int .i64 x5] 29 (0,0))
 nR:w.heap.size+1+1<R
 nJ:R<XJ
 nS:R<XS
 nX:R<XX
 O:aT W (R+1) (.slice au xs.length cu) xs
 L:Below w.heap.size w W
theorem iL.kp{R XJ XS XX:Nat}{w W:World}{s t k z q l e:Int}{b:Bool}{v r m:Int}{au:Option Addr}{cu:Nat}{xs:List aD}{x1 x2 x3 x4 x5:Int}{cj cs cx:Array Value}{W2:World}(h:iL R w W XJ XS XX s t k z q l e b v r m au cu xs x1 x2 x3 x4 x5 cj cs cx)(k9:Kp R W W2):iL R w W2 XJ XS XX s t k z q l e b v r m au cu xs x1 x2 x3 x4 x5 cj cs cx:=
 ⟨(k9.all _ (aE h.ZJ) (by have:=h.nR;omega)).trans h.ZJ,(k9.all _ (aE h.ZS) (by have:=h.nR;omega)).trans h.ZS,(k9.all _ (aE h.ZX) (by have:=h.nR;omega)).trans h.ZX,(k9.all _ (aE h.J) (by have:=h.nJ;omega)).trans h.J,(k9.all _ (aE h.S) (by have:=h.nS;omega)).trans h.S,(k9.all _ (aE h.X) (by have:=h.nX;omega)).trans h.X,h.nR,h.nJ,h.nS,h.nX,kF h.O k9 (by omega),h.L.trans (k9.low.mono (by have:=h.nR;omega))⟩
theorem iL.bel{R XJ XS XX:Nat}{w W:World}{s t k z q l e:Int}{b:Bool}{v r m:Int}{au:Option Addr}{cu:Nat}{xs:List aD}{x1 x2 x3 x4 x5:Int}{cj cs cx:Array Value}{W2:World}(h:iL R w W XJ XS XX s t k z q l e b v r m au cu xs x1 x2 x3 x4 x5 cj cs cx)(hb:Below W.heap.size W W2):iL R w W2 XJ XS XX s t k z q l e b v r m au cu xs x1 x2 x3 x4 x5 cj cs cx:=
 h.kp (Kp.of_bel (by have:=aE h.J;have:=h.nJ;omega) hb)
theorem iL.setZJ{R XJ XS XX:Nat}{w W:World}{s t k z q l e:Int}{b:Bool}{v r m:Int}{au:Option Addr}{cu:Nat}{xs:List aD}{x1 x2 x3 x4 x5:Int}{cj cs cx:Array Value}{c9:Array Value}(h:iL R w W XJ XS XX s t k z q l e b v r m au cu xs x1 x2 x3 x4 x5 cj cs cx)(o:Nat)(u:Value)(hx:cj.setIfInBounds o u=c9):iL R w (W.setCell ⟨w.heap.size,o,none⟩ u) XJ XS XX s t k z q l e b v r m au cu xs x1 x2 x3 x4 x5 c9 cs cx:=
 ⟨by have h9:=Joins.block_setCell (i:=o) h.ZJ u;rw[hx]at h9;exact h9,(Below.heap_setCell _ _ _ _ (by have:=h.nR;have:=h.nJ;have:=h.nS;have:=h.nX;show _≠w.heap.size;omega)).trans h.ZS,(Below.heap_setCell _ _ _ _ (by have:=h.nR;have:=h.nJ;have:=h.nS;have:=h.nX;show _≠w.heap.size;omega)).trans h.ZX,(Below.heap_setCell _ _ _ _ (by have:=h.nR;have:=h.nJ;have:=h.nS;have:=h.nX;show _≠w.heap.size;omega)).trans h.J,(Below.heap_setCell _ _ _ _ (by have:=h.nR;have:=h.nJ;have:=h.nS;have:=h.nX;show _≠w.heap.size;omega)).trans h.S,(Below.heap_setCell _ _ _ _ (by have:=h.nR;have:=h.nJ;have:=h.nS;have:=h.nX;show _≠w.heap.size;omega)).trans h.X,h.nR,h.nJ,h.nS,h.nX,am h.O (af h.O h.ZJ (by decide)),av h.L (by show w.heap.size≤w.heap.size;omega) _⟩
theorem iL.setZS{R XJ XS XX:Nat}{w W:World}{s t k z q l e:Int}{b:Bool}{v r m:Int}{au:Option Addr}{cu:Nat}{xs:List aD}{x1 x2 x3 x4 x5:Int}{cj cs cx:Array Value}{c9:Array Value}(h:iL R w W XJ XS XX s t k z q l e b v r m au cu xs x1 x2 x3 x4 x5 cj cs cx)(o:Nat)(u:Value)(hx:cs.setIfInBounds o u=c9):iL R w (W.setCell ⟨w.heap.size+1,o,none⟩ u) XJ XS XX s t k z q l e b v r m au cu xs x1 x2 x3 x4 x5 cj c9 cx:=
 ⟨(Below.heap_setCell _ _ _ _ (by have:=h.nR;have:=h.nJ;have:=h.nS;have:=h.nX;show _≠w.heap.size+1;omega)).trans h.ZJ,by have h9:=Joins.block_setCell (i:=o) h.ZS u;rw[hx]at h9;exact h9,(Below.heap_setCell _ _ _ _ (by have:=h.nR;have:=h.nJ;have:=h.nS;have:=h.nX;show _≠w.heap.size+1;omega)).trans h.ZX,(Below.heap_setCell _ _ _ _ (by have:=h.nR;have:=h.nJ;have:=h.nS;have:=h.nX;show _≠w.heap.size+1;omega)).trans h.J,(Below.heap_setCell _ _ _ _ (by have:=h.nR;have:=h.nJ;have:=h.nS;have:=h.nX;show _≠w.heap.size+1;omega)).trans h.S,(Below.heap_setCell _ _ _ _ (by have:=h.nR;have:=h.nJ;have:=h.nS;have:=h.nX;show _≠w.heap.size+1;omega)).trans h.X,h.nR,h.nJ,h.nS,h.nX,am h.O (af h.O h.ZS (by decide)),av h.L (by show w.heap.size≤w.heap.size+1;omega) _⟩
theorem iL.setZX{R XJ XS XX:Nat}{w W:World}{s t k z q l e:Int}{b:Bool}{v r m:Int}{au:Option Addr}{cu:Nat}{xs:List aD}{x1 x2 x3 x4 x5:Int}{cj cs cx:Array Value}{c9:Array Value}(h:iL R w W XJ XS XX s t k z q l e b v r m au cu xs x1 x2 x3 x4 x5 cj cs cx)(o:Nat)(u:Value)(hx:cx.setIfInBounds o u=c9):iL R w (W.setCell ⟨w.heap.size+1+1,o,none⟩ u) XJ XS XX s t k z q l e b v r m au cu xs x1 x2 x3 x4 x5 cj cs c9:=
 ⟨(Below.heap_setCell _ _ _ _ (by have:=h.nR;have:=h.nJ;have:=h.nS;have:=h.nX;show _≠w.heap.size+1+1;omega)).trans h.ZJ,(Below.heap_setCell _ _ _ _ (by have:=h.nR;have:=h.nJ;have:=h.nS;have:=h.nX;show _≠w.heap.size+1+1;omega)).trans h.ZS,by have h9:=Joins.block_setCell (i:=o) h.ZX u;rw[hx]at h9;exact h9,(Below.heap_setCell _ _ _ _ (by have:=h.nR;have:=h.nJ;have:=h.nS;have:=h.nX;show _≠w.heap.size+1+1;omega)).trans h.J,(Below.heap_setCell _ _ _ _ (by have:=h.nR;have:=h.nJ;have:=h.nS;have:=h.nX;show _≠w.heap.size+1+1;omega)).trans h.S,(Below.heap_setCell _ _ _ _ (by have:=h.nR;have:=h.nJ;have:=h.nS;have:=h.nX;show _≠w.heap.size+1+1;omega)).trans h.X,h.nR,h.nJ,h.nS,h.nX,am h.O (af h.O h.ZX (by decide)),av h.L (by show w.heap.size≤w.heap.size+1+1;omega) _⟩
theorem iL.setX{R XJ XS XX:Nat}{w W:World}{s t k z q l e:Int}{b:Bool}{v r m:Int}{au:Option Addr}{cu:Nat}{xs:List aD}{x1 x2 x3 x4 x5:Int}{cj cs cx:Array Value}{y1 y2 y3 y4 y5:Int}(h:iL R w W XJ XS XX s t k z q l e b v r m au cu xs x1 x2 x3 x4 x5 cj cs cx)(o:Nat)(u:Value)(hx:(#[.int .i64 x1,.int .i64 x2,.int .i64 x3,.int .i64 x4,.int .i64 x5]:Array Value).setIfInBounds o u=#[.int .i64 y1,.int .i64 y2,.int .i64 y3,.int .i64 y4,.int .i64 y5])(hJ:XJ≠XX)(hS:XS≠XX):iL R w (W.setCell ⟨XX,o,none⟩ u) XJ XS XX s t k z q l e b v r m au cu xs y1 y2 y3 y4 y5 cj cs cx:=
 ⟨(Below.heap_setCell _ _ _ _ (by have:=h.nR;have:=h.nX;show _≠XX;omega)).trans h.ZJ,(Below.heap_setCell _ _ _ _ (by have:=h.nR;have:=h.nX;show _≠XX;omega)).trans h.ZS,(Below.heap_setCell _ _ _ _ (by have:=h.nR;have:=h.nX;show _≠XX;omega)).trans h.ZX,(Below.heap_setCell _ _ _ _ hJ).trans h.J,(Below.heap_setCell _ _ _ _ hS).trans h.S,by have h9:=Joins.block_setCell (i:=o) h.X u;rw[hx]at h9;exact h9,h.nR,h.nJ,h.nS,h.nX,am h.O (af h.O h.X (by decide)),av h.L (by have:=h.nR;have:=h.nX;show w.heap.size≤XX;omega) _⟩
set_option maxRecDepth 100000 in
set_option maxHeartbeats 16000000 in
theorem drawop_any(a:Option Addr)(len cap:Nat)(w:World)(hlc:len≤cap)(hm:len≤1048576)(hb:db w a len)(hl:∀g o,a=some ⟨g,o,none⟩→0<len→g<w.heap.size)(hn:a=none→cap=0):Calls Tryz.prog 7 #[.slice a len cap] w fun e' w'=>DrawOpP w e' w':=by
 have hbA:Below w.heap.size w (((w.alloc (.cells #[.int .i64 0,.int .i64 0,.int .i64 0,.int .i64 0,.int .i64 0,.int .i64 0,.int .i64 0,.bool false,.int .i64 0,.int .i64 0] 24)).alloc (.cells #[.int .i64 0,.slice none 0 0] 27)).alloc (.cells #[.int .i64 0,.int .i64 0,.int .i64 0,.int .i64 0,.int .i64 0] 29)):=ag (ag (ay _ _) _) _
 have eJ:(((w.alloc (.cells #[.int .i64 0,.int .i64 0,.int .i64 0,.int .i64 0,.int .i64 0,.int .i64 0,.int .i64 0,.bool false,.int .i64 0,.int .i64 0] 24)).alloc (.cells #[.int .i64 0,.slice none 0 0] 27)).alloc (.cells #[.int .i64 0,.int .i64 0,.int .i64 0,.int .i64 0,.int .i64 0] 29)).heap[w.heap.size]? =some (.cells #[.int .i64 0,.int .i64 0,.int .i64 0,.int .i64 0,.int .i64 0,.int .i64 0,.int .i64 0,.bool false,.int .i64 0,.int .i64 0] 24 (0,0)):=aN<|aN<|nA
 have eS:(((w.alloc (.cells #[.int .i64 0,.int .i64 0,.int .i64 0,.int .i64 0,.int .i64 0,.int .i64 0,.int .i64 0,.bool false,.int .i64 0,.int .i64 0] 24)).alloc (.cells #[.int .i64 0,.slice none 0 0] 27)).alloc (.cells #[.int .i64 0,.int .i64 0,.int .i64 0,.int .i64 0,.int .i64 0] 29)).heap[w.heap.size+1]? =some (.cells #[.int .i64 0,.slice none 0 0] 27 (0,0)):=aN<|nA
 have eX:(((w.alloc (.cells #[.int .i64 0,.int .i64 0,.int .i64 0,.int .i64 0,.int .i64 0,.int .i64 0,.int .i64 0,.bool false,.int .i64 0,.int .i64 0] 24)).alloc (.cells #[.int .i64 0,.slice none 0 0] 27)).alloc (.cells #[.int .i64 0,.int .i64 0,.int .i64 0,.int .i64 0,.int .i64 0] 29)).heap[w.heap.size+1+1]? =some (.cells #[.int .i64 0,.int .i64 0,.int .i64 0,.int .i64 0,.int .i64 0] 29 (0,0)):=nA
 have hz3:(((w.alloc (.cells #[.int .i64 0,.int .i64 0,.int .i64 0,.int .i64 0,.int .i64 0,.int .i64 0,.int .i64 0,.bool false,.int .i64 0,.int .i64 0] 24)).alloc (.cells #[.int .i64 0,.slice none 0 0] 27)).alloc (.cells #[.int .i64 0,.int .i64 0,.int .i64 0,.int .i64 0,.int .i64 0] 29)).heap.size=w.heap.size+3:=by simp
 go_enter Tryz.func7,Tryz.ntmps7
 go_wp2_with fail
 refine(open_any a len cap _ hlc hm (hb.bel hl hbA) (fun g o h1 h2=>Nat.lt_of_lt_of_le (hl g o h1 h2) hbA.size) hn).mono ?_
 rintro e' w1 ⟨R,ln,cp,rfl,hR1,hR2,hb1,hrd⟩
 rw[hz3]at hR1
 have fJ:=(hb1.block w.heap.size (by rw[hz3];omega)).trans eJ
 have fS:=(hb1.block (w.heap.size+1) (by rw[hz3];omega)).trans eS
 have fX:=(hb1.block (w.heap.size+1+1) (by rw[hz3];omega)).trans eX
 have hL:=ae (ap hbA hb1)
 clear hb hl hn eJ eS eX hb1 hbA hz3
 go_wp2_with fail
 refine(anyop_any R a ln cp 0 16 _ (by decide) (by decide) (by omega) hR2 hrd).mono ?_
 rintro e' w2 ⟨s,t,k,z,q,l,e,b,v,r,m,au,cu,xs,rfl,hO,hx,hmb,k9,p2,hp2,r2⟩
 have gJ:=(k9.all w.heap.size (by omega) (by omega)).trans fJ
 have gS:=(k9.all (w.heap.size+1) (by omega) (by omega)).trans fS
 have gX:=(k9.all (w.heap.size+1+1) (by omega) (by omega)).trans fX
 have hL2:Hid (Below w.heap.size w w2):=ae ((ab hL).trans (k9.low.mono (by omega)))
 have z2:=k9.low.size
 have HO:=ae (World.ownsRow.mono hO (show R+1≤w1.heap.size by omega))
 have HG:=ae gJ
 have HG2:=ae gS
 have HG3:=ae gX
 have HDr:=ae r2
 have HZJ:=ae ((Below.heap_alloc (w2.alloc (.cells #[.int .i64 s,.int .i64 t,.int .i64 k,.int .i64 z,.int .i64 q,.int .i64 l,.int .i64 e,.bool b,.int .i64 v,.int .i64 r] 24)) (.cells #[.int .i64 m,.slice au xs.length cu] 27) w2.heap.size (by simp)).trans (World.alloc_heap_new w2 (.cells #[.int .i64 s,.int .i64 t,.int .i64 k,.int .i64 z,.int .i64 q,.int .i64 l,.int .i64 e,.bool b,.int .i64 v,.int .i64 r] 24)))
 have HZS:=ae (show((w2.alloc (.cells #[.int .i64 s,.int .i64 t,.int .i64 k,.int .i64 z,.int .i64 q,.int .i64 l,.int .i64 e,.bool b,.int .i64 v,.int .i64 r] 24)).alloc (.cells #[.int .i64 m,.slice au xs.length cu] 27)).heap[w2.heap.size+1]? =some (.cells #[.int .i64 m,.slice au xs.length cu] 27 (0,0))from nA)
 clear hrd fJ fS fX hL k9 r2 gJ gS gX hO
 go_wp2_with fail
 have hzz:((w2.alloc (.cells #[.int .i64 s,.int .i64 t,.int .i64 k,.int .i64 z,.int .i64 q,.int .i64 l,.int .i64 e,.bool b,.int .i64 v,.int .i64 r] 24)).alloc (.cells #[.int .i64 m,.slice au xs.length cu] 27)).heap.size=w2.heap.size+2:=by simp
 have hb3:Below w2.heap.size w2 ((w2.alloc (.cells #[.int .i64 s,.int .i64 t,.int .i64 k,.int .i64 z,.int .i64 q,.int .i64 l,.int .i64 e,.bool b,.int .i64 v,.int .i64 r] 24)).alloc (.cells #[.int .i64 m,.slice au xs.length cu] 27)):=ag (ay _ _) _
 refine(mx R a ln cp p2 _ (by omega) (by rw[hzz];omega) ((ab HDr).kp (by omega) hb3)).mono ?_
 rintro e' w4 ⟨T,K,V,rfl,hT,hK,hV,k9,r9⟩
 have iJ:=(k9.all w2.heap.size (by rw[hzz];omega) (by omega)).trans (ab HZJ)
 have iS:=(k9.all (w2.heap.size+1) (by rw[hzz];omega) (by omega)).trans (ab HZS)
 have z4:=k9.low.size
 rw[hzz]at z4
 have k24:Kp R w2 w4:=(Kp.of_bel (by omega) hb3).trans k9
 have HJ4:=ae iJ
 have HS4:=ae iS
 have HK4:=ae k24
 have HD4:=ae r9
 have HX4:=ae (World.alloc_heap_new w4 (.cells #[.int .i64 1,.int .i64 T,.int .i64 K,.int .i64 V,.int .i64 0] 29))
 clear k9 r9 iJ iS k24 HZJ HZS hb3 hzz HDr
 go_wp2_with fail
 have HI:Hid (iL R w (w4.alloc (.cells #[.int .i64 1,.int .i64 T,.int .i64 K,.int .i64 V,.int .i64 0] 29)) w2.heap.size (w2.heap.size+1) w4.heap.size s t k z q l e b v r m au cu xs 1 T K V 0 #[.int .i64 0,.int .i64 0,.int .i64 0,.int .i64 0,.int .i64 0,.int .i64 0,.int .i64 0,.bool false,.int .i64 0,.int .i64 0] #[.int .i64 0,.slice none 0 0] #[.int .i64 0,.int .i64 0,.int .i64 0,.int .i64 0,.int .i64 0]):=ae (by
  have k4:=ab HK4
  have kA:=aZ (show R<w2.heap.size by omega) k4 (.cells #[.int .i64 1,.int .i64 T,.int .i64 K,.int .i64 V,.int .i64 0] 29)
  exact⟨(kA.all _ (by omega) (by omega)).trans (ab HG),(kA.all _ (by omega) (by omega)).trans (ab HG2),(kA.all _ (by omega) (by omega)).trans (ab HG3),(Below.heap_alloc w4 _ _ (by omega)).trans (ab HJ4),(Below.heap_alloc w4 _ _ (by omega)).trans (ab HS4),ab HX4,by omega,by omega,by omega,by omega,kF (ab HO) kA (by omega),(ab hL2).trans (kA.low.mono (by omega))⟩)
 have HD:=ae ((ab HD4).kp (show R<w4.heap.size by omega) (ay w4 (.cells #[.int .i64 1,.int .i64 T,.int .i64 K,.int .i64 V,.int .i64 0] 29)))
 have nJX:w2.heap.size≠w4.heap.size:=by omega
 have nSX:w2.heap.size+1≠w4.heap.size:=by omega
 have nJS:w2.heap.size≠w2.heap.size+1:=by omega
 clear HG HG2 HG3 HO hL2 HJ4 HS4 HK4 HD4 HX4
 generalize w4.alloc (.cells #[.int .i64 1,.int .i64 T,.int .i64 K,.int .i64 V,.int .i64 0] 29)=w5 at HI HD ⊢
 have hRX:=(ab HI).nX
 have hRS:=(ab HI).nS
 clear z4 z2 hR1 hR2
 generalize w4.heap.size=XX at HI nJX nSX hRX ⊢
 generalize w2.heap.size+1=XS at HI nSX nJS hRS ⊢
 generalize w2.heap.size=XJ at HI nJX nJS ⊢
 refine(aI R a ln cp (p2+4) 2 _ (by decide) (by decide) (ab HD)).mono ?_
 rintro e' w6 ⟨K2,rfl,K2l,K2u,k9,r9⟩
 have H6:=ae ((ab HI).kp k9)
 have D6:=ae (r9 (by omega))
 clear HI HD k9 r9
 obtain⟨xc0,xc1,xc2,xc3,xc4⟩:=c5 (ab H6).X
 obtain⟨xf0,xf1,xf2,xf3,xf4⟩:=f5 (ab H6).X
 have xz:XX<w6.heap.size:=aE (ab H6).X
 go_wp2_with fail
 clear xc0 xf0 xc1 xf1 xc2 xf2 xc3 xf3 xc4 xf4 xz
 have H7:Hid (iL R w (w6.setCell ⟨XX,2,none⟩ (.int .i64 K2)) XJ XS XX s t k z q l e b v r m au cu xs 1 T K2 V 0 #[.int .i64 0,.int .i64 0,.int .i64 0,.int .i64 0,.int .i64 0,.int .i64 0,.int .i64 0,.bool false,.int .i64 0,.int .i64 0] #[.int .i64 0,.slice none 0 0] #[.int .i64 0,.int .i64 0,.int .i64 0,.int .i64 0,.int .i64 0]):=ae ((ab H6).setX 2 (.int .i64 K2) rfl nJX nSX)
 have D7:=ae (aj (o:=2) (v:= .int .i64 K2) (ab D6) hRX)
 clear H6 D6
 generalize w6.setCell ⟨XX,2,none⟩ (.int .i64 K2)=w7 at H7 D7 ⊢
 refine(aI R a ln cp (p2+4+1) 3 _ (by decide) (by decide) (ab D7)).mono ?_
 rintro e' w8 ⟨y3,rfl,y3l,y3u,k9,r9⟩
 have H8:=ae ((ab H7).kp k9)
 have D8:=ae (r9 (by omega))
 clear H7 D7 k9 r9
 go_upto_if 23 with fail
 go_cut [8] (fun pv W=>pv= .pointer (some ⟨XX,0,none⟩)∧∃(T9:Int) (p9:Nat),p9≤p2+12∧Hid (iL R w W XJ XS XX s t k z q l e b v r m au cu xs 1 T9 K2 V 0 #[.int .i64 0,.int .i64 0,.int .i64 0,.int .i64 0,.int .i64 0,.int .i64 0,.int .i64 0,.bool false,.int .i64 0,.int .i64 0] #[.int .i64 0,.slice none 0 0] #[.int .i64 0,.int .i64 0,.int .i64 0,.int .i64 0,.int .i64 0])∧Hid (Rd R W a ln cp p9))
 case first=>
  by_cases hy:0<y3
  ·have hy1:decide (0<y3)=true:=decide_eq_true hy
   go_wp2_with fail
   have HE:=ae ((ab H8).bel (aq (Below.refl _ _)))
   have DE:=ae ((ab D8).kp (show R<w8.heap.size by have:=aE (ab H8).J;have:=(ab H8).nJ;omega) (aq (Below.refl _ _)))
   refine wp_region_held_drew (S:=(fun W=>W.heap[XS]? =some (.cells #[.int .i64 m,.slice au xs.length cu] 27 (0,0)))) (oW) ?_ (fun hHeld=>?_)
   ·((try dsimp only);exact(ab HE).S)
   refine kV 0 ?_
   refine kT 1 ?_ ?_ ?_
   rotate_left
   ·(intro w9 hSw;(try dsimp only at hSw);have q1:=hSw;obtain⟨bxx0,bxx1⟩:=c2 q1;go_simp<;>with_reducible rfl)
   try simp only[Act.put,tA,tZ,tS]
   refine kV 2 ?_
   refine rD 3 (fun K hK=>?_)
   go_simp
   (go_at_call 25;refine(aI R a ln cp _ 30 _ (by decide) (by decide) (ab DE)).mono ?_;rintro e9 w9 ⟨y4,rfl,y4l,y4u,k9,r9⟩)
   (try go_wp2_with fail)
   have H9:=ae ((ab HE).kp k9)
   have D9:=ae (r9 (by omega))
   clear HE DE H8 D8 k9 r9
   have hw1:IntKind.i64.wrap (m+y4)=m+y4:=IntWalk.i64_in _ ⟨by omega,by omega⟩
   have hw2:IntKind.i64.wrap (m+y4 - 20)=m+y4 - 20:=IntWalk.i64_in _ ⟨by omega,by omega⟩
   clear hHeld
   refine hK.out _ _ ?_ (fun hHeld=>?_)
   ·((try dsimp only);exact(ab H9).S)
   clear hK K
   try simp only[Act.put,tA,tZ,tS]
   refine kV 4 ?_
   refine kV 5 ?_
   refine kV 6 ?_
   refine rD 7 (fun K hK=>?_)
   obtain⟨xc0,xc1,xc2,xc3,xc4⟩:=c5 (ab H9).X
   obtain⟨xf0,xf1,xf2,xf3,xf4⟩:=f5 (ab H9).X
   have xz:XX<w9.heap.size:=aE (ab H9).X
   go_simp
   clear xc0 xf0 xc1 xf1 xc2 xf2 xc3 xf3 xc4 xf4 xz
   have H10:Hid (iL R w (w9.setCell ⟨XX,1,none⟩ (.int .i64 (m+y4 - 20))) XJ XS XX s t k z q l e b v r m au cu xs 1 (m+y4 - 20) K2 V 0 #[.int .i64 0,.int .i64 0,.int .i64 0,.int .i64 0,.int .i64 0,.int .i64 0,.int .i64 0,.bool false,.int .i64 0,.int .i64 0] #[.int .i64 0,.slice none 0 0] #[.int .i64 0,.int .i64 0,.int .i64 0,.int .i64 0,.int .i64 0]):=ae ((ab H9).setX 1 (.int .i64 (m+y4 - 20)) rfl nJX nSX)
   clear hHeld
   refine hK.out _ _ ?_ (fun hHeld=>?_)
   ·((try dsimp only);exact(ab H10).S)
   clear hK K
   try simp only[Act.put,tA,tZ,tS]
   refine wpAnyH_done (oW) ?_ _
   have D10:=ae (aj (o:=1) (v:= .int .i64 (m+y4 - 20)) (ab D9) hRX)
   clear hHeld H9 D9 hw1 hw2
   generalize w9.setCell ⟨XX,1,none⟩ (.int .i64 (m+y4 - 20))=w10 at H10 D10 ⊢
   obtain⟨T2,hT2⟩:∃T2,m+y4 - 20=T2:=⟨_,rfl⟩
   rw[hT2]at H10 ⊢
   clear hT2
   obtain⟨xc0,xc1,xc2,xc3,xc4⟩:=c5 (ab H10).X
   obtain⟨xf0,xf1,xf2,xf3,xf4⟩:=f5 (ab H10).X
   have xz:XX<w10.heap.size:=aE (ab H10).X
   go_wp2_with fail
   refine(aK _ _ _ _).mono ?_
   rintro e' w11 ⟨rfl,hw11⟩
   obtain rfl:=hw11.symm
   clear hw11
   obtain⟨ob,hob⟩:∃ob,ce T2 0 60=ob:=⟨_,rfl⟩
   rw[hob]
   clear hob
   cases ob with
   |true=>
    go_wp2
    go_meet
    exact⟨rfl,T2,_,(by omega),H10,D10⟩
   |false=>
    go_wp2_with fail
    clear xc0 xf0 xc1 xf1 xc2 xf2 xc3 xf3 xc4 xf4 xz
    refine(aI R a ln cp (p2+4+1+1+1) 20 _ (by decide) (by decide) (ab D10)).mono ?_
    rintro e' w12 ⟨y5,rfl,y5l,y5u,k9,r9⟩
    have H12:=ae ((ab H10).kp k9)
    have D12:=ae (r9 (by omega))
    clear H10 D10 k9 r9
    obtain⟨xc0,xc1,xc2,xc3,xc4⟩:=c5 (ab H12).X
    obtain⟨xf0,xf1,xf2,xf3,xf4⟩:=f5 (ab H12).X
    have xz:XX<w12.heap.size:=aE (ab H12).X
    go_wp2
    go_meet
    have H13:Hid (iL R w (w12.setCell ⟨XX,1,none⟩ (.int .i64 y5)) XJ XS XX s t k z q l e b v r m au cu xs 1 y5 K2 V 0 #[.int .i64 0,.int .i64 0,.int .i64 0,.int .i64 0,.int .i64 0,.int .i64 0,.int .i64 0,.bool false,.int .i64 0,.int .i64 0] #[.int .i64 0,.slice none 0 0] #[.int .i64 0,.int .i64 0,.int .i64 0,.int .i64 0,.int .i64 0]):=ae ((ab H12).setX 1 (.int .i64 y5) rfl nJX nSX)
    have D13:=ae (aj (o:=1) (v:= .int .i64 y5) (ab D12) hRX)
    exact⟨rfl,y5,_,(by omega),H13,D13⟩
  ·have hy1:decide (0<y3)=false:=decide_eq_false hy
   go_wp2
   go_meet
   exact⟨rfl,T,_,(by omega),H8,D8⟩
 case rest=>
  rename World=>wr
  obtain⟨rfl,T9,p9,hp9,HS9,DS9⟩:=hcut
  clear H8 D8
  go_wp2_with fail
  refine(aI R a ln cp p9 16 _ (by decide) (by decide) (ab DS9)).mono ?_
  rintro e' w20 ⟨y9,rfl,y9l,y9u,k9,r9⟩
  have HT:=ae ((ab HS9).kp k9)
  have DT:=ae (r9 (by omega))
  clear HS9 DS9 k9 r9
  go_upto_if 40 with fail
  go_cut [8] (fun pv W=>pv= .pointer (some ⟨XX,0,none⟩)∧∃(n1 n2 n3 n4 n5:Int),Hid (iL R w W XJ XS XX s t k z q l e b v r m au cu xs n1 n2 n3 n4 n5 #[.int .i64 0,.int .i64 0,.int .i64 0,.int .i64 0,.int .i64 0,.int .i64 0,.int .i64 0,.bool false,.int .i64 0,.int .i64 0] #[.int .i64 0,.slice none 0 0] #[.int .i64 0,.int .i64 0,.int .i64 0,.int .i64 0,.int .i64 0]))
  case first=>
   by_cases hy9:y9=0
   ·have hy8:(y9==0)=true:=by simp[hy9]
    go_wp2_with fail
    refine(item_any R a ln cp (p9+1) 2 _ (by decide) (by decide) (by omega) (show R<w20.heap.size by have:=aE (ab HT).J;have:=(ab HT).nJ;omega) (ab DT)).mono ?_
    rintro e' w21 ⟨n1,n2,n3,n4,n5,rfl,k9,_⟩
    have HU:=ae ((ab HT).kp k9)
    clear HT DT k9
    obtain⟨xc0,xc1,xc2,xc3,xc4⟩:=c5 (ab HU).X
    obtain⟨xf0,xf1,xf2,xf3,xf4⟩:=f5 (ab HU).X
    have xz:XX<w21.heap.size:=aE (ab HU).X
    go_wp2
    go_meet
    have HV:Hid (iL R w (((((w21.setCell ⟨XX,0,none⟩ (.int .i64 n1)).setCell ⟨XX,1,none⟩ (.int .i64 n2)).setCell ⟨XX,2,none⟩ (.int .i64 n3)).setCell ⟨XX,3,none⟩ (.int .i64 n4)).setCell ⟨XX,4,none⟩ (.int .i64 n5)) XJ XS XX s t k z q l e b v r m au cu xs n1 n2 n3 n4 n5 #[.int .i64 0,.int .i64 0,.int .i64 0,.int .i64 0,.int .i64 0,.int .i64 0,.int .i64 0,.bool false,.int .i64 0,.int .i64 0] #[.int .i64 0,.slice none 0 0] #[.int .i64 0,.int .i64 0,.int .i64 0,.int .i64 0,.int .i64 0]):=ae ((((((ab HU).setX (y1:=n1) (y2:=T9) (y3:=K2) (y4:=V) (y5:=0) 0 (.int .i64 n1) rfl nJX nSX).setX (y1:=n1) (y2:=n2) (y3:=K2) (y4:=V) (y5:=0) 1 (.int .i64 n2) rfl nJX nSX).setX (y1:=n1) (y2:=n2) (y3:=n3) (y4:=V) (y5:=0) 2 (.int .i64 n3) rfl nJX nSX).setX (y1:=n1) (y2:=n2) (y3:=n3) (y4:=n4) (y5:=0) 3 (.int .i64 n4) rfl nJX nSX).setX (y1:=n1) (y2:=n2) (y3:=n3) (y4:=n4) (y5:=n5) 4 (.int .i64 n5) rfl nJX nSX)
    exact⟨rfl,_,_,_,_,_,HV⟩
   ·have hy8:(y9==0)=false:=by simp[hy9]
    go_wp2
    go_meet
    exact⟨rfl,_,_,_,_,_,HT⟩
  case rest=>
   rename World=>wt
   obtain⟨rfl,n1,n2,n3,n4,n5,HV⟩:=hcut
   clear HT DT
   go_upto_region 11 with fail
   have HE:=ae ((ab HV).bel (aq (Below.refl _ _)))
   refine wp_region_held_drew (S:=(fun W=>W.heap[XJ]? =some (.cells #[.int .i64 s,.int .i64 t,.int .i64 k,.int .i64 z,.int .i64 q,.int .i64 l,.int .i64 e,.bool b,.int .i64 v,.int .i64 r] 24 (0,0))∧W.heap[XS]? =some (.cells #[.int .i64 m,.slice au xs.length cu] 27 (0,0))∧W.heap[XX]? =some (.cells #[.int .i64 n1,.int .i64 n2,.int .i64 n3,.int .i64 n4,.int .i64 n5] 29 (0,0)))) (oW) ?_ (fun hHeld=>?_)
   ·((try dsimp only);exact⟨(ab HE).J,(ab HE).S,(ab HE).X⟩)
   refine kT 0 ?_ ?_ ?_
   rotate_left
   ·(intro w9 hSw;(try dsimp only at hSw);obtain⟨q0,q1,q2⟩:=hSw;obtain⟨axx0,axx1,axx2,axx3,axx4,axx5,axx6,axx7,axx8,axx9⟩:=cV q0;go_simp<;>with_reducible rfl)
   try simp only[Act.put,tA,tZ,tS]
   refine kT 1 ?_ ?_ ?_
   rotate_left
   ·(intro w9 hSw;(try dsimp only at hSw);obtain⟨q0,q1,q2⟩:=hSw;obtain⟨bxx0,bxx1⟩:=c2 q1;go_simp<;>with_reducible rfl)
   try simp only[Act.put,tA,tZ,tS]
   refine kT 2 ?_ ?_ ?_
   rotate_left
   ·(intro w9 hSw;(try dsimp only at hSw);obtain⟨q0,q1,q2⟩:=hSw;obtain⟨cxx0,cxx1,cxx2,cxx3,cxx4⟩:=c5 q2;go_simp<;>with_reducible rfl)
   try simp only[Act.put,tA,tZ,tS]
   refine rD 3 (fun K hK=>?_)
   have y0x0:=cA (ab HV).ZJ 0
   have y0x1:=cA (ab HV).ZJ 1
   have y0x2:=cA (ab HV).ZJ 2
   have y0x3:=cA (ab HV).ZJ 3
   have y0x4:=cA (ab HV).ZJ 4
   have y0x5:=cA (ab HV).ZJ 5
   have y0x6:=cA (ab HV).ZJ 6
   have y0x7:=cA (ab HV).ZJ 7
   have y0x8:=cA (ab HV).ZJ 8
   have y0x9:=cA (ab HV).ZJ 9
   simp only[gA,gZ,gS]at y0x0 y0x1 y0x2 y0x3 y0x4 y0x5 y0x6 y0x7 y0x8 y0x9
   have yf0x0:=cF (ab HV).ZJ 0
   have yf0x1:=cF (ab HV).ZJ 1
   have yf0x2:=cF (ab HV).ZJ 2
   have yf0x3:=cF (ab HV).ZJ 3
   have yf0x4:=cF (ab HV).ZJ 4
   have yf0x5:=cF (ab HV).ZJ 5
   have yf0x6:=cF (ab HV).ZJ 6
   have yf0x7:=cF (ab HV).ZJ 7
   have yf0x8:=cF (ab HV).ZJ 8
   have yf0x9:=cF (ab HV).ZJ 9
   have yz0:w.heap.size<wt.heap.size:=aE (ab HV).ZJ
   have y1x0:=cA (ab HV).ZS 0
   have y1x1:=cA (ab HV).ZS 1
   simp only[gA,gZ,gS]at y1x0 y1x1
   have yf1x0:=cF (ab HV).ZS 0
   have yf1x1:=cF (ab HV).ZS 1
   have yz1:w.heap.size+1<wt.heap.size:=aE (ab HV).ZS
   have y2x0:=cA (ab HV).ZX 0
   have y2x1:=cA (ab HV).ZX 1
   have y2x2:=cA (ab HV).ZX 2
   have y2x3:=cA (ab HV).ZX 3
   have y2x4:=cA (ab HV).ZX 4
   simp only[gA,gZ,gS]at y2x0 y2x1 y2x2 y2x3 y2x4
   have yf2x0:=cF (ab HV).ZX 0
   have yf2x1:=cF (ab HV).ZX 1
   have yf2x2:=cF (ab HV).ZX 2
   have yf2x3:=cF (ab HV).ZX 3
   have yf2x4:=cF (ab HV).ZX 4
   have yz2:w.heap.size+1+1<wt.heap.size:=aE (ab HV).ZX
   go_simp
   have HF0:Hid (iL R w ((((((((((wt.setCell ⟨w.heap.size,0,none⟩ (.int .i64 s)).setCell ⟨w.heap.size,1,none⟩ (.int .i64 t)).setCell ⟨w.heap.size,2,none⟩ (.int .i64 k)).setCell ⟨w.heap.size,3,none⟩ (.int .i64 z)).setCell ⟨w.heap.size,4,none⟩ (.int .i64 q)).setCell ⟨w.heap.size,5,none⟩ (.int .i64 l)).setCell ⟨w.heap.size,6,none⟩ (.int .i64 e)).setCell ⟨w.heap.size,7,none⟩ (.bool b)).setCell ⟨w.heap.size,8,none⟩ (.int .i64 v)).setCell ⟨w.heap.size,9,none⟩ (.int .i64 r)) XJ XS XX s t k z q l e b v r m au cu xs n1 n2 n3 n4 n5 #[.int .i64 s,.int .i64 t,.int .i64 k,.int .i64 z,.int .i64 q,.int .i64 l,.int .i64 e,.bool b,.int .i64 v,.int .i64 r] #[.int .i64 0,.slice none 0 0] #[.int .i64 0,.int .i64 0,.int .i64 0,.int .i64 0,.int .i64 0]):=ae (((((((((((ab HV).setZJ 0 (.int .i64 s) (c9:=#[.int .i64 s,.int .i64 0,.int .i64 0,.int .i64 0,.int .i64 0,.int .i64 0,.int .i64 0,.bool false,.int .i64 0,.int .i64 0]) rfl).setZJ 1 (.int .i64 t) (c9:=#[.int .i64 s,.int .i64 t,.int .i64 0,.int .i64 0,.int .i64 0,.int .i64 0,.int .i64 0,.bool false,.int .i64 0,.int .i64 0]) rfl).setZJ 2 (.int .i64 k) (c9:=#[.int .i64 s,.int .i64 t,.int .i64 k,.int .i64 0,.int .i64 0,.int .i64 0,.int .i64 0,.bool false,.int .i64 0,.int .i64 0]) rfl).setZJ 3 (.int .i64 z) (c9:=#[.int .i64 s,.int .i64 t,.int .i64 k,.int .i64 z,.int .i64 0,.int .i64 0,.int .i64 0,.bool false,.int .i64 0,.int .i64 0]) rfl).setZJ 4 (.int .i64 q) (c9:=#[.int .i64 s,.int .i64 t,.int .i64 k,.int .i64 z,.int .i64 q,.int .i64 0,.int .i64 0,.bool false,.int .i64 0,.int .i64 0]) rfl).setZJ 5 (.int .i64 l) (c9:=#[.int .i64 s,.int .i64 t,.int .i64 k,.int .i64 z,.int .i64 q,.int .i64 l,.int .i64 0,.bool false,.int .i64 0,.int .i64 0]) rfl).setZJ 6 (.int .i64 e) (c9:=#[.int .i64 s,.int .i64 t,.int .i64 k,.int .i64 z,.int .i64 q,.int .i64 l,.int .i64 e,.bool false,.int .i64 0,.int .i64 0]) rfl).setZJ 7 (.bool b) (c9:=#[.int .i64 s,.int .i64 t,.int .i64 k,.int .i64 z,.int .i64 q,.int .i64 l,.int .i64 e,.bool b,.int .i64 0,.int .i64 0]) rfl).setZJ 8 (.int .i64 v) (c9:=#[.int .i64 s,.int .i64 t,.int .i64 k,.int .i64 z,.int .i64 q,.int .i64 l,.int .i64 e,.bool b,.int .i64 v,.int .i64 0]) rfl).setZJ 9 (.int .i64 r) (c9:=#[.int .i64 s,.int .i64 t,.int .i64 k,.int .i64 z,.int .i64 q,.int .i64 l,.int .i64 e,.bool b,.int .i64 v,.int .i64 r]) rfl)
   have HQ0:=ae ((ab HF0).bel (aq (Below.refl _ _)))
   clear hHeld
   refine hK.out _ _ ?_ (fun hHeld=>?_)
   ·((try dsimp only);exact⟨(ab HQ0).J,(ab HQ0).S,(ab HQ0).X⟩)
   clear hK K
   try simp only[Act.put,tA,tZ,tS]
   refine rD 4 (fun K hK=>?_)
   go_simp
   have HF1:Hid (iL R w ((((((((((((wt.setCell ⟨w.heap.size,0,none⟩ (.int .i64 s)).setCell ⟨w.heap.size,1,none⟩ (.int .i64 t)).setCell ⟨w.heap.size,2,none⟩ (.int .i64 k)).setCell ⟨w.heap.size,3,none⟩ (.int .i64 z)).setCell ⟨w.heap.size,4,none⟩ (.int .i64 q)).setCell ⟨w.heap.size,5,none⟩ (.int .i64 l)).setCell ⟨w.heap.size,6,none⟩ (.int .i64 e)).setCell ⟨w.heap.size,7,none⟩ (.bool b)).setCell ⟨w.heap.size,8,none⟩ (.int .i64 v)).setCell ⟨w.heap.size,9,none⟩ (.int .i64 r)).setCell ⟨w.heap.size+1,0,none⟩ (.int .i64 m)).setCell ⟨w.heap.size+1,1,none⟩ (.slice au xs.length cu)) XJ XS XX s t k z q l e b v r m au cu xs n1 n2 n3 n4 n5 #[.int .i64 s,.int .i64 t,.int .i64 k,.int .i64 z,.int .i64 q,.int .i64 l,.int .i64 e,.bool b,.int .i64 v,.int .i64 r] #[.int .i64 m,.slice au xs.length cu] #[.int .i64 0,.int .i64 0,.int .i64 0,.int .i64 0,.int .i64 0]):=ae (((ab HF0).setZS 0 (.int .i64 m) (c9:=#[.int .i64 m,.slice none 0 0]) rfl).setZS 1 (.slice au xs.length cu) (c9:=#[.int .i64 m,.slice au xs.length cu]) rfl)
   have HQ1:=ae ((ab HF1).bel (aq (Below.refl _ _)))
   clear hHeld
   refine hK.out _ _ ?_ (fun hHeld=>?_)
   ·((try dsimp only);exact⟨(ab HQ1).J,(ab HQ1).S,(ab HQ1).X⟩)
   clear hK K
   try simp only[Act.put,tA,tZ,tS]
   refine rD 5 (fun K hK=>?_)
   go_simp
   have HF2:Hid (iL R w (((((((((((((((((wt.setCell ⟨w.heap.size,0,none⟩ (.int .i64 s)).setCell ⟨w.heap.size,1,none⟩ (.int .i64 t)).setCell ⟨w.heap.size,2,none⟩ (.int .i64 k)).setCell ⟨w.heap.size,3,none⟩ (.int .i64 z)).setCell ⟨w.heap.size,4,none⟩ (.int .i64 q)).setCell ⟨w.heap.size,5,none⟩ (.int .i64 l)).setCell ⟨w.heap.size,6,none⟩ (.int .i64 e)).setCell ⟨w.heap.size,7,none⟩ (.bool b)).setCell ⟨w.heap.size,8,none⟩ (.int .i64 v)).setCell ⟨w.heap.size,9,none⟩ (.int .i64 r)).setCell ⟨w.heap.size+1,0,none⟩ (.int .i64 m)).setCell ⟨w.heap.size+1,1,none⟩ (.slice au xs.length cu)).setCell ⟨w.heap.size+1+1,0,none⟩ (.int .i64 n1)).setCell ⟨w.heap.size+1+1,1,none⟩ (.int .i64 n2)).setCell ⟨w.heap.size+1+1,2,none⟩ (.int .i64 n3)).setCell ⟨w.heap.size+1+1,3,none⟩ (.int .i64 n4)).setCell ⟨w.heap.size+1+1,4,none⟩ (.int .i64 n5)) XJ XS XX s t k z q l e b v r m au cu xs n1 n2 n3 n4 n5 #[.int .i64 s,.int .i64 t,.int .i64 k,.int .i64 z,.int .i64 q,.int .i64 l,.int .i64 e,.bool b,.int .i64 v,.int .i64 r] #[.int .i64 m,.slice au xs.length cu] #[.int .i64 n1,.int .i64 n2,.int .i64 n3,.int .i64 n4,.int .i64 n5]):=ae ((((((ab HF1).setZX 0 (.int .i64 n1) (c9:=#[.int .i64 n1,.int .i64 0,.int .i64 0,.int .i64 0,.int .i64 0]) rfl).setZX 1 (.int .i64 n2) (c9:=#[.int .i64 n1,.int .i64 n2,.int .i64 0,.int .i64 0,.int .i64 0]) rfl).setZX 2 (.int .i64 n3) (c9:=#[.int .i64 n1,.int .i64 n2,.int .i64 n3,.int .i64 0,.int .i64 0]) rfl).setZX 3 (.int .i64 n4) (c9:=#[.int .i64 n1,.int .i64 n2,.int .i64 n3,.int .i64 n4,.int .i64 0]) rfl).setZX 4 (.int .i64 n5) (c9:=#[.int .i64 n1,.int .i64 n2,.int .i64 n3,.int .i64 n4,.int .i64 n5]) rfl)
   have HQ2:=ae ((ab HF2).bel (aq (Below.refl _ _)))
   clear hHeld
   refine hK.out _ _ ?_ (fun hHeld=>?_)
   ·((try dsimp only);exact⟨(ab HQ2).J,(ab HQ2).S,(ab HQ2).X⟩)
   clear hK K
   try simp only[Act.put,tA,tZ,tS]
   refine wpAnyH_done (oW) ?_ _
   clear hHeld HE HV HF0 HF1 HF2 HQ0 HQ1 y0x0 y0x1 y0x2 y0x3 y0x4 y0x5 y0x6 y0x7 y0x8 y0x9 yf0x0 yf0x1 yf0x2 yf0x3 yf0x4 yf0x5 yf0x6 yf0x7 yf0x8 yf0x9 yz0 y1x0 y1x1 yf1x0 yf1x1 yz1 y2x0 y2x1 y2x2 y2x3 y2x4 yf2x0 yf2x1 yf2x2 yf2x3 yf2x4 yz2
   generalize (((((((((((((((((wt.setCell ⟨w.heap.size,0,none⟩ (.int .i64 s)).setCell ⟨w.heap.size,1,none⟩ (.int .i64 t)).setCell ⟨w.heap.size,2,none⟩ (.int .i64 k)).setCell ⟨w.heap.size,3,none⟩ (.int .i64 z)).setCell ⟨w.heap.size,4,none⟩ (.int .i64 q)).setCell ⟨w.heap.size,5,none⟩ (.int .i64 l)).setCell ⟨w.heap.size,6,none⟩ (.int .i64 e)).setCell ⟨w.heap.size,7,none⟩ (.bool b)).setCell ⟨w.heap.size,8,none⟩ (.int .i64 v)).setCell ⟨w.heap.size,9,none⟩ (.int .i64 r)).setCell ⟨w.heap.size+1,0,none⟩ (.int .i64 m)).setCell ⟨w.heap.size+1,1,none⟩ (.slice au xs.length cu)).setCell ⟨w.heap.size+1+1,0,none⟩ (.int .i64 n1)).setCell ⟨w.heap.size+1+1,1,none⟩ (.int .i64 n2)).setCell ⟨w.heap.size+1+1,2,none⟩ (.int .i64 n3)).setCell ⟨w.heap.size+1+1,3,none⟩ (.int .i64 n4)).setCell ⟨w.heap.size+1+1,4,none⟩ (.int .i64 n5)).drew=wz at HQ2 ⊢
   obtain⟨ya0,ya1,ya2,ya3,ya4,ya5,ya6,ya7,ya8,ya9⟩:=cV (ab HQ2).ZJ
   obtain⟨yb0,yb1⟩:=c2 (ab HQ2).ZS
   obtain⟨yc0,yc1,yc2,yc3,yc4⟩:=c5 (ab HQ2).ZX
   go_wp2
   refine bodyPost_ret (v:= .tuple #[.agg #[.int .i64 s,.int .i64 t,.int .i64 k,.int .i64 z,.int .i64 q,.int .i64 l,.int .i64 e,.bool b,.int .i64 v,.int .i64 r],.agg #[.int .i64 m,.slice au xs.length cu],.agg #[.int .i64 n1,.int .i64 n2,.int .i64 n3,.int .i64 n4,.int .i64 n5]]) (by simp(maxDischargeDepth:=9) [results,Tryz.results7,go_sem, *]) rfl ?_
   exact⟨s,t,k,z,q,l,e,b,v,r,m,au,cu,xs,n1,n2,n3,n4,n5,rfl,World.ownsRow.mono (ab HQ2).O (by have:=(ab HQ2).nR;omega),by omega,hmb,(ab HQ2).L⟩
end Go.Proofs.YtdmhihcipkhecaaGreat
namespace Go.Proofs.YtdmhihcipkhecaaGreat
open Go.ChangeShapes Go.WideShapes Go.ChangeAt Go.RowKit
set_option linter.unusedSimpArgs false
theorem okAgg_le{n s l m:Int}(h:eO n s l m=true):0≤n∧n≤1000:=by
 unfold eO at h
 split at h
 ·omega
 ·simp only[Bool.and_eq_true]at h
  have:=bQ.1 h.1.1.1
  omega
theorem mB{l m:Int}{x:aD}(h:x.okB l m=true):(0≤x.an∧x.an≤1000)∧(0≤x.fn∧x.fn≤1000):=by
 simp only[aD.okB,bh,Bool.and_eq_true,decide_eq_true_eq]at h
 obtain⟨⟨⟨⟨⟨⟨⟨⟨⟨⟨h1,h2⟩,h3⟩,h4⟩,h5⟩,h6⟩,h7⟩,h8⟩,h9⟩,h10⟩,h11⟩:=h
 exact⟨okAgg_le h3,okAgg_le h4⟩
theorem both_pos{g h:A4}(hg:1≤g.1∧g.1≤100000000)(hh:0≤h.1∧h.1≤1000):1≤(go g h).1∧(go g h).1≤g.1+1000:=by
 show 1≤bo g.1 h.1 g.1 h.1 (wrap64 (g.1+h.1))∧bo g.1 h.1 g.1 h.1 (wrap64 (g.1+h.1))≤g.1+1000
 unfold bo
 rw[if_neg (by omega)]
 split
 ·omega
 ·have:wrap64 (g.1+h.1)=g.1+h.1:=by unfold wrap64;omega
  rw[this]
  omega
theorem all_pos:∀(old:List aD) (g:A4),(∀x ∈ old,0≤x.an∧x.an≤1000)→1≤g.1→g.1+1000*(old.length:Int)≤100000000→1≤(old.foldl (fun g x=>go g (kR x)) g).1
 | [],g,_,h,_=>h
 |x :: old,g,hx,h,hl=>by
  simp only[List.length_cons]at hl
  have h1:=both_pos (g:=g) (h:=kR x) ⟨h,by omega⟩ (hx x (by simp))
  exact all_pos old (go g (kR x)) (fun y hy=>hx y (List.mem_cons_of_mem _ hy)) h1.1 (by omega)
theorem allO_pos{v:Int}{old:List aD}(h:∀x ∈ old,0≤x.an∧x.an≤1000)(hl:old.length≤1000):1≤(eC v old).1:=by
 have e1:(eY (0,0,0,0) v).1=1:=rfl
 exact all_pos old _ h (by rw[e1];decide) (by rw[e1];omega)
theorem tel_new{m:Int}{q:P3}{g:A4}(h:1≤g.1):cP m (fA q g)=decide ((fA q g).en≤m):=by
 show(decide (q.2.2≤m)&&decide (0<g.1))=decide (q.2.2≤m)
 have:decide (0<g.1)=true:=decide_eq_true (by omega)
 rw[this,Bool.and_true]
theorem ea.inj{xs:List aD}(h:ea xs){a b:aD}(ha:a ∈ xs)(hb:b ∈ xs)(e:aX a=aX b):a=b:=by
 induction xs with
 |nil=>cases ha
 |cons x t ih=>
  have hc:=List.pairwise_cons.1 h
  rcases List.mem_cons.1 ha with rfl|h1<;>rcases List.mem_cons.1 hb with rfl|h2
  ·rfl
  ·have:=hc.1 b h2
   rw[e]at this
   exact absurd this (ch _)
  ·have:=hc.1 a h1
   rw[e]at this
   exact absurd this (ch _)
  ·exact ih hc.2 h1 h2
theorem rest_same{xs:List aD}(h:ea xs)(p:aD→Bool):xs.filter (fun x=> !(xs.filter p).any (fun y=>decide (aX y=aX x)))=xs.filter (fun x=> !p x):=by
 refine List.filter_congr (fun x hx=>?_)
 congr 1
 cases hp:p x with
 |true=>exact List.any_eq_true.2 ⟨x,List.mem_filter.2 ⟨hx,hp⟩,by simp⟩
 |false=>
  rw[List.any_eq_false]
  intro y hy h9
  have hy2:=List.mem_filter.1 hy
  have:=h.inj hy2.1 hx (by simpa using h9)
  subst this
  rw[hp]at hy2
  cases hy2.2
/-- What is gathered behind all. -/
def gaF(pc:Bool)(m:Int)(a:List aD×List cO×List dm):List aD×List cO×List dm:=(a.1.map (gTx m),a.2.1++(a.1.filter (cP m)).map (dU pc),a.2.2)
theorem take_ses{pc:Bool}{l m ky v:Int}{xs:List aD}(h:ea xs)(hok:∀x ∈ xs,x.okB l m=true)(hl:xs.length≤1000)(w:dm):de true pc l m ky v (xs,[],[]) w=gaF pc m (cd true l m ky v (xs,[],[]) w):=by
 have hf:∀x ∈ xs,x.fn≤1000000:=fun x hx=>by have:=(mB (hok x hx)).2.2;omega
 unfold de cd ic seF gaF
 simp only[if_true]
 obtain⟨old,hold⟩:∃old,xs.filter (di ky w.a w.b)=old:=⟨_,rfl⟩
 rw[hold]
 obtain⟨sp,hsp⟩:∃sp,eT w.a w.b old=sp:=⟨_,rfl⟩
 rw[hsp]
 by_cases hs:sp.2+l≤m
 ·have hT:=kL.start (pc:=pc) h hok hf (ky,sp.1,sp.2)
  simp only[if_pos hs,List.append_nil,List.nil_append]
  rw[←hT.rows,←hT.pans]
  rfl
 ·simp only[if_neg hs]
  cases ho:ee sp old with
  |true=>
   have hT:=(kL.start (pc:=pc) h hok hf (ky,sp.1,sp.2)).step v (lW _)
   simp only[if_true,iz,if_neg hs,List.nil_append]
   have h1:=hT.rows
   have h2:=hT.pans
   rw[List.nil_append]at h2
   rw[h1,h2]
  |false=>
   have hm:∀x ∈ xs.filter (fun x=> !di ky w.a w.b x),x ∈ xs:=fun x hx=>(List.mem_filter.1 hx).1
   have hrest:xs.filter (fun x=> !old.any (fun y=>decide (aX y=aX x)))=xs.filter (fun x=> !di ky w.a w.b x):=by rw[←hold];exact rest_same h _
   have hpos:1≤(eC v old).1:=allO_pos (fun x hx=>by rw[←hold]at hx;exact(mB (hok x (List.mem_filter.1 hx).1)).1) (by rw[←hold];exact Nat.le_trans (List.length_filter_le _ _) hl)
   have hT:=(kL.start (pc:=pc) (h.sublist List.filter_sublist) (fun x hx=>hok x (hm x hx)) (fun x hx=>hf x (hm x hx)) (ky,sp.1,sp.2)).put (r:=fA (ky,sp.1,sp.2) (eC v old)) rfl (tel_new hpos) (lW _)
   simp only[Bool.false_eq_true,if_false,if_true,List.nil_append]
   have h1:=hT.rows
   have h2:=hT.pans
   rw[List.nil_append]at h2
   rw[hrest,h1,h2]
theorem take_same{ses pc:Bool}{l m ky v:Int}{xs:List aD}{ws:List dm}(h:ea xs)(hok:∀x ∈ xs,x.okB l m=true)(hl:xs.length≤1000)(h1:ses=true→ws.length≤1)(h2:ses=false→ws.Pairwise (fun x y=>cg (ky,x.a,x.b) (ky,y.a,y.b))):cY ses pc l m ky v xs ws=gaF pc m (eU ses l m ky v xs ws):=by
 have hf:∀x ∈ xs,x.fn≤1000000:=fun x hx=>by have:=(mB (hok x hx)).2.2;omega
 unfold cY eU
 cases ses with
 |true=>
  match ws,h1 rfl with
  | [],_=>
   have hT:=kL.start (pc:=pc) h hok hf (0,0,0)
   show(xs,[],[])=(xs.map (gTx m),[]++(xs.filter (cP m)).map (dU pc),[])
   rw[List.nil_append,←hT.rows,←hT.pans]
  | [w],_=>exact take_ses h hok hl w
  |_ :: _ :: _,h9=>simp at h9
 |false=>
  match ws,h2 rfl with
  | [],_=>
   have hT:=kL.start (pc:=pc) h hok hf (0,0,0)
   show(xs,[],[])=(xs.map (gTx m),[]++(xs.filter (cP m)).map (dU pc),[])
   rw[List.nil_append,←hT.rows,←hT.pans]
  |w :: ws,hw=>
   have hc:=List.pairwise_cons.1 hw
   obtain⟨q',hT,h3,h4⟩:=jU (l:=l) (v:=v) (w :: ws) (xs,[],[]) xs (ky,w.a,w.b) (kL.start (pc:=pc) h hok hf _) (fun w' hw'=>by
    rcases List.mem_cons.1 hw' with rfl|hw'
    ·exact .inl rfl
    ·exact .inr (hc.1 w' hw')) hw
   unfold gaF
   rw[h3,List.nil_append,←hT.rows,←hT.pans,←h4]
end Go.Proofs.YtdmhihcipkhecaaGreat
namespace Go.Proofs.YtdmhihcipkhecaaGreat
open Go.ChangeShapes Go.WideShapes Go.ChangeAt Go.RowKit Go.Shelf Go.Maps
set_option linter.unusedSimpArgs false
def aJ(es:List bV):List aD:=es.map (fun e=>e.2)
def gO(a:bV):List bV→List bV
 | []=>[a]
 |x :: xs=>if cg (aX a.2) (aX x.2)then a :: x :: xs else x :: gO a xs
def lf(q:P3)(es:List bV):List bV:=es.filter (fun e=> !decide (aX e.2=q))
def knE(v:Int)(g:Nat)(es:List bV):List bV:=es.map (fun e=>(e.1,if decide (e.1=g)=true then fe e.2 v else e.2))
theorem lE(a:bV):∀es:List bV,aJ (gO a es)=eG a.2 (aJ es)
 | []=>rfl
 |x :: xs=>by
  show(gO a (x :: xs)).map (fun e=>e.2)=eG a.2 (x.2 :: aJ xs)
  unfold gO eG
  split
  ·rfl
  ·rw[List.map_cons]
   exact congrArg (x.2 :: ·) (lE a xs)
theorem kH{a:bV}:∀ {xs:List bV} {y:bV},y ∈ gO a xs↔y=a∨y ∈ xs
 | [],y=>by simp[gO]
 |x :: xs,y=>by
  unfold gO
  split
  ·simp
  ·rw[List.mem_cons,kH,List.mem_cons]
   constructor
   ·rintro (h|h|h)<;>simp[h]
   ·rintro (h|h|h)<;>simp[h]
theorem lF(a:bV):∀es:List bV,(gO a es).Perm (a :: es)
 | []=>List.Perm.refl _
 |x :: xs=>by
  unfold gO
  split
  ·exact List.Perm.refl _
  ·exact((lF a xs).cons x).trans (List.Perm.swap a x xs)
theorem offE_mem{q:P3}{es:List bV}{y:bV}:y ∈ lf q es↔y ∈ es∧¬ aX y.2=q:=by
 unfold lf
 rw[List.mem_filter]
 simp
theorem i8{es:List bV}:eo es↔ea (aJ es):=by
 unfold eo aJ
 exact(List.pairwise_map (f:=fun e:bV=>e.2) (R:=fun x y=>cg (aX x) (aX y))).symm
theorem mapE_ins{a:bV}(q:P3):∀ {es:List bV},(∀x ∈ es,¬ aX x.2=aX a.2)→dc (gO a es) q=if q=aX a.2 then some (ptrE a)else dc es q
 | [],_=>by
  unfold dc gO
  by_cases h:q=aX a.2
  ·simp[h]
  ·have h':¬ aX a.2=q:=fun e=>h e.symm
   simp[h,h']
 |x :: xs,hn=>by
  have ih:=mapE_ins q (fun y hy=>hn y (List.mem_cons_of_mem _ hy)) (es:=xs) (a:=a)
  have hx:=hn x (by simp)
  unfold gO
  split
  ·unfold dc
   rw[List.find?_cons]
   by_cases h:q=aX a.2
   ·simp[h]
   ·have h':¬ aX a.2=q:=fun e=>h e.symm
    simp[h,h']
  ·unfold dc at ih ⊢
   rw[List.find?_cons,List.find?_cons]
   by_cases h:aX x.2=q
   ·have h2:¬ q=aX a.2:=fun e=>hx (h.trans e)
    simp[h,h2]
   ·simp only[h,decide_false]
    exact ih
theorem mapE_off(q p:P3)(es:List bV):dc (lf q es) p=if p=q then none else dc es p:=by
 unfold dc lf
 rw[List.find?_filter]
 by_cases h:p=q
 ·subst h
  rw[if_pos rfl,List.find?_eq_none.2 (fun x _=>by simp)]
  rfl
 ·rw[if_neg h]
  congr 1
  congr 1
  funext x
  by_cases h2:aX x.2=p
  ·have:¬ aX x.2=q:=fun e=>h (h2.symm.trans e)
   simp[h2,h]
  ·simp[h2]
theorem mapE_kn(v:Int)(g:Nat)(es:List bV):dc (knE v g es)=dc es:=lj (fun x=>fe x v) (fun _=>rfl) (fun e=>decide (e.1=g)) es
/-- A row put in the place of one that is there. -/
theorem put_at{y y':aD}(hp:aX y'=aX y):∀ {xs:List aD},ea xs→y ∈ xs→cD y' xs=xs.map (fun x=>if aX x=aX y then y' else x)
 | [],_,hy=>by cases hy
 |x :: xs,h,hy=>by
  have hc:=List.pairwise_cons.1 h
  by_cases hx:aX x=aX y
  ·have hno:∀z ∈ xs,¬ aX z=aX y:=fun z hz e=>by
    have:=hc.1 z hz
    rw[hx,e]at this
    exact ch _ this
   have e1:eB (aX y') (x :: xs)=xs:=by
    unfold eB
    rw[List.filter_cons,if_neg (by simp[hp,hx])]
    exact List.filter_eq_self.2 (fun z hz=>by simp[hp,hno z hz])
   have e2:xs.map (fun x=>if aX x=aX y then y' else x)=xs:=by
    have:xs.map (fun x=>if aX x=aX y then y' else x)=xs.map id:=List.map_congr_left (fun z hz=>by rw[if_neg (hno z hz)];rfl)
    rw[this,List.map_id]
   unfold cD
   rw[e1,List.map_cons,if_pos hx,e2]
   cases xs with
   |nil=>rfl
   |cons z t=>
    have:=hc.1 z (by simp)
    unfold eG
    rw[if_pos (by rw[hp,←hx];exact this)]
  ·have hy':y ∈ xs:=(List.mem_cons.1 hy).resolve_left (fun e=>hx (by rw[e]))
   have hl:¬ cg (aX y') (aX x):=fun h9=>by
    rw[hp]at h9
    exact ch _ (dL h9 (hc.1 y hy'))
   have ih:=put_at hp hc.2 hy'
   unfold cD at ih ⊢
   have e1:eB (aX y') (x :: xs)=x :: eB (aX y') xs:=by
    unfold eB
    rw[List.filter_cons,if_pos (by simp[hp,hx])]
   rw[e1,List.map_cons,if_neg hx]
   show(if _ then _ else _)=_
   rw[if_neg hl,ih]
theorem fnd_at{y:aD}{xs:List aD}(h:ea xs)(hy:y ∈ xs):gb (aX y) xs=some y:=by
 unfold gb
 cases hf:xs.find? (fun x=>decide (aX x=aX y))with
 |none=>
  have:=List.find?_eq_none.1 hf y hy
  simp at this
 |some x=>
  have h1:x ∈ xs:=List.mem_of_find?_eq_some hf
  have h2:aX x=aX y:=by simpa using List.find?_some hf
  rw[h.inj h1 hy h2]
theorem kn_rows{v:Int}{g:Nat}{y:aD}{es:List bV}(h:eo es)(hn:(es.map (fun e=>e.1)).Nodup)(hy:(g,y) ∈ es):aJ (knE v g es)=cD (dC (aX y) v (aJ es)) (aJ es):=by
 have hr:=i8.1 h
 have hyr:y ∈ aJ es:=List.mem_map.2 ⟨(g,y),hy,rfl⟩
 have e1:dC (aX y) v (aJ es)=fe y v:=by unfold dC;rw[fnd_at hr hyr];rfl
 rw[e1,put_at (y:=y) (y':=fe y v) rfl hr hyr]
 unfold aJ knE
 rw[List.map_map,List.map_map]
 refine List.map_congr_left (fun e he=>?_)
 simp only[Function.comp]
 by_cases hg:e.1=g
 ·have:e=(g,y):=by
   have hinj:∀(l:List bV),(l.map (fun e=>e.1)).Nodup→∀a b,a ∈ l→b ∈ l→a.1=b.1→a=b:=by
    intro l hl a b ha hb hab
    induction l with
    |nil=>cases ha
    |cons x t ih=>
     rw[List.map_cons,List.nodup_cons]at hl
     rcases List.mem_cons.1 ha with rfl|h1<;>rcases List.mem_cons.1 hb with rfl|h2
     ·rfl
     ·exact absurd (List.mem_map.2 ⟨b,h2,hab.symm⟩) hl.1
     ·exact absurd (List.mem_map.2 ⟨a,h1,hab⟩) hl.1
     ·exact ih hl.2 h1 h2
   exact hinj es hn e (g,y) he hy hg
  subst this
  simp
 ·have hne:¬ aX e.2=aX y:=fun e9=>hg (by have:=h.inj he hy e9;rw[this])
  simp[hg,hne]
/-- What a map of entries is behind each. -/
theorem cn.drop{w:World}{b n:Nat}{m:P3→Option Value}(h:cn w b n m)(q:P3)(hq:gI q)(ty:TypeId):∃w',(Builtin.delete_ #[73,87] ty #[.map (some b),v3 q]).run Tryz.prog w= .ok (.tuple #[]) w'∧cn w' b n (fun x=>if x=q then none else m x)∧w.grownBy w' (some b):=bB.drop h key3 Tryz.underlying73 some3 inj3 q hq ty
theorem bU.put{W W':World}{B mb nn:Nat}{es:List bV}(h:bU W B mb nn es)(g:Nat)(x:aD)(hx:eA W g x)(hg:B≤g)(hn:∀e ∈ es,e.1≠g)(hp:∀e ∈ es,¬ aX e.2=aX x)(hm:cn W' mb (nn+1) (fun q=>if q=aX x then some (Value.pointer (some ⟨g,0,none⟩))else(dc es q).map Value.pointer))(hgr:W.grownBy W' (some mb)):bU W' B mb (nn+1) (gO (g,x) es):=by
 have hkeep:∀k y,eA W k y→eA W' k y:=fun k y hy=>(hgr.block k hy.lt (fun e9=>h.map.ne_cells hy (Option.some.inj e9))).trans hy
 have e1:(fun q=>(dc (gO (g,x) es) q).map Value.pointer)=fun q=>if q=aX x then some (Value.pointer (some ⟨g,0,none⟩))else(dc es q).map Value.pointer:=by
  funext q
  rw[mapE_ins (a:=(g,x)) q hp]
  split<;>rfl
 refine⟨by rw[e1];exact hm,fun e he=>?_,fun e he=>?_,?_⟩
 ·rcases kH.1 he with rfl|he
  ·exact hkeep _ _ hx
  ·exact hkeep _ _ (h.box e he)
 ·rcases kH.1 he with rfl|he
  ·exact hg
  ·exact h.ge e he
 ·refine(((lF (g,x) es).map (fun e=>e.1)).nodup_iff).2 ?_
  rw[List.map_cons,List.nodup_cons]
  refine⟨fun h9=>?_,h.nd⟩
  obtain⟨e,he,e9⟩:=List.mem_map.1 h9
  exact hn e he e9
theorem bU.off{W W':World}{B mb nn:Nat}{es:List bV}(h:bU W B mb nn es)(q:P3)(hm:cn W' mb nn (fun p=>if p=q then none else(dc es p).map Value.pointer))(hgr:W.grownBy W' (some mb)):bU W' B mb nn (lf q es):=by
 have hkeep:∀k y,eA W k y→eA W' k y:=fun k y hy=>(hgr.block k hy.lt (fun e9=>h.map.ne_cells hy (Option.some.inj e9))).trans hy
 have e1:(fun p=>(dc (lf q es) p).map Value.pointer)=fun p=>if p=q then none else(dc es p).map Value.pointer:=by
  funext p
  rw[mapE_off]
  split<;>rfl
 refine⟨by rw[e1];exact hm,fun e he=>hkeep _ _ (h.box e (offE_mem.1 he).1),fun e he=>h.ge e (offE_mem.1 he).1,?_⟩
 exact List.Nodup.sublist (List.Sublist.map _ List.filter_sublist) h.nd
theorem bU.know{W W':World}{B mb nn g:Nat}{y:aD}{v:Int}{es:List bV}(h:bU W B mb nn es)(hy:(g,y) ∈ es)(hb:eA W' g (fe y v))(hgr:W.grownBy W' (some g))(hrise:eo es):bU W' B mb nn (knE v g es):=by
 refine⟨?_,fun e he=>?_,fun e he=>?_,?_⟩
 ·rw[show dc (knE v g es)=dc es from mapE_kn v g es]
  exact bB.grown h.map hgr (fun e9=>h.map.ne_cells (h.box _ hy) (Option.some.inj e9).symm)
 ·obtain⟨x,hx,rfl⟩:=List.mem_map.1 he
  by_cases hg:x.1=g
  ·have:x=(g,y):=by
    have hinj:∀(l:List bV),(l.map (fun e=>e.1)).Nodup→∀a b,a ∈ l→b ∈ l→a.1=b.1→a=b:=by
     intro l hl a b ha hb hab
     induction l with
     |nil=>cases ha
     |cons x t ih=>
      rw[List.map_cons,List.nodup_cons]at hl
      rcases List.mem_cons.1 ha with rfl|h1<;>rcases List.mem_cons.1 hb with rfl|h2
      ·rfl
      ·exact absurd (List.mem_map.2 ⟨b,h2,hab.symm⟩) hl.1
      ·exact absurd (List.mem_map.2 ⟨a,h1,hab⟩) hl.1
      ·exact ih hl.2 h1 h2
    exact hinj es h.nd x (g,y) hx hy hg
   subst this
   simpa using hb
  ·have h9:=h.box x hx
   simp only[hg,decide_false,Bool.false_eq_true,if_false]
   exact(hgr.block x.1 h9.lt (fun e9=>hg (Option.some.inj e9))).trans h9
 ·obtain⟨x,hx,rfl⟩:=List.mem_map.1 he
  exact h.ge x hx
 ·have:(knE v g es).map (fun e=>e.1)=es.map (fun e=>e.1):=by
   unfold knE
   rw[List.map_map]
   rfl
  rw[this]
  exact h.nd
end Go.Proofs.YtdmhihcipkhecaaGreat
