/- Laid together: what the claim needs of the texts that were built one by one. -/
import Derived.Test.YtdmhihcipkhecaaR23
import Derived.Deep.DeepCutAuto
import Derived.Test.YtdmhihcipkhecaaR0
set_option linter.unusedVariables false
namespace Go.Proofs.Ytdmhihcipkhecaa
open Go.ChangeShapes Go.WideShapes Go.ChangeAt Go.RowKit Go.Shelf Go.Maps Go.Deep
set_option linter.unusedSimpArgs false
def DrawMkP(w:World)(e':Ending)(w':World):Prop:=∃(s t k z q l e:Int) (b:Bool) (v r m:Int) (au:Option Addr) (cu:Nat) (xs:List aD) (mk:Int),e'= .returned (.tuple #[.agg #[.int .i64 s,.int .i64 t,.int .i64 k,.int .i64 z,.int .i64 q,.int .i64 l,.int .i64 e,.bool b,.int .i64 v,.int .i64 r],.agg #[.int .i64 m,.slice au xs.length cu],.int .i64 mk])∧aR w' w.heap.size (.slice au xs.length cu) xs∧xs.length≤401∧(-1≤m∧m≤1001)∧(-2≤mk∧mk≤1010)∧Below w.heap.size w w'
/-- What is drawn, and the results' boxes. -/
structure ik(R:Nat)(w W:World)(XJ XS:Nat)(s t k z q l e:Int)(b:Bool)(v r:Int)(m:Int)(au:Option Addr)(cu:Nat)(xs:List aD)(cj cs:Array Value):Prop where
 ZJ:W.heap[w.heap.size]? =some (.cells cj 24 (0,0))
 ZS:W.heap[w.heap.size+1]? =some (.cells cs 27 (0,0))
 J:W.heap[XJ]? =some (.cells #[.int .i64 s,.int .i64 t,.int .i64 k,.int .i64 z,.int .i64 q,.int .i64 l,.int .i64 e,.bool b,.int .i64 v,.int .i64 r] 24 (0,0))
 S:W.heap[XS]? =some (.cells #[.int .i64 m,.slice au xs.length cu] 27 (0,0))
 nR:w.heap.size+1<R
 nJ:R<XJ
 nS:R<XS
 O:aR W (R+1) (.slice au xs.length cu) xs
 L:Below w.heap.size w W
theorem ik.kp{R XJ XS:Nat}{w W:World}{s t k z q l e:Int}{b:Bool}{v r m:Int}{au:Option Addr}{cu:Nat}{xs:List aD}{cj cs:Array Value}{W2:World}(h:ik R w W XJ XS s t k z q l e b v r m au cu xs cj cs)(k9:Kp R W W2):ik R w W2 XJ XS s t k z q l e b v r m au cu xs cj cs:=
 ⟨(k9.all _ (aB h.ZJ) (by have:=h.nR;omega)).trans h.ZJ,(k9.all _ (aB h.ZS) (by have:=h.nR;omega)).trans h.ZS,(k9.all _ (aB h.J) (by have:=h.nJ;omega)).trans h.J,(k9.all _ (aB h.S) (by have:=h.nS;omega)).trans h.S,h.nR,h.nJ,h.nS,jp h.O k9 (by omega),h.L.trans (k9.low.mono (by have:=h.nR;omega))⟩
theorem ik.bel{R XJ XS:Nat}{w W:World}{s t k z q l e:Int}{b:Bool}{v r m:Int}{au:Option Addr}{cu:Nat}{xs:List aD}{cj cs:Array Value}{W2:World}(h:ik R w W XJ XS s t k z q l e b v r m au cu xs cj cs)(hb:Below W.heap.size W W2):ik R w W2 XJ XS s t k z q l e b v r m au cu xs cj cs:=
 h.kp (Kp.of_bel (by have:=aB h.J;have:=h.nJ;omega) hb)
theorem ik.setZJ{R XJ XS:Nat}{w W:World}{s t k z q l e:Int}{b:Bool}{v r m:Int}{au:Option Addr}{cu:Nat}{xs:List aD}{cj cs:Array Value}{c9:Array Value}(h:ik R w W XJ XS s t k z q l e b v r m au cu xs cj cs)(o:Nat)(u:Value)(hx:cj.setIfInBounds o u=c9):ik R w (W.setCell ⟨w.heap.size,o,none⟩ u) XJ XS s t k z q l e b v r m au cu xs c9 cs:=
 ⟨by have h9:=Joins.block_setCell (i:=o) h.ZJ u;rw[hx]at h9;exact h9,(Below.heap_setCell _ _ _ _ (by have:=h.nR;have:=h.nJ;have:=h.nS;show _≠w.heap.size;omega)).trans h.ZS,(Below.heap_setCell _ _ _ _ (by have:=h.nR;have:=h.nJ;have:=h.nS;show _≠w.heap.size;omega)).trans h.J,(Below.heap_setCell _ _ _ _ (by have:=h.nR;have:=h.nJ;have:=h.nS;show _≠w.heap.size;omega)).trans h.S,h.nR,h.nJ,h.nS,al h.O (ai h.O h.ZJ (by decide)),az h.L (by show w.heap.size≤w.heap.size;omega) _⟩
theorem ik.setZS{R XJ XS:Nat}{w W:World}{s t k z q l e:Int}{b:Bool}{v r m:Int}{au:Option Addr}{cu:Nat}{xs:List aD}{cj cs:Array Value}{c9:Array Value}(h:ik R w W XJ XS s t k z q l e b v r m au cu xs cj cs)(o:Nat)(u:Value)(hx:cs.setIfInBounds o u=c9):ik R w (W.setCell ⟨w.heap.size+1,o,none⟩ u) XJ XS s t k z q l e b v r m au cu xs cj c9:=
 ⟨(Below.heap_setCell _ _ _ _ (by have:=h.nR;have:=h.nJ;have:=h.nS;show _≠w.heap.size+1;omega)).trans h.ZJ,by have h9:=Joins.block_setCell (i:=o) h.ZS u;rw[hx]at h9;exact h9,(Below.heap_setCell _ _ _ _ (by have:=h.nR;have:=h.nJ;have:=h.nS;show _≠w.heap.size+1;omega)).trans h.J,(Below.heap_setCell _ _ _ _ (by have:=h.nR;have:=h.nJ;have:=h.nS;show _≠w.heap.size+1;omega)).trans h.S,h.nR,h.nJ,h.nS,al h.O (ai h.O h.ZS (by decide)),az h.L (by show w.heap.size≤w.heap.size+1;omega) _⟩
/-- One of the drawn marks. -/
theorem gO{W:World}{X:Nat}{y:Nat}{z0 z1 z2 z3:Int}(h:W.heap[X]? =some (.cells #[.int .i64 z0,.int .i64 z1,.int .i64 z2,.int .i64 z3,.int .i64 1000,.int .i64 1001,.int .i64 (-1)] 3 (0,0)))(hy:y<7):∃t:Int,W.cell? ⟨X,y,none⟩=some (.int .i64 t)∧(t=z0∨t=z1∨t=z2∨t=z3∨t=1000∨t=1001∨t= -1):=by
 have hc:y=0∨y=1∨y=2∨y=3∨y=4∨y=5∨y=6:=by omega
 rcases hc with rfl|rfl|rfl|rfl|rfl|rfl|rfl
 ·exact⟨_,cA h 0,by simp⟩
 ·exact⟨_,cA h 1,by simp⟩
 ·exact⟨_,cA h 2,by simp⟩
 ·exact⟨_,cA h 3,by simp⟩
 ·exact⟨_,cA h 4,by simp⟩
 ·exact⟨_,cA h 5,by simp⟩
 ·exact⟨_,cA h 6,by simp⟩
set_option maxRecDepth 100000 in
set_option maxHeartbeats 16000000 in
theorem drawmk_any(a:Option Addr)(len cap:Nat)(w:World)(hlc:len≤cap)(hm:len≤1048576)(hb:ck w a len)(hl:∀g o,a=some ⟨g,o,none⟩→0<len→g<w.heap.size)(hn:a=none→cap=0):Calls Try.prog 4 #[.slice a len cap] w fun e' w'=>DrawMkP w e' w':=by
 have hbA:Below w.heap.size w ((w.alloc (.cells #[.int .i64 0,.int .i64 0,.int .i64 0,.int .i64 0,.int .i64 0,.int .i64 0,.int .i64 0,.bool false,.int .i64 0,.int .i64 0] 24)).alloc (.cells #[.int .i64 0,.slice none 0 0] 27)):=af (ax _ _) _
 have eJ:((w.alloc (.cells #[.int .i64 0,.int .i64 0,.int .i64 0,.int .i64 0,.int .i64 0,.int .i64 0,.int .i64 0,.bool false,.int .i64 0,.int .i64 0] 24)).alloc (.cells #[.int .i64 0,.slice none 0 0] 27)).heap[w.heap.size]? =some (.cells #[.int .i64 0,.int .i64 0,.int .i64 0,.int .i64 0,.int .i64 0,.int .i64 0,.int .i64 0,.bool false,.int .i64 0,.int .i64 0] 24 (0,0)):=aN<|nA
 have eS:((w.alloc (.cells #[.int .i64 0,.int .i64 0,.int .i64 0,.int .i64 0,.int .i64 0,.int .i64 0,.int .i64 0,.bool false,.int .i64 0,.int .i64 0] 24)).alloc (.cells #[.int .i64 0,.slice none 0 0] 27)).heap[w.heap.size+1]? =some (.cells #[.int .i64 0,.slice none 0 0] 27 (0,0)):=nA
 have hz3:((w.alloc (.cells #[.int .i64 0,.int .i64 0,.int .i64 0,.int .i64 0,.int .i64 0,.int .i64 0,.int .i64 0,.bool false,.int .i64 0,.int .i64 0] 24)).alloc (.cells #[.int .i64 0,.slice none 0 0] 27)).heap.size=w.heap.size+2:=by simp
 go_enter Try.func4,Try.ntmps4
 go_wp2_with fail
 refine(open_any a len cap _ hlc hm (hb.bel hl hbA) (fun g o h1 h2=>Nat.lt_of_lt_of_le (hl g o h1 h2) hbA.size) hn).mono ?_
 rintro e' w1 ⟨R,ln,cp,rfl,hR1,hR2,hb1,hrd⟩
 rw[hz3]at hR1
 have fJ:=(hb1.block w.heap.size (by rw[hz3];omega)).trans eJ
 have fS:=(hb1.block (w.heap.size+1) (by rw[hz3];omega)).trans eS
 have hL:=ae (ap hbA hb1)
 clear hb hl hn eJ eS hb1 hbA hz3
 go_wp2_with fail
 refine(anyop_any R a ln cp 0 16 _ (by decide) (by decide) (by omega) hR2 hrd).mono ?_
 rintro e' w2 ⟨s,t,k,z,q,l,e,b,v,r,m,au,cu,xs,rfl,hO,hx,hmb,k9,p2,hp2,r2⟩
 have gJ:=(k9.all w.heap.size (by omega) (by omega)).trans fJ
 have gS:=(k9.all (w.heap.size+1) (by omega) (by omega)).trans fS
 have hL2:Hid (Below w.heap.size w w2):=ae ((ab hL).trans (k9.low.mono (by omega)))
 have z2:=k9.low.size
 have HO:=ae (World.ownsRow.mono hO (show R+1≤w1.heap.size by omega))
 have HG:=ae gJ
 have HG2:=ae gS
 have HDr:=ae r2
 have HZJ:=ae ((Below.heap_alloc (w2.alloc (.cells #[.int .i64 s,.int .i64 t,.int .i64 k,.int .i64 z,.int .i64 q,.int .i64 l,.int .i64 e,.bool b,.int .i64 v,.int .i64 r] 24)) (.cells #[.int .i64 m,.slice au xs.length cu] 27) w2.heap.size (by simp)).trans (World.alloc_heap_new w2 (.cells #[.int .i64 s,.int .i64 t,.int .i64 k,.int .i64 z,.int .i64 q,.int .i64 l,.int .i64 e,.bool b,.int .i64 v,.int .i64 r] 24)))
 have HZS:=ae (show((w2.alloc (.cells #[.int .i64 s,.int .i64 t,.int .i64 k,.int .i64 z,.int .i64 q,.int .i64 l,.int .i64 e,.bool b,.int .i64 v,.int .i64 r] 24)).alloc (.cells #[.int .i64 m,.slice au xs.length cu] 27)).heap[w2.heap.size+1]? =some (.cells #[.int .i64 m,.slice au xs.length cu] 27 (0,0))from nA)
 clear hrd fJ fS hL k9 r2 gJ gS hO
 go_upto_region 3 with fail
 have hb3:Below w2.heap.size w2 ((w2.alloc (.cells #[.int .i64 s,.int .i64 t,.int .i64 k,.int .i64 z,.int .i64 q,.int .i64 l,.int .i64 e,.bool b,.int .i64 v,.int .i64 r] 24)).alloc (.cells #[.int .i64 m,.slice au xs.length cu] 27)):=af (ax _ _) _
 have HI:Hid (ik R w ((w2.alloc (.cells #[.int .i64 s,.int .i64 t,.int .i64 k,.int .i64 z,.int .i64 q,.int .i64 l,.int .i64 e,.bool b,.int .i64 v,.int .i64 r] 24)).alloc (.cells #[.int .i64 m,.slice au xs.length cu] 27)) w2.heap.size (w2.heap.size+1) s t k z q l e b v r m au cu xs #[.int .i64 0,.int .i64 0,.int .i64 0,.int .i64 0,.int .i64 0,.int .i64 0,.int .i64 0,.bool false,.int .i64 0,.int .i64 0] #[.int .i64 0,.slice none 0 0]):=ae (by
  have kA:=Kp.of_bel (show R≤w2.heap.size by omega) hb3
  exact⟨(kA.all _ (by omega) (by omega)).trans (ab HG),(kA.all _ (by omega) (by omega)).trans (ab HG2),ab HZJ,ab HZS,by omega,by omega,by omega,jp (ab HO) kA (by omega),ap (ab hL2) hb3⟩)
 have HD:=ae ((ab HDr).kp (show R<w2.heap.size by omega) hb3)
 have hRW:R<((w2.alloc (.cells #[.int .i64 s,.int .i64 t,.int .i64 k,.int .i64 z,.int .i64 q,.int .i64 l,.int .i64 e,.bool b,.int .i64 v,.int .i64 r] 24)).alloc (.cells #[.int .i64 m,.slice au xs.length cu] 27)).heap.size:=by simp;omega
 clear HG HG2 HO hL2 HZJ HZS hb3 HDr
 generalize (w2.alloc (.cells #[.int .i64 s,.int .i64 t,.int .i64 k,.int .i64 z,.int .i64 q,.int .i64 l,.int .i64 e,.bool b,.int .i64 v,.int .i64 r] 24)).alloc (.cells #[.int .i64 m,.slice au xs.length cu] 27)=w5 at HI HD hRW ⊢
 have hXR:=hR1
 clear z2 hR1 hR2
 generalize w2.heap.size+1=XS at HI ⊢
 generalize w2.heap.size=XJ at HI ⊢
 have hw1:IntKind.i64.wrap (m+1)=m+1:=IntWalk.i64_in _ ⟨by omega,by omega⟩
 have hw2:IntKind.i64.wrap (m+9)=m+9:=IntWalk.i64_in _ ⟨by omega,by omega⟩
 have hw3:IntKind.i64.wrap (m - 1)=m - 1:=IntWalk.i64_in _ ⟨by omega,by omega⟩
 have HE:=ae ((ab HI).bel (aq (Below.refl _ _)))
 have DE:=ae ((ab HD).kp hRW (aq (Below.refl _ _)))
 replace hRW:R<w5.drew.heap.size:=hRW
 refine wp_region_held_drew (S:=(fun W=>W.heap[XJ]? =some (.cells #[.int .i64 s,.int .i64 t,.int .i64 k,.int .i64 z,.int .i64 q,.int .i64 l,.int .i64 e,.bool b,.int .i64 v,.int .i64 r] 24 (0,0))∧W.heap[XS]? =some (.cells #[.int .i64 m,.slice au xs.length cu] 27 (0,0)))) (ni) ?_ (fun hHeld=>?_)
 ·((try dsimp only);exact⟨(ab HE).J,(ab HE).S⟩)
 clear HI HD
 refine kT 0 ?_ ?_ ?_
 rotate_left
 ·(intro w9 hSw;(try dsimp only at hSw);obtain⟨q0,q1⟩:=hSw;obtain⟨axx0,axx1,axx2,axx3,axx4,axx5,axx6,axx7,axx8,axx9⟩:=bH q0;go_simp<;>with_reducible rfl)
 try simp only[Act.put,tA,tZ,tS]
 refine kT 1 ?_ ?_ ?_
 rotate_left
 ·(intro w9 hSw;(try dsimp only at hSw);obtain⟨q0,q1⟩:=hSw;obtain⟨bxx0,bxx1⟩:=c2 q1;go_simp<;>with_reducible rfl)
 try simp only[Act.put,tA,tZ,tS]
 refine kV 2 ?_
 refine kT 3 ?_ ?_ ?_
 rotate_left
 ·(intro w9 hSw;(try dsimp only at hSw);obtain⟨q0,q1⟩:=hSw;obtain⟨bxx0,bxx1⟩:=c2 q1;go_simp<;>with_reducible rfl)
 try simp only[Act.put,tA,tZ,tS]
 refine kV 4 ?_
 refine kT 5 ?_ ?_ ?_
 rotate_left
 ·(intro w9 hSw;(try dsimp only at hSw);obtain⟨q0,q1⟩:=hSw;obtain⟨bxx0,bxx1⟩:=c2 q1;go_simp<;>with_reducible rfl)
 try simp only[Act.put,tA,tZ,tS]
 refine kV 6 ?_
 refine kV 7 ?_
 refine kT 8 ?_ ?_ ?_
 rotate_left
 ·(intro w9 hSw;(try dsimp only at hSw);obtain⟨q0,q1⟩:=hSw;obtain⟨bxx0,bxx1⟩:=c2 q1;go_simp<;>with_reducible rfl)
 try simp only[Act.put,tA,tZ,tS]
 refine kV 9 ?_
 refine kV 10 ?_
 refine kT 11 ?_ ?_ ?_
 rotate_left
 ·(intro w9 hSw;(try dsimp only at hSw);obtain⟨q0,q1⟩:=hSw;obtain⟨bxx0,bxx1⟩:=c2 q1;go_simp<;>with_reducible rfl)
 try simp only[Act.put,tA,tZ,tS]
 refine kV 12 ?_
 refine kV 14 ?_
 refine wpAnyH_ready (rs:=[13,15]) (ni) (by simp) ?_
 refine AllReadyH.cons (mY) (fun K hK=>?_) ?_
 ·skip
  go_simp
  have E1:=ae ((ab HE).bel (show Below w5.drew.heap.size w5.drew ((w5.alloc (.cells #[.int .i64 m,.int .i64 (m+1),.int .i64 (m+9),.int .i64 (m - 1),.int .i64 1000,.int .i64 1001,.int .i64 (-1)] 3)).drew)from⟨rfl,rfl,rfl,by simp,fun k hk=>Below.heap_alloc w5 _ k hk⟩))
  have bX1:Hid (((w5.alloc (.cells #[.int .i64 m,.int .i64 (m+1),.int .i64 (m+9),.int .i64 (m - 1),.int .i64 1000,.int .i64 1001,.int .i64 (-1)] 3)).drew).heap[w5.heap.size]? =some (.cells #[.int .i64 m,.int .i64 (m+1),.int .i64 (m+9),.int .i64 (m - 1),.int .i64 1000,.int .i64 1001,.int .i64 (-1)] 3 (0,0))):=ae (World.alloc_heap_new w5 (.cells #[.int .i64 m,.int .i64 (m+1),.int .i64 (m+9),.int .i64 (m - 1),.int .i64 1000,.int .i64 1001,.int .i64 (-1)] 3))
  have D1:=ae ((ab DE).kp hRW (show Below w5.drew.heap.size w5.drew ((w5.alloc (.cells #[.int .i64 m,.int .i64 (m+1),.int .i64 (m+9),.int .i64 (m - 1),.int .i64 1000,.int .i64 1001,.int .i64 (-1)] 3)).drew)from⟨rfl,rfl,rfl,by simp,fun k hk=>Below.heap_alloc w5 _ k hk⟩))
  have hXg:w.heap.size+1<w5.heap.size∧R<w5.heap.size:=by have h1:=aB (ab HE).J;have h2:=(ab HE).nJ;have h3:=(ab HE).nR;have h4:w5.drew.heap.size=w5.heap.size:=rfl;omega
  have hnX:w5.heap.size≠R:=by omega
  clear hHeld
  refine hK.out _ _ ?_ (fun hHeld=>?_)
  ·((try dsimp only);exact⟨(ab E1).J,(ab E1).S⟩)
  clear hK K
  try simp only[Act.put,tA,tZ,tS]
  generalize w5.heap.size=X at bX1 hnX hXg ⊢
  have hRW:R<((w5.alloc (.cells #[.int .i64 m,.int .i64 (m+1),.int .i64 (m+9),.int .i64 (m - 1),.int .i64 1000,.int .i64 1001,.int .i64 (-1)] 3)).drew).heap.size:=by have:=aB (ab E1).J;have:=(ab E1).nJ;omega
  generalize (w5.alloc (.cells #[.int .i64 m,.int .i64 (m+1),.int .i64 (m+9),.int .i64 (m - 1),.int .i64 1000,.int .i64 1001,.int .i64 (-1)] 3)).drew=u1 at E1 bX1 D1 hRW hHeld ⊢
  clear HE
  refine rD 15 (fun K hK=>?_)
  go_simp
  (go_at_call 15;refine(aL R a ln cp p2 7 _ (by decide) (by decide) (ab D1)).mono ?_;rintro e9 u2 ⟨y9,rfl,y9l,y9u,k9,r9⟩)
  (try go_wp2_with fail)
  obtain⟨y8,rfl⟩:=Int.eq_ofNat_of_zero_le y9l
  have E2:=ae ((ab E1).kp k9)
  have bX2:=ae ((k9.all X (aB (ab bX1)) hnX).trans (ab bX1))
  have hRW2:=hRW
  replace hRW:R<u2.heap.size:=Nat.lt_of_lt_of_le hRW2 k9.low.size
  clear E1 k9 r9 D1 hRW2
  clear hHeld
  refine hK.out _ _ ?_ (fun hHeld=>?_)
  ·((try dsimp only);exact⟨(ab E2).J,(ab E2).S⟩)
  clear hK K
  try simp only[Act.put,tA,tZ,tS]
  have y8u:y8<7:=by omega
  refine kV 16 ?_
  refine wpAnyH_ready (rs:=[17,18]) (ni) (by simp) ?_
  refine AllReadyH.cons (mY) (fun K hK=>?_) ?_
  ·skip
   obtain⟨t9,ht9,mi⟩:=gO (ab bX2) (y:=y8) y8u
   have ht9b: -2≤t9∧t9≤1010:=by omega
   have zX:X<u2.heap.size:=aB (ab bX2)
   go_simp
   clear hHeld
   refine hK.out _ _ ?_ (fun hHeld=>?_)
   ·((try dsimp only);exact⟨(ab E2).J,(ab E2).S⟩)
   clear hK K
   try simp only[Act.put,tA,tZ,tS]
   clear ht9 mi zX
   refine rD 18 (fun K hK=>?_)
   obtain⟨y0,y1,y2,y3,y4,y5,y6,y7,y8,y9⟩:=bH (ab E2).ZJ
   obtain⟨yf0,yf1,yf2,yf3,yf4,yf5,yf6,yf7,yf8,yf9⟩:=f10 (ab E2).ZJ
   have yz:w.heap.size<u2.heap.size:=aB (ab E2).ZJ
   go_simp
   have E3:Hid (ik R w ((((((((((u2.setCell ⟨w.heap.size,0,none⟩ (.int .i64 s)).setCell ⟨w.heap.size,1,none⟩ (.int .i64 t)).setCell ⟨w.heap.size,2,none⟩ (.int .i64 k)).setCell ⟨w.heap.size,3,none⟩ (.int .i64 z)).setCell ⟨w.heap.size,4,none⟩ (.int .i64 q)).setCell ⟨w.heap.size,5,none⟩ (.int .i64 l)).setCell ⟨w.heap.size,6,none⟩ (.int .i64 e)).setCell ⟨w.heap.size,7,none⟩ (.bool b)).setCell ⟨w.heap.size,8,none⟩ (.int .i64 v)).setCell ⟨w.heap.size,9,none⟩ (.int .i64 r)) XJ XS s t k z q l e b v r m au cu xs #[.int .i64 s,.int .i64 t,.int .i64 k,.int .i64 z,.int .i64 q,.int .i64 l,.int .i64 e,.bool b,.int .i64 v,.int .i64 r] #[.int .i64 0,.slice none 0 0]):=ae (((((((((((ab E2).setZJ 0 (.int .i64 s) (c9:=#[.int .i64 s,.int .i64 0,.int .i64 0,.int .i64 0,.int .i64 0,.int .i64 0,.int .i64 0,.bool false,.int .i64 0,.int .i64 0]) rfl).setZJ 1 (.int .i64 t) (c9:=#[.int .i64 s,.int .i64 t,.int .i64 0,.int .i64 0,.int .i64 0,.int .i64 0,.int .i64 0,.bool false,.int .i64 0,.int .i64 0]) rfl).setZJ 2 (.int .i64 k) (c9:=#[.int .i64 s,.int .i64 t,.int .i64 k,.int .i64 0,.int .i64 0,.int .i64 0,.int .i64 0,.bool false,.int .i64 0,.int .i64 0]) rfl).setZJ 3 (.int .i64 z) (c9:=#[.int .i64 s,.int .i64 t,.int .i64 k,.int .i64 z,.int .i64 0,.int .i64 0,.int .i64 0,.bool false,.int .i64 0,.int .i64 0]) rfl).setZJ 4 (.int .i64 q) (c9:=#[.int .i64 s,.int .i64 t,.int .i64 k,.int .i64 z,.int .i64 q,.int .i64 0,.int .i64 0,.bool false,.int .i64 0,.int .i64 0]) rfl).setZJ 5 (.int .i64 l) (c9:=#[.int .i64 s,.int .i64 t,.int .i64 k,.int .i64 z,.int .i64 q,.int .i64 l,.int .i64 0,.bool false,.int .i64 0,.int .i64 0]) rfl).setZJ 6 (.int .i64 e) (c9:=#[.int .i64 s,.int .i64 t,.int .i64 k,.int .i64 z,.int .i64 q,.int .i64 l,.int .i64 e,.bool false,.int .i64 0,.int .i64 0]) rfl).setZJ 7 (.bool b) (c9:=#[.int .i64 s,.int .i64 t,.int .i64 k,.int .i64 z,.int .i64 q,.int .i64 l,.int .i64 e,.bool b,.int .i64 0,.int .i64 0]) rfl).setZJ 8 (.int .i64 v) (c9:=#[.int .i64 s,.int .i64 t,.int .i64 k,.int .i64 z,.int .i64 q,.int .i64 l,.int .i64 e,.bool b,.int .i64 v,.int .i64 0]) rfl).setZJ 9 (.int .i64 r) (c9:=#[.int .i64 s,.int .i64 t,.int .i64 k,.int .i64 z,.int .i64 q,.int .i64 l,.int .i64 e,.bool b,.int .i64 v,.int .i64 r]) rfl)
   have bX3:Hid (((((((((((u2.setCell ⟨w.heap.size,0,none⟩ (.int .i64 s)).setCell ⟨w.heap.size,1,none⟩ (.int .i64 t)).setCell ⟨w.heap.size,2,none⟩ (.int .i64 k)).setCell ⟨w.heap.size,3,none⟩ (.int .i64 z)).setCell ⟨w.heap.size,4,none⟩ (.int .i64 q)).setCell ⟨w.heap.size,5,none⟩ (.int .i64 l)).setCell ⟨w.heap.size,6,none⟩ (.int .i64 e)).setCell ⟨w.heap.size,7,none⟩ (.bool b)).setCell ⟨w.heap.size,8,none⟩ (.int .i64 v)).setCell ⟨w.heap.size,9,none⟩ (.int .i64 r)).heap[X]? =some (.cells #[.int .i64 m,.int .i64 (m+1),.int .i64 (m+9),.int .i64 (m - 1),.int .i64 1000,.int .i64 1001,.int .i64 (-1)] 3 (0,0))):=ae ((Below.heap_setCell _ _ _ _ (by show X≠w.heap.size;omega)).trans ((Below.heap_setCell _ _ _ _ (by show X≠w.heap.size;omega)).trans ((Below.heap_setCell _ _ _ _ (by show X≠w.heap.size;omega)).trans ((Below.heap_setCell _ _ _ _ (by show X≠w.heap.size;omega)).trans ((Below.heap_setCell _ _ _ _ (by show X≠w.heap.size;omega)).trans ((Below.heap_setCell _ _ _ _ (by show X≠w.heap.size;omega)).trans ((Below.heap_setCell _ _ _ _ (by show X≠w.heap.size;omega)).trans ((Below.heap_setCell _ _ _ _ (by show X≠w.heap.size;omega)).trans ((Below.heap_setCell _ _ _ _ (by show X≠w.heap.size;omega)).trans ((Below.heap_setCell _ _ _ _ (by show X≠w.heap.size;omega)).trans (ab bX2)))))))))))
   clear hHeld
   refine hK.out _ _ ?_ (fun hHeld=>?_)
   ·((try dsimp only);exact⟨(ab E3).J,(ab E3).S⟩)
   clear hK K
   try simp only[Act.put,tA,tZ,tS]
   clear y0 yf0 y1 yf1 y2 yf2 y3 yf3 y4 yf4 y5 yf5 y6 yf6 y7 yf7 y8 yf8 y9 yf9 yz E2
   generalize ((((((((((u2.setCell ⟨w.heap.size,0,none⟩ (.int .i64 s)).setCell ⟨w.heap.size,1,none⟩ (.int .i64 t)).setCell ⟨w.heap.size,2,none⟩ (.int .i64 k)).setCell ⟨w.heap.size,3,none⟩ (.int .i64 z)).setCell ⟨w.heap.size,4,none⟩ (.int .i64 q)).setCell ⟨w.heap.size,5,none⟩ (.int .i64 l)).setCell ⟨w.heap.size,6,none⟩ (.int .i64 e)).setCell ⟨w.heap.size,7,none⟩ (.bool b)).setCell ⟨w.heap.size,8,none⟩ (.int .i64 v)).setCell ⟨w.heap.size,9,none⟩ (.int .i64 r))=u3 at E3 bX3 hHeld ⊢
   refine rD 19 (fun K hK=>?_)
   have y0:=cA (ab E3).ZS 0
   have y1:=cA (ab E3).ZS 1
   simp only[gA,gZ,gS]at y0 y1
   have yf0:=cF (ab E3).ZS 0
   have yf1:=cF (ab E3).ZS 1
   have yz:w.heap.size+1<u3.heap.size:=aB (ab E3).ZS
   go_simp
   have E4:Hid (ik R w ((u3.setCell ⟨w.heap.size+1,0,none⟩ (.int .i64 m)).setCell ⟨w.heap.size+1,1,none⟩ (.slice au xs.length cu)) XJ XS s t k z q l e b v r m au cu xs #[.int .i64 s,.int .i64 t,.int .i64 k,.int .i64 z,.int .i64 q,.int .i64 l,.int .i64 e,.bool b,.int .i64 v,.int .i64 r] #[.int .i64 m,.slice au xs.length cu]):=ae (((ab E3).setZS 0 (.int .i64 m) (c9:=#[.int .i64 m,.slice none 0 0]) rfl).setZS 1 (.slice au xs.length cu) (c9:=#[.int .i64 m,.slice au xs.length cu]) rfl)
   have bX4:Hid (((u3.setCell ⟨w.heap.size+1,0,none⟩ (.int .i64 m)).setCell ⟨w.heap.size+1,1,none⟩ (.slice au xs.length cu)).heap[X]? =some (.cells #[.int .i64 m,.int .i64 (m+1),.int .i64 (m+9),.int .i64 (m - 1),.int .i64 1000,.int .i64 1001,.int .i64 (-1)] 3 (0,0))):=ae ((Below.heap_setCell _ _ _ _ (by show X≠w.heap.size+1;omega)).trans ((Below.heap_setCell _ _ _ _ (by show X≠w.heap.size+1;omega)).trans (ab bX3)))
   clear hHeld
   refine hK.out _ _ ?_ (fun hHeld=>?_)
   ·((try dsimp only);exact⟨(ab E4).J,(ab E4).S⟩)
   clear hK K
   try simp only[Act.put,tA,tZ,tS]
   clear y0 yf0 y1 yf1 yz E3
   generalize ((u3.setCell ⟨w.heap.size+1,0,none⟩ (.int .i64 m)).setCell ⟨w.heap.size+1,1,none⟩ (.slice au xs.length cu))=u4 at E4 bX4 hHeld ⊢
   refine kV 20 ?_
   refine wpAnyH_done (ni) ?_ _
   clear hHeld
   obtain⟨ya0,ya1,ya2,ya3,ya4,ya5,ya6,ya7,ya8,ya9⟩:=bH (ab E4).ZJ
   obtain⟨yb0,yb1⟩:=c2 (ab E4).ZS
   go_wp2
   refine bodyPost_ret (v:= .tuple #[.agg #[.int .i64 s,.int .i64 t,.int .i64 k,.int .i64 z,.int .i64 q,.int .i64 l,.int .i64 e,.bool b,.int .i64 v,.int .i64 r],.agg #[.int .i64 m,.slice au xs.length cu],.int .i64 t9]) (mH) rfl ?_
   exact⟨s,t,k,z,q,l,e,b,v,r,m,au,cu,xs,t9,rfl,World.ownsRow.mono (ab E4).O (by have:=(ab E4).nR;omega),by omega,hmb,ht9b,(ab E4).L⟩
  refine AllReadyH.cons (mY) (fun K hK=>?_) ?_
  ·skip
   obtain⟨y0,y1,y2,y3,y4,y5,y6,y7,y8,y9⟩:=bH (ab E2).ZJ
   obtain⟨yf0,yf1,yf2,yf3,yf4,yf5,yf6,yf7,yf8,yf9⟩:=f10 (ab E2).ZJ
   have yz:w.heap.size<u2.heap.size:=aB (ab E2).ZJ
   go_simp
   have E5:Hid (ik R w ((((((((((u2.setCell ⟨w.heap.size,0,none⟩ (.int .i64 s)).setCell ⟨w.heap.size,1,none⟩ (.int .i64 t)).setCell ⟨w.heap.size,2,none⟩ (.int .i64 k)).setCell ⟨w.heap.size,3,none⟩ (.int .i64 z)).setCell ⟨w.heap.size,4,none⟩ (.int .i64 q)).setCell ⟨w.heap.size,5,none⟩ (.int .i64 l)).setCell ⟨w.heap.size,6,none⟩ (.int .i64 e)).setCell ⟨w.heap.size,7,none⟩ (.bool b)).setCell ⟨w.heap.size,8,none⟩ (.int .i64 v)).setCell ⟨w.heap.size,9,none⟩ (.int .i64 r)) XJ XS s t k z q l e b v r m au cu xs #[.int .i64 s,.int .i64 t,.int .i64 k,.int .i64 z,.int .i64 q,.int .i64 l,.int .i64 e,.bool b,.int .i64 v,.int .i64 r] #[.int .i64 0,.slice none 0 0]):=ae (((((((((((ab E2).setZJ 0 (.int .i64 s) (c9:=#[.int .i64 s,.int .i64 0,.int .i64 0,.int .i64 0,.int .i64 0,.int .i64 0,.int .i64 0,.bool false,.int .i64 0,.int .i64 0]) rfl).setZJ 1 (.int .i64 t) (c9:=#[.int .i64 s,.int .i64 t,.int .i64 0,.int .i64 0,.int .i64 0,.int .i64 0,.int .i64 0,.bool false,.int .i64 0,.int .i64 0]) rfl).setZJ 2 (.int .i64 k) (c9:=#[.int .i64 s,.int .i64 t,.int .i64 k,.int .i64 0,.int .i64 0,.int .i64 0,.int .i64 0,.bool false,.int .i64 0,.int .i64 0]) rfl).setZJ 3 (.int .i64 z) (c9:=#[.int .i64 s,.int .i64 t,.int .i64 k,.int .i64 z,.int .i64 0,.int .i64 0,.int .i64 0,.bool false,.int .i64 0,.int .i64 0]) rfl).setZJ 4 (.int .i64 q) (c9:=#[.int .i64 s,.int .i64 t,.int .i64 k,.int .i64 z,.int .i64 q,.int .i64 0,.int .i64 0,.bool false,.int .i64 0,.int .i64 0]) rfl).setZJ 5 (.int .i64 l) (c9:=#[.int .i64 s,.int .i64 t,.int .i64 k,.int .i64 z,.int .i64 q,.int .i64 l,.int .i64 0,.bool false,.int .i64 0,.int .i64 0]) rfl).setZJ 6 (.int .i64 e) (c9:=#[.int .i64 s,.int .i64 t,.int .i64 k,.int .i64 z,.int .i64 q,.int .i64 l,.int .i64 e,.bool false,.int .i64 0,.int .i64 0]) rfl).setZJ 7 (.bool b) (c9:=#[.int .i64 s,.int .i64 t,.int .i64 k,.int .i64 z,.int .i64 q,.int .i64 l,.int .i64 e,.bool b,.int .i64 0,.int .i64 0]) rfl).setZJ 8 (.int .i64 v) (c9:=#[.int .i64 s,.int .i64 t,.int .i64 k,.int .i64 z,.int .i64 q,.int .i64 l,.int .i64 e,.bool b,.int .i64 v,.int .i64 0]) rfl).setZJ 9 (.int .i64 r) (c9:=#[.int .i64 s,.int .i64 t,.int .i64 k,.int .i64 z,.int .i64 q,.int .i64 l,.int .i64 e,.bool b,.int .i64 v,.int .i64 r]) rfl)
   have bX5:Hid (((((((((((u2.setCell ⟨w.heap.size,0,none⟩ (.int .i64 s)).setCell ⟨w.heap.size,1,none⟩ (.int .i64 t)).setCell ⟨w.heap.size,2,none⟩ (.int .i64 k)).setCell ⟨w.heap.size,3,none⟩ (.int .i64 z)).setCell ⟨w.heap.size,4,none⟩ (.int .i64 q)).setCell ⟨w.heap.size,5,none⟩ (.int .i64 l)).setCell ⟨w.heap.size,6,none⟩ (.int .i64 e)).setCell ⟨w.heap.size,7,none⟩ (.bool b)).setCell ⟨w.heap.size,8,none⟩ (.int .i64 v)).setCell ⟨w.heap.size,9,none⟩ (.int .i64 r)).heap[X]? =some (.cells #[.int .i64 m,.int .i64 (m+1),.int .i64 (m+9),.int .i64 (m - 1),.int .i64 1000,.int .i64 1001,.int .i64 (-1)] 3 (0,0))):=ae ((Below.heap_setCell _ _ _ _ (by show X≠w.heap.size;omega)).trans ((Below.heap_setCell _ _ _ _ (by show X≠w.heap.size;omega)).trans ((Below.heap_setCell _ _ _ _ (by show X≠w.heap.size;omega)).trans ((Below.heap_setCell _ _ _ _ (by show X≠w.heap.size;omega)).trans ((Below.heap_setCell _ _ _ _ (by show X≠w.heap.size;omega)).trans ((Below.heap_setCell _ _ _ _ (by show X≠w.heap.size;omega)).trans ((Below.heap_setCell _ _ _ _ (by show X≠w.heap.size;omega)).trans ((Below.heap_setCell _ _ _ _ (by show X≠w.heap.size;omega)).trans ((Below.heap_setCell _ _ _ _ (by show X≠w.heap.size;omega)).trans ((Below.heap_setCell _ _ _ _ (by show X≠w.heap.size;omega)).trans (ab bX2)))))))))))
   clear hHeld
   refine hK.out _ _ ?_ (fun hHeld=>?_)
   ·((try dsimp only);exact⟨(ab E5).J,(ab E5).S⟩)
   clear hK K
   try simp only[Act.put,tA,tZ,tS]
   clear y0 yf0 y1 yf1 y2 yf2 y3 yf3 y4 yf4 y5 yf5 y6 yf6 y7 yf7 y8 yf8 y9 yf9 yz E2
   generalize ((((((((((u2.setCell ⟨w.heap.size,0,none⟩ (.int .i64 s)).setCell ⟨w.heap.size,1,none⟩ (.int .i64 t)).setCell ⟨w.heap.size,2,none⟩ (.int .i64 k)).setCell ⟨w.heap.size,3,none⟩ (.int .i64 z)).setCell ⟨w.heap.size,4,none⟩ (.int .i64 q)).setCell ⟨w.heap.size,5,none⟩ (.int .i64 l)).setCell ⟨w.heap.size,6,none⟩ (.int .i64 e)).setCell ⟨w.heap.size,7,none⟩ (.bool b)).setCell ⟨w.heap.size,8,none⟩ (.int .i64 v)).setCell ⟨w.heap.size,9,none⟩ (.int .i64 r))=u5 at E5 bX5 hHeld ⊢
   refine wpAnyH_ready (rs:=[17,19]) (ni) (by simp) ?_
   refine AllReadyH.cons (mY) (fun K hK=>?_) ?_
   ·skip
    obtain⟨t9,ht9,mi⟩:=gO (ab bX5) (y:=y8) y8u
    have ht9b: -2≤t9∧t9≤1010:=by omega
    have zX:X<u5.heap.size:=aB (ab bX5)
    go_simp
    clear hHeld
    refine hK.out _ _ ?_ (fun hHeld=>?_)
    ·((try dsimp only);exact⟨(ab E5).J,(ab E5).S⟩)
    clear hK K
    try simp only[Act.put,tA,tZ,tS]
    clear ht9 mi zX
    refine rD 19 (fun K hK=>?_)
    have y0:=cA (ab E5).ZS 0
    have y1:=cA (ab E5).ZS 1
    simp only[gA,gZ,gS]at y0 y1
    have yf0:=cF (ab E5).ZS 0
    have yf1:=cF (ab E5).ZS 1
    have yz:w.heap.size+1<u5.heap.size:=aB (ab E5).ZS
    go_simp
    have E6:Hid (ik R w ((u5.setCell ⟨w.heap.size+1,0,none⟩ (.int .i64 m)).setCell ⟨w.heap.size+1,1,none⟩ (.slice au xs.length cu)) XJ XS s t k z q l e b v r m au cu xs #[.int .i64 s,.int .i64 t,.int .i64 k,.int .i64 z,.int .i64 q,.int .i64 l,.int .i64 e,.bool b,.int .i64 v,.int .i64 r] #[.int .i64 m,.slice au xs.length cu]):=ae (((ab E5).setZS 0 (.int .i64 m) (c9:=#[.int .i64 m,.slice none 0 0]) rfl).setZS 1 (.slice au xs.length cu) (c9:=#[.int .i64 m,.slice au xs.length cu]) rfl)
    have bX6:Hid (((u5.setCell ⟨w.heap.size+1,0,none⟩ (.int .i64 m)).setCell ⟨w.heap.size+1,1,none⟩ (.slice au xs.length cu)).heap[X]? =some (.cells #[.int .i64 m,.int .i64 (m+1),.int .i64 (m+9),.int .i64 (m - 1),.int .i64 1000,.int .i64 1001,.int .i64 (-1)] 3 (0,0))):=ae ((Below.heap_setCell _ _ _ _ (by show X≠w.heap.size+1;omega)).trans ((Below.heap_setCell _ _ _ _ (by show X≠w.heap.size+1;omega)).trans (ab bX5)))
    clear hHeld
    refine hK.out _ _ ?_ (fun hHeld=>?_)
    ·((try dsimp only);exact⟨(ab E6).J,(ab E6).S⟩)
    clear hK K
    try simp only[Act.put,tA,tZ,tS]
    clear y0 yf0 y1 yf1 yz E5
    generalize ((u5.setCell ⟨w.heap.size+1,0,none⟩ (.int .i64 m)).setCell ⟨w.heap.size+1,1,none⟩ (.slice au xs.length cu))=u6 at E6 bX6 hHeld ⊢
    refine kV 20 ?_
    refine wpAnyH_done (ni) ?_ _
    clear hHeld
    obtain⟨ya0,ya1,ya2,ya3,ya4,ya5,ya6,ya7,ya8,ya9⟩:=bH (ab E6).ZJ
    obtain⟨yb0,yb1⟩:=c2 (ab E6).ZS
    go_wp2
    refine bodyPost_ret (v:= .tuple #[.agg #[.int .i64 s,.int .i64 t,.int .i64 k,.int .i64 z,.int .i64 q,.int .i64 l,.int .i64 e,.bool b,.int .i64 v,.int .i64 r],.agg #[.int .i64 m,.slice au xs.length cu],.int .i64 t9]) (mH) rfl ?_
    exact⟨s,t,k,z,q,l,e,b,v,r,m,au,cu,xs,t9,rfl,World.ownsRow.mono (ab E6).O (by have:=(ab E6).nR;omega),by omega,hmb,ht9b,(ab E6).L⟩
   refine AllReadyH.cons (mY) (fun K hK=>?_) ?_
   ·skip
    have y0:=cA (ab E5).ZS 0
    have y1:=cA (ab E5).ZS 1
    simp only[gA,gZ,gS]at y0 y1
    have yf0:=cF (ab E5).ZS 0
    have yf1:=cF (ab E5).ZS 1
    have yz:w.heap.size+1<u5.heap.size:=aB (ab E5).ZS
    go_simp
    have E7:Hid (ik R w ((u5.setCell ⟨w.heap.size+1,0,none⟩ (.int .i64 m)).setCell ⟨w.heap.size+1,1,none⟩ (.slice au xs.length cu)) XJ XS s t k z q l e b v r m au cu xs #[.int .i64 s,.int .i64 t,.int .i64 k,.int .i64 z,.int .i64 q,.int .i64 l,.int .i64 e,.bool b,.int .i64 v,.int .i64 r] #[.int .i64 m,.slice au xs.length cu]):=ae (((ab E5).setZS 0 (.int .i64 m) (c9:=#[.int .i64 m,.slice none 0 0]) rfl).setZS 1 (.slice au xs.length cu) (c9:=#[.int .i64 m,.slice au xs.length cu]) rfl)
    have bX7:Hid (((u5.setCell ⟨w.heap.size+1,0,none⟩ (.int .i64 m)).setCell ⟨w.heap.size+1,1,none⟩ (.slice au xs.length cu)).heap[X]? =some (.cells #[.int .i64 m,.int .i64 (m+1),.int .i64 (m+9),.int .i64 (m - 1),.int .i64 1000,.int .i64 1001,.int .i64 (-1)] 3 (0,0))):=ae ((Below.heap_setCell _ _ _ _ (by show X≠w.heap.size+1;omega)).trans ((Below.heap_setCell _ _ _ _ (by show X≠w.heap.size+1;omega)).trans (ab bX5)))
    clear hHeld
    refine hK.out _ _ ?_ (fun hHeld=>?_)
    ·((try dsimp only);exact⟨(ab E7).J,(ab E7).S⟩)
    clear hK K
    try simp only[Act.put,tA,tZ,tS]
    clear y0 yf0 y1 yf1 yz E5
    generalize ((u5.setCell ⟨w.heap.size+1,0,none⟩ (.int .i64 m)).setCell ⟨w.heap.size+1,1,none⟩ (.slice au xs.length cu))=u7 at E7 bX7 hHeld ⊢
    refine rD 17 (fun K hK=>?_)
    obtain⟨t9,ht9,mi⟩:=gO (ab bX7) (y:=y8) y8u
    have ht9b: -2≤t9∧t9≤1010:=by omega
    have zX:X<u7.heap.size:=aB (ab bX7)
    go_simp
    clear hHeld
    refine hK.out _ _ ?_ (fun hHeld=>?_)
    ·((try dsimp only);exact⟨(ab E7).J,(ab E7).S⟩)
    clear hK K
    try simp only[Act.put,tA,tZ,tS]
    clear ht9 mi zX
    refine kV 20 ?_
    refine wpAnyH_done (ni) ?_ _
    clear hHeld
    obtain⟨ya0,ya1,ya2,ya3,ya4,ya5,ya6,ya7,ya8,ya9⟩:=bH (ab E7).ZJ
    obtain⟨yb0,yb1⟩:=c2 (ab E7).ZS
    go_wp2
    refine bodyPost_ret (v:= .tuple #[.agg #[.int .i64 s,.int .i64 t,.int .i64 k,.int .i64 z,.int .i64 q,.int .i64 l,.int .i64 e,.bool b,.int .i64 v,.int .i64 r],.agg #[.int .i64 m,.slice au xs.length cu],.int .i64 t9]) (mH) rfl ?_
    exact⟨s,t,k,z,q,l,e,b,v,r,m,au,cu,xs,t9,rfl,World.ownsRow.mono (ab E7).O (by have:=(ab E7).nR;omega),by omega,hmb,ht9b,(ab E7).L⟩
   exact AllReadyH.nil
  exact AllReadyH.nil
 refine AllReadyH.cons (mY) (fun K hK=>?_) ?_
 ·skip
  go_simp
  (go_at_call 15;refine(aL R a ln cp p2 7 _ (by decide) (by decide) (ab DE)).mono ?_;rintro e9 u8 ⟨y9,rfl,y9l,y9u,k9,r9⟩)
  (try go_wp2_with fail)
  obtain⟨y8,rfl⟩:=Int.eq_ofNat_of_zero_le y9l
  have E8:=ae ((ab HE).kp k9)
  have hRW2:=hRW
  replace hRW:R<u8.heap.size:=Nat.lt_of_lt_of_le hRW2 k9.low.size
  clear HE k9 r9 DE hRW2
  clear hHeld
  refine hK.out _ _ ?_ (fun hHeld=>?_)
  ·((try dsimp only);exact⟨(ab E8).J,(ab E8).S⟩)
  clear hK K
  try simp only[Act.put,tA,tZ,tS]
  refine wpAnyH_ready (rs:=[13,18]) (ni) (by simp) ?_
  refine AllReadyH.cons (mY) (fun K hK=>?_) ?_
  ·skip
   go_simp
   have E9:=ae ((ab E8).bel (show Below u8.heap.size u8 (u8.alloc (.cells #[.int .i64 m,.int .i64 (m+1),.int .i64 (m+9),.int .i64 (m - 1),.int .i64 1000,.int .i64 1001,.int .i64 (-1)] 3))from⟨rfl,rfl,rfl,by simp,fun k hk=>Below.heap_alloc u8 _ k hk⟩))
   have bX9:Hid ((u8.alloc (.cells #[.int .i64 m,.int .i64 (m+1),.int .i64 (m+9),.int .i64 (m - 1),.int .i64 1000,.int .i64 1001,.int .i64 (-1)] 3)).heap[u8.heap.size]? =some (.cells #[.int .i64 m,.int .i64 (m+1),.int .i64 (m+9),.int .i64 (m - 1),.int .i64 1000,.int .i64 1001,.int .i64 (-1)] 3 (0,0))):=ae (World.alloc_heap_new u8 (.cells #[.int .i64 m,.int .i64 (m+1),.int .i64 (m+9),.int .i64 (m - 1),.int .i64 1000,.int .i64 1001,.int .i64 (-1)] 3))
   have hXg:w.heap.size+1<u8.heap.size∧R<u8.heap.size:=by have h1:=aB (ab E8).J;have h2:=(ab E8).nJ;have h3:=(ab E8).nR;have h4:u8.heap.size=u8.heap.size:=rfl;omega
   have hnX:u8.heap.size≠R:=by omega
   clear hHeld
   refine hK.out _ _ ?_ (fun hHeld=>?_)
   ·((try dsimp only);exact⟨(ab E9).J,(ab E9).S⟩)
   clear hK K
   try simp only[Act.put,tA,tZ,tS]
   generalize u8.heap.size=X at bX9 hnX hXg ⊢
   have hRW:R<(u8.alloc (.cells #[.int .i64 m,.int .i64 (m+1),.int .i64 (m+9),.int .i64 (m - 1),.int .i64 1000,.int .i64 1001,.int .i64 (-1)] 3)).heap.size:=by have:=aB (ab E9).J;have:=(ab E9).nJ;omega
   generalize u8.alloc (.cells #[.int .i64 m,.int .i64 (m+1),.int .i64 (m+9),.int .i64 (m - 1),.int .i64 1000,.int .i64 1001,.int .i64 (-1)] 3)=u9 at E9 bX9 hRW hHeld ⊢
   clear E8
   have y8u:y8<7:=by omega
   refine kV 16 ?_
   refine wpAnyH_ready (rs:=[17,18]) (ni) (by simp) ?_
   refine AllReadyH.cons (mY) (fun K hK=>?_) ?_
   ·skip
    obtain⟨t9,ht9,mi⟩:=gO (ab bX9) (y:=y8) y8u
    have ht9b: -2≤t9∧t9≤1010:=by omega
    have zX:X<u9.heap.size:=aB (ab bX9)
    go_simp
    clear hHeld
    refine hK.out _ _ ?_ (fun hHeld=>?_)
    ·((try dsimp only);exact⟨(ab E9).J,(ab E9).S⟩)
    clear hK K
    try simp only[Act.put,tA,tZ,tS]
    clear ht9 mi zX
    refine rD 18 (fun K hK=>?_)
    obtain⟨y0,y1,y2,y3,y4,y5,y6,y7,y8,y9⟩:=bH (ab E9).ZJ
    obtain⟨yf0,yf1,yf2,yf3,yf4,yf5,yf6,yf7,yf8,yf9⟩:=f10 (ab E9).ZJ
    have yz:w.heap.size<u9.heap.size:=aB (ab E9).ZJ
    go_simp
    have E10:Hid (ik R w ((((((((((u9.setCell ⟨w.heap.size,0,none⟩ (.int .i64 s)).setCell ⟨w.heap.size,1,none⟩ (.int .i64 t)).setCell ⟨w.heap.size,2,none⟩ (.int .i64 k)).setCell ⟨w.heap.size,3,none⟩ (.int .i64 z)).setCell ⟨w.heap.size,4,none⟩ (.int .i64 q)).setCell ⟨w.heap.size,5,none⟩ (.int .i64 l)).setCell ⟨w.heap.size,6,none⟩ (.int .i64 e)).setCell ⟨w.heap.size,7,none⟩ (.bool b)).setCell ⟨w.heap.size,8,none⟩ (.int .i64 v)).setCell ⟨w.heap.size,9,none⟩ (.int .i64 r)) XJ XS s t k z q l e b v r m au cu xs #[.int .i64 s,.int .i64 t,.int .i64 k,.int .i64 z,.int .i64 q,.int .i64 l,.int .i64 e,.bool b,.int .i64 v,.int .i64 r] #[.int .i64 0,.slice none 0 0]):=ae (((((((((((ab E9).setZJ 0 (.int .i64 s) (c9:=#[.int .i64 s,.int .i64 0,.int .i64 0,.int .i64 0,.int .i64 0,.int .i64 0,.int .i64 0,.bool false,.int .i64 0,.int .i64 0]) rfl).setZJ 1 (.int .i64 t) (c9:=#[.int .i64 s,.int .i64 t,.int .i64 0,.int .i64 0,.int .i64 0,.int .i64 0,.int .i64 0,.bool false,.int .i64 0,.int .i64 0]) rfl).setZJ 2 (.int .i64 k) (c9:=#[.int .i64 s,.int .i64 t,.int .i64 k,.int .i64 0,.int .i64 0,.int .i64 0,.int .i64 0,.bool false,.int .i64 0,.int .i64 0]) rfl).setZJ 3 (.int .i64 z) (c9:=#[.int .i64 s,.int .i64 t,.int .i64 k,.int .i64 z,.int .i64 0,.int .i64 0,.int .i64 0,.bool false,.int .i64 0,.int .i64 0]) rfl).setZJ 4 (.int .i64 q) (c9:=#[.int .i64 s,.int .i64 t,.int .i64 k,.int .i64 z,.int .i64 q,.int .i64 0,.int .i64 0,.bool false,.int .i64 0,.int .i64 0]) rfl).setZJ 5 (.int .i64 l) (c9:=#[.int .i64 s,.int .i64 t,.int .i64 k,.int .i64 z,.int .i64 q,.int .i64 l,.int .i64 0,.bool false,.int .i64 0,.int .i64 0]) rfl).setZJ 6 (.int .i64 e) (c9:=#[.int .i64 s,.int .i64 t,.int .i64 k,.int .i64 z,.int .i64 q,.int .i64 l,.int .i64 e,.bool false,.int .i64 0,.int .i64 0]) rfl).setZJ 7 (.bool b) (c9:=#[.int .i64 s,.int .i64 t,.int .i64 k,.int .i64 z,.int .i64 q,.int .i64 l,.int .i64 e,.bool b,.int .i64 0,.int .i64 0]) rfl).setZJ 8 (.int .i64 v) (c9:=#[.int .i64 s,.int .i64 t,.int .i64 k,.int .i64 z,.int .i64 q,.int .i64 l,.int .i64 e,.bool b,.int .i64 v,.int .i64 0]) rfl).setZJ 9 (.int .i64 r) (c9:=#[.int .i64 s,.int .i64 t,.int .i64 k,.int .i64 z,.int .i64 q,.int .i64 l,.int .i64 e,.bool b,.int .i64 v,.int .i64 r]) rfl)
    have bX10:Hid (((((((((((u9.setCell ⟨w.heap.size,0,none⟩ (.int .i64 s)).setCell ⟨w.heap.size,1,none⟩ (.int .i64 t)).setCell ⟨w.heap.size,2,none⟩ (.int .i64 k)).setCell ⟨w.heap.size,3,none⟩ (.int .i64 z)).setCell ⟨w.heap.size,4,none⟩ (.int .i64 q)).setCell ⟨w.heap.size,5,none⟩ (.int .i64 l)).setCell ⟨w.heap.size,6,none⟩ (.int .i64 e)).setCell ⟨w.heap.size,7,none⟩ (.bool b)).setCell ⟨w.heap.size,8,none⟩ (.int .i64 v)).setCell ⟨w.heap.size,9,none⟩ (.int .i64 r)).heap[X]? =some (.cells #[.int .i64 m,.int .i64 (m+1),.int .i64 (m+9),.int .i64 (m - 1),.int .i64 1000,.int .i64 1001,.int .i64 (-1)] 3 (0,0))):=ae ((Below.heap_setCell _ _ _ _ (by show X≠w.heap.size;omega)).trans ((Below.heap_setCell _ _ _ _ (by show X≠w.heap.size;omega)).trans ((Below.heap_setCell _ _ _ _ (by show X≠w.heap.size;omega)).trans ((Below.heap_setCell _ _ _ _ (by show X≠w.heap.size;omega)).trans ((Below.heap_setCell _ _ _ _ (by show X≠w.heap.size;omega)).trans ((Below.heap_setCell _ _ _ _ (by show X≠w.heap.size;omega)).trans ((Below.heap_setCell _ _ _ _ (by show X≠w.heap.size;omega)).trans ((Below.heap_setCell _ _ _ _ (by show X≠w.heap.size;omega)).trans ((Below.heap_setCell _ _ _ _ (by show X≠w.heap.size;omega)).trans ((Below.heap_setCell _ _ _ _ (by show X≠w.heap.size;omega)).trans (ab bX9)))))))))))
    clear hHeld
    refine hK.out _ _ ?_ (fun hHeld=>?_)
    ·((try dsimp only);exact⟨(ab E10).J,(ab E10).S⟩)
    clear hK K
    try simp only[Act.put,tA,tZ,tS]
    clear y0 yf0 y1 yf1 y2 yf2 y3 yf3 y4 yf4 y5 yf5 y6 yf6 y7 yf7 y8 yf8 y9 yf9 yz E9
    generalize ((((((((((u9.setCell ⟨w.heap.size,0,none⟩ (.int .i64 s)).setCell ⟨w.heap.size,1,none⟩ (.int .i64 t)).setCell ⟨w.heap.size,2,none⟩ (.int .i64 k)).setCell ⟨w.heap.size,3,none⟩ (.int .i64 z)).setCell ⟨w.heap.size,4,none⟩ (.int .i64 q)).setCell ⟨w.heap.size,5,none⟩ (.int .i64 l)).setCell ⟨w.heap.size,6,none⟩ (.int .i64 e)).setCell ⟨w.heap.size,7,none⟩ (.bool b)).setCell ⟨w.heap.size,8,none⟩ (.int .i64 v)).setCell ⟨w.heap.size,9,none⟩ (.int .i64 r))=u10 at E10 bX10 hHeld ⊢
    refine rD 19 (fun K hK=>?_)
    have y0:=cA (ab E10).ZS 0
    have y1:=cA (ab E10).ZS 1
    simp only[gA,gZ,gS]at y0 y1
    have yf0:=cF (ab E10).ZS 0
    have yf1:=cF (ab E10).ZS 1
    have yz:w.heap.size+1<u10.heap.size:=aB (ab E10).ZS
    go_simp
    have E11:Hid (ik R w ((u10.setCell ⟨w.heap.size+1,0,none⟩ (.int .i64 m)).setCell ⟨w.heap.size+1,1,none⟩ (.slice au xs.length cu)) XJ XS s t k z q l e b v r m au cu xs #[.int .i64 s,.int .i64 t,.int .i64 k,.int .i64 z,.int .i64 q,.int .i64 l,.int .i64 e,.bool b,.int .i64 v,.int .i64 r] #[.int .i64 m,.slice au xs.length cu]):=ae (((ab E10).setZS 0 (.int .i64 m) (c9:=#[.int .i64 m,.slice none 0 0]) rfl).setZS 1 (.slice au xs.length cu) (c9:=#[.int .i64 m,.slice au xs.length cu]) rfl)
    have bX11:Hid (((u10.setCell ⟨w.heap.size+1,0,none⟩ (.int .i64 m)).setCell ⟨w.heap.size+1,1,none⟩ (.slice au xs.length cu)).heap[X]? =some (.cells #[.int .i64 m,.int .i64 (m+1),.int .i64 (m+9),.int .i64 (m - 1),.int .i64 1000,.int .i64 1001,.int .i64 (-1)] 3 (0,0))):=ae ((Below.heap_setCell _ _ _ _ (by show X≠w.heap.size+1;omega)).trans ((Below.heap_setCell _ _ _ _ (by show X≠w.heap.size+1;omega)).trans (ab bX10)))
    clear hHeld
    refine hK.out _ _ ?_ (fun hHeld=>?_)
    ·((try dsimp only);exact⟨(ab E11).J,(ab E11).S⟩)
    clear hK K
    try simp only[Act.put,tA,tZ,tS]
    clear y0 yf0 y1 yf1 yz E10
    generalize ((u10.setCell ⟨w.heap.size+1,0,none⟩ (.int .i64 m)).setCell ⟨w.heap.size+1,1,none⟩ (.slice au xs.length cu))=u11 at E11 bX11 hHeld ⊢
    refine kV 20 ?_
    refine wpAnyH_done (ni) ?_ _
    clear hHeld
    obtain⟨ya0,ya1,ya2,ya3,ya4,ya5,ya6,ya7,ya8,ya9⟩:=bH (ab E11).ZJ
    obtain⟨yb0,yb1⟩:=c2 (ab E11).ZS
    go_wp2
    refine bodyPost_ret (v:= .tuple #[.agg #[.int .i64 s,.int .i64 t,.int .i64 k,.int .i64 z,.int .i64 q,.int .i64 l,.int .i64 e,.bool b,.int .i64 v,.int .i64 r],.agg #[.int .i64 m,.slice au xs.length cu],.int .i64 t9]) (mH) rfl ?_
    exact⟨s,t,k,z,q,l,e,b,v,r,m,au,cu,xs,t9,rfl,World.ownsRow.mono (ab E11).O (by have:=(ab E11).nR;omega),by omega,hmb,ht9b,(ab E11).L⟩
   refine AllReadyH.cons (mY) (fun K hK=>?_) ?_
   ·skip
    obtain⟨y0,y1,y2,y3,y4,y5,y6,y7,y8,y9⟩:=bH (ab E9).ZJ
    obtain⟨yf0,yf1,yf2,yf3,yf4,yf5,yf6,yf7,yf8,yf9⟩:=f10 (ab E9).ZJ
    have yz:w.heap.size<u9.heap.size:=aB (ab E9).ZJ
    go_simp
    have E12:Hid (ik R w ((((((((((u9.setCell ⟨w.heap.size,0,none⟩ (.int .i64 s)).setCell ⟨w.heap.size,1,none⟩ (.int .i64 t)).setCell ⟨w.heap.size,2,none⟩ (.int .i64 k)).setCell ⟨w.heap.size,3,none⟩ (.int .i64 z)).setCell ⟨w.heap.size,4,none⟩ (.int .i64 q)).setCell ⟨w.heap.size,5,none⟩ (.int .i64 l)).setCell ⟨w.heap.size,6,none⟩ (.int .i64 e)).setCell ⟨w.heap.size,7,none⟩ (.bool b)).setCell ⟨w.heap.size,8,none⟩ (.int .i64 v)).setCell ⟨w.heap.size,9,none⟩ (.int .i64 r)) XJ XS s t k z q l e b v r m au cu xs #[.int .i64 s,.int .i64 t,.int .i64 k,.int .i64 z,.int .i64 q,.int .i64 l,.int .i64 e,.bool b,.int .i64 v,.int .i64 r] #[.int .i64 0,.slice none 0 0]):=ae (((((((((((ab E9).setZJ 0 (.int .i64 s) (c9:=#[.int .i64 s,.int .i64 0,.int .i64 0,.int .i64 0,.int .i64 0,.int .i64 0,.int .i64 0,.bool false,.int .i64 0,.int .i64 0]) rfl).setZJ 1 (.int .i64 t) (c9:=#[.int .i64 s,.int .i64 t,.int .i64 0,.int .i64 0,.int .i64 0,.int .i64 0,.int .i64 0,.bool false,.int .i64 0,.int .i64 0]) rfl).setZJ 2 (.int .i64 k) (c9:=#[.int .i64 s,.int .i64 t,.int .i64 k,.int .i64 0,.int .i64 0,.int .i64 0,.int .i64 0,.bool false,.int .i64 0,.int .i64 0]) rfl).setZJ 3 (.int .i64 z) (c9:=#[.int .i64 s,.int .i64 t,.int .i64 k,.int .i64 z,.int .i64 0,.int .i64 0,.int .i64 0,.bool false,.int .i64 0,.int .i64 0]) rfl).setZJ 4 (.int .i64 q) (c9:=#[.int .i64 s,.int .i64 t,.int .i64 k,.int .i64 z,.int .i64 q,.int .i64 0,.int .i64 0,.bool false,.int .i64 0,.int .i64 0]) rfl).setZJ 5 (.int .i64 l) (c9:=#[.int .i64 s,.int .i64 t,.int .i64 k,.int .i64 z,.int .i64 q,.int .i64 l,.int .i64 0,.bool false,.int .i64 0,.int .i64 0]) rfl).setZJ 6 (.int .i64 e) (c9:=#[.int .i64 s,.int .i64 t,.int .i64 k,.int .i64 z,.int .i64 q,.int .i64 l,.int .i64 e,.bool false,.int .i64 0,.int .i64 0]) rfl).setZJ 7 (.bool b) (c9:=#[.int .i64 s,.int .i64 t,.int .i64 k,.int .i64 z,.int .i64 q,.int .i64 l,.int .i64 e,.bool b,.int .i64 0,.int .i64 0]) rfl).setZJ 8 (.int .i64 v) (c9:=#[.int .i64 s,.int .i64 t,.int .i64 k,.int .i64 z,.int .i64 q,.int .i64 l,.int .i64 e,.bool b,.int .i64 v,.int .i64 0]) rfl).setZJ 9 (.int .i64 r) (c9:=#[.int .i64 s,.int .i64 t,.int .i64 k,.int .i64 z,.int .i64 q,.int .i64 l,.int .i64 e,.bool b,.int .i64 v,.int .i64 r]) rfl)
    have bX12:Hid (((((((((((u9.setCell ⟨w.heap.size,0,none⟩ (.int .i64 s)).setCell ⟨w.heap.size,1,none⟩ (.int .i64 t)).setCell ⟨w.heap.size,2,none⟩ (.int .i64 k)).setCell ⟨w.heap.size,3,none⟩ (.int .i64 z)).setCell ⟨w.heap.size,4,none⟩ (.int .i64 q)).setCell ⟨w.heap.size,5,none⟩ (.int .i64 l)).setCell ⟨w.heap.size,6,none⟩ (.int .i64 e)).setCell ⟨w.heap.size,7,none⟩ (.bool b)).setCell ⟨w.heap.size,8,none⟩ (.int .i64 v)).setCell ⟨w.heap.size,9,none⟩ (.int .i64 r)).heap[X]? =some (.cells #[.int .i64 m,.int .i64 (m+1),.int .i64 (m+9),.int .i64 (m - 1),.int .i64 1000,.int .i64 1001,.int .i64 (-1)] 3 (0,0))):=ae ((Below.heap_setCell _ _ _ _ (by show X≠w.heap.size;omega)).trans ((Below.heap_setCell _ _ _ _ (by show X≠w.heap.size;omega)).trans ((Below.heap_setCell _ _ _ _ (by show X≠w.heap.size;omega)).trans ((Below.heap_setCell _ _ _ _ (by show X≠w.heap.size;omega)).trans ((Below.heap_setCell _ _ _ _ (by show X≠w.heap.size;omega)).trans ((Below.heap_setCell _ _ _ _ (by show X≠w.heap.size;omega)).trans ((Below.heap_setCell _ _ _ _ (by show X≠w.heap.size;omega)).trans ((Below.heap_setCell _ _ _ _ (by show X≠w.heap.size;omega)).trans ((Below.heap_setCell _ _ _ _ (by show X≠w.heap.size;omega)).trans ((Below.heap_setCell _ _ _ _ (by show X≠w.heap.size;omega)).trans (ab bX9)))))))))))
    clear hHeld
    refine hK.out _ _ ?_ (fun hHeld=>?_)
    ·((try dsimp only);exact⟨(ab E12).J,(ab E12).S⟩)
    clear hK K
    try simp only[Act.put,tA,tZ,tS]
    clear y0 yf0 y1 yf1 y2 yf2 y3 yf3 y4 yf4 y5 yf5 y6 yf6 y7 yf7 y8 yf8 y9 yf9 yz E9
    generalize ((((((((((u9.setCell ⟨w.heap.size,0,none⟩ (.int .i64 s)).setCell ⟨w.heap.size,1,none⟩ (.int .i64 t)).setCell ⟨w.heap.size,2,none⟩ (.int .i64 k)).setCell ⟨w.heap.size,3,none⟩ (.int .i64 z)).setCell ⟨w.heap.size,4,none⟩ (.int .i64 q)).setCell ⟨w.heap.size,5,none⟩ (.int .i64 l)).setCell ⟨w.heap.size,6,none⟩ (.int .i64 e)).setCell ⟨w.heap.size,7,none⟩ (.bool b)).setCell ⟨w.heap.size,8,none⟩ (.int .i64 v)).setCell ⟨w.heap.size,9,none⟩ (.int .i64 r))=u12 at E12 bX12 hHeld ⊢
    refine wpAnyH_ready (rs:=[17,19]) (ni) (by simp) ?_
    refine AllReadyH.cons (mY) (fun K hK=>?_) ?_
    ·skip
     obtain⟨t9,ht9,mi⟩:=gO (ab bX12) (y:=y8) y8u
     have ht9b: -2≤t9∧t9≤1010:=by omega
     have zX:X<u12.heap.size:=aB (ab bX12)
     go_simp
     clear hHeld
     refine hK.out _ _ ?_ (fun hHeld=>?_)
     ·((try dsimp only);exact⟨(ab E12).J,(ab E12).S⟩)
     clear hK K
     try simp only[Act.put,tA,tZ,tS]
     clear ht9 mi zX
     refine rD 19 (fun K hK=>?_)
     have y0:=cA (ab E12).ZS 0
     have y1:=cA (ab E12).ZS 1
     simp only[gA,gZ,gS]at y0 y1
     have yf0:=cF (ab E12).ZS 0
     have yf1:=cF (ab E12).ZS 1
     have yz:w.heap.size+1<u12.heap.size:=aB (ab E12).ZS
     go_simp
     have E13:Hid (ik R w ((u12.setCell ⟨w.heap.size+1,0,none⟩ (.int .i64 m)).setCell ⟨w.heap.size+1,1,none⟩ (.slice au xs.length cu)) XJ XS s t k z q l e b v r m au cu xs #[.int .i64 s,.int .i64 t,.int .i64 k,.int .i64 z,.int .i64 q,.int .i64 l,.int .i64 e,.bool b,.int .i64 v,.int .i64 r] #[.int .i64 m,.slice au xs.length cu]):=ae (((ab E12).setZS 0 (.int .i64 m) (c9:=#[.int .i64 m,.slice none 0 0]) rfl).setZS 1 (.slice au xs.length cu) (c9:=#[.int .i64 m,.slice au xs.length cu]) rfl)
     have bX13:Hid (((u12.setCell ⟨w.heap.size+1,0,none⟩ (.int .i64 m)).setCell ⟨w.heap.size+1,1,none⟩ (.slice au xs.length cu)).heap[X]? =some (.cells #[.int .i64 m,.int .i64 (m+1),.int .i64 (m+9),.int .i64 (m - 1),.int .i64 1000,.int .i64 1001,.int .i64 (-1)] 3 (0,0))):=ae ((Below.heap_setCell _ _ _ _ (by show X≠w.heap.size+1;omega)).trans ((Below.heap_setCell _ _ _ _ (by show X≠w.heap.size+1;omega)).trans (ab bX12)))
     clear hHeld
     refine hK.out _ _ ?_ (fun hHeld=>?_)
     ·((try dsimp only);exact⟨(ab E13).J,(ab E13).S⟩)
     clear hK K
     try simp only[Act.put,tA,tZ,tS]
     clear y0 yf0 y1 yf1 yz E12
     generalize ((u12.setCell ⟨w.heap.size+1,0,none⟩ (.int .i64 m)).setCell ⟨w.heap.size+1,1,none⟩ (.slice au xs.length cu))=u13 at E13 bX13 hHeld ⊢
     refine kV 20 ?_
     refine wpAnyH_done (ni) ?_ _
     clear hHeld
     obtain⟨ya0,ya1,ya2,ya3,ya4,ya5,ya6,ya7,ya8,ya9⟩:=bH (ab E13).ZJ
     obtain⟨yb0,yb1⟩:=c2 (ab E13).ZS
     go_wp2
     refine bodyPost_ret (v:= .tuple #[.agg #[.int .i64 s,.int .i64 t,.int .i64 k,.int .i64 z,.int .i64 q,.int .i64 l,.int .i64 e,.bool b,.int .i64 v,.int .i64 r],.agg #[.int .i64 m,.slice au xs.length cu],.int .i64 t9]) (mH) rfl ?_
     exact⟨s,t,k,z,q,l,e,b,v,r,m,au,cu,xs,t9,rfl,World.ownsRow.mono (ab E13).O (by have:=(ab E13).nR;omega),by omega,hmb,ht9b,(ab E13).L⟩
    refine AllReadyH.cons (mY) (fun K hK=>?_) ?_
    ·skip
     have y0:=cA (ab E12).ZS 0
     have y1:=cA (ab E12).ZS 1
     simp only[gA,gZ,gS]at y0 y1
     have yf0:=cF (ab E12).ZS 0
     have yf1:=cF (ab E12).ZS 1
     have yz:w.heap.size+1<u12.heap.size:=aB (ab E12).ZS
     go_simp
     have E14:Hid (ik R w ((u12.setCell ⟨w.heap.size+1,0,none⟩ (.int .i64 m)).setCell ⟨w.heap.size+1,1,none⟩ (.slice au xs.length cu)) XJ XS s t k z q l e b v r m au cu xs #[.int .i64 s,.int .i64 t,.int .i64 k,.int .i64 z,.int .i64 q,.int .i64 l,.int .i64 e,.bool b,.int .i64 v,.int .i64 r] #[.int .i64 m,.slice au xs.length cu]):=ae (((ab E12).setZS 0 (.int .i64 m) (c9:=#[.int .i64 m,.slice none 0 0]) rfl).setZS 1 (.slice au xs.length cu) (c9:=#[.int .i64 m,.slice au xs.length cu]) rfl)
     have bX14:Hid (((u12.setCell ⟨w.heap.size+1,0,none⟩ (.int .i64 m)).setCell ⟨w.heap.size+1,1,none⟩ (.slice au xs.length cu)).heap[X]? =some (.cells #[.int .i64 m,.int .i64 (m+1),.int .i64 (m+9),.int .i64 (m - 1),.int .i64 1000,.int .i64 1001,.int .i64 (-1)] 3 (0,0))):=ae ((Below.heap_setCell _ _ _ _ (by show X≠w.heap.size+1;omega)).trans ((Below.heap_setCell _ _ _ _ (by show X≠w.heap.size+1;omega)).trans (ab bX12)))
     clear hHeld
     refine hK.out _ _ ?_ (fun hHeld=>?_)
     ·((try dsimp only);exact⟨(ab E14).J,(ab E14).S⟩)
     clear hK K
     try simp only[Act.put,tA,tZ,tS]
     clear y0 yf0 y1 yf1 yz E12
     generalize ((u12.setCell ⟨w.heap.size+1,0,none⟩ (.int .i64 m)).setCell ⟨w.heap.size+1,1,none⟩ (.slice au xs.length cu))=u14 at E14 bX14 hHeld ⊢
     refine rD 17 (fun K hK=>?_)
     obtain⟨t9,ht9,mi⟩:=gO (ab bX14) (y:=y8) y8u
     have ht9b: -2≤t9∧t9≤1010:=by omega
     have zX:X<u14.heap.size:=aB (ab bX14)
     go_simp
     clear hHeld
     refine hK.out _ _ ?_ (fun hHeld=>?_)
     ·((try dsimp only);exact⟨(ab E14).J,(ab E14).S⟩)
     clear hK K
     try simp only[Act.put,tA,tZ,tS]
     clear ht9 mi zX
     refine kV 20 ?_
     refine wpAnyH_done (ni) ?_ _
     clear hHeld
     obtain⟨ya0,ya1,ya2,ya3,ya4,ya5,ya6,ya7,ya8,ya9⟩:=bH (ab E14).ZJ
     obtain⟨yb0,yb1⟩:=c2 (ab E14).ZS
     go_wp2
     refine bodyPost_ret (v:= .tuple #[.agg #[.int .i64 s,.int .i64 t,.int .i64 k,.int .i64 z,.int .i64 q,.int .i64 l,.int .i64 e,.bool b,.int .i64 v,.int .i64 r],.agg #[.int .i64 m,.slice au xs.length cu],.int .i64 t9]) (mH) rfl ?_
     exact⟨s,t,k,z,q,l,e,b,v,r,m,au,cu,xs,t9,rfl,World.ownsRow.mono (ab E14).O (by have:=(ab E14).nR;omega),by omega,hmb,ht9b,(ab E14).L⟩
    exact AllReadyH.nil
   exact AllReadyH.nil
  refine AllReadyH.cons (mY) (fun K hK=>?_) ?_
  ·skip
   obtain⟨y0,y1,y2,y3,y4,y5,y6,y7,y8,y9⟩:=bH (ab E8).ZJ
   obtain⟨yf0,yf1,yf2,yf3,yf4,yf5,yf6,yf7,yf8,yf9⟩:=f10 (ab E8).ZJ
   have yz:w.heap.size<u8.heap.size:=aB (ab E8).ZJ
   go_simp
   have E15:Hid (ik R w ((((((((((u8.setCell ⟨w.heap.size,0,none⟩ (.int .i64 s)).setCell ⟨w.heap.size,1,none⟩ (.int .i64 t)).setCell ⟨w.heap.size,2,none⟩ (.int .i64 k)).setCell ⟨w.heap.size,3,none⟩ (.int .i64 z)).setCell ⟨w.heap.size,4,none⟩ (.int .i64 q)).setCell ⟨w.heap.size,5,none⟩ (.int .i64 l)).setCell ⟨w.heap.size,6,none⟩ (.int .i64 e)).setCell ⟨w.heap.size,7,none⟩ (.bool b)).setCell ⟨w.heap.size,8,none⟩ (.int .i64 v)).setCell ⟨w.heap.size,9,none⟩ (.int .i64 r)) XJ XS s t k z q l e b v r m au cu xs #[.int .i64 s,.int .i64 t,.int .i64 k,.int .i64 z,.int .i64 q,.int .i64 l,.int .i64 e,.bool b,.int .i64 v,.int .i64 r] #[.int .i64 0,.slice none 0 0]):=ae (((((((((((ab E8).setZJ 0 (.int .i64 s) (c9:=#[.int .i64 s,.int .i64 0,.int .i64 0,.int .i64 0,.int .i64 0,.int .i64 0,.int .i64 0,.bool false,.int .i64 0,.int .i64 0]) rfl).setZJ 1 (.int .i64 t) (c9:=#[.int .i64 s,.int .i64 t,.int .i64 0,.int .i64 0,.int .i64 0,.int .i64 0,.int .i64 0,.bool false,.int .i64 0,.int .i64 0]) rfl).setZJ 2 (.int .i64 k) (c9:=#[.int .i64 s,.int .i64 t,.int .i64 k,.int .i64 0,.int .i64 0,.int .i64 0,.int .i64 0,.bool false,.int .i64 0,.int .i64 0]) rfl).setZJ 3 (.int .i64 z) (c9:=#[.int .i64 s,.int .i64 t,.int .i64 k,.int .i64 z,.int .i64 0,.int .i64 0,.int .i64 0,.bool false,.int .i64 0,.int .i64 0]) rfl).setZJ 4 (.int .i64 q) (c9:=#[.int .i64 s,.int .i64 t,.int .i64 k,.int .i64 z,.int .i64 q,.int .i64 0,.int .i64 0,.bool false,.int .i64 0,.int .i64 0]) rfl).setZJ 5 (.int .i64 l) (c9:=#[.int .i64 s,.int .i64 t,.int .i64 k,.int .i64 z,.int .i64 q,.int .i64 l,.int .i64 0,.bool false,.int .i64 0,.int .i64 0]) rfl).setZJ 6 (.int .i64 e) (c9:=#[.int .i64 s,.int .i64 t,.int .i64 k,.int .i64 z,.int .i64 q,.int .i64 l,.int .i64 e,.bool false,.int .i64 0,.int .i64 0]) rfl).setZJ 7 (.bool b) (c9:=#[.int .i64 s,.int .i64 t,.int .i64 k,.int .i64 z,.int .i64 q,.int .i64 l,.int .i64 e,.bool b,.int .i64 0,.int .i64 0]) rfl).setZJ 8 (.int .i64 v) (c9:=#[.int .i64 s,.int .i64 t,.int .i64 k,.int .i64 z,.int .i64 q,.int .i64 l,.int .i64 e,.bool b,.int .i64 v,.int .i64 0]) rfl).setZJ 9 (.int .i64 r) (c9:=#[.int .i64 s,.int .i64 t,.int .i64 k,.int .i64 z,.int .i64 q,.int .i64 l,.int .i64 e,.bool b,.int .i64 v,.int .i64 r]) rfl)
   clear hHeld
   refine hK.out _ _ ?_ (fun hHeld=>?_)
   ·((try dsimp only);exact⟨(ab E15).J,(ab E15).S⟩)
   clear hK K
   try simp only[Act.put,tA,tZ,tS]
   clear y0 yf0 y1 yf1 y2 yf2 y3 yf3 y4 yf4 y5 yf5 y6 yf6 y7 yf7 y8 yf8 y9 yf9 yz E8
   generalize ((((((((((u8.setCell ⟨w.heap.size,0,none⟩ (.int .i64 s)).setCell ⟨w.heap.size,1,none⟩ (.int .i64 t)).setCell ⟨w.heap.size,2,none⟩ (.int .i64 k)).setCell ⟨w.heap.size,3,none⟩ (.int .i64 z)).setCell ⟨w.heap.size,4,none⟩ (.int .i64 q)).setCell ⟨w.heap.size,5,none⟩ (.int .i64 l)).setCell ⟨w.heap.size,6,none⟩ (.int .i64 e)).setCell ⟨w.heap.size,7,none⟩ (.bool b)).setCell ⟨w.heap.size,8,none⟩ (.int .i64 v)).setCell ⟨w.heap.size,9,none⟩ (.int .i64 r))=u15 at E15 hHeld ⊢
   have hRW3:R<u15.heap.size:=by have:=aB (ab E15).J;have:=(ab E15).nJ;omega
   refine wpAnyH_ready (rs:=[13,19]) (ni) (by simp) ?_
   refine AllReadyH.cons (mY) (fun K hK=>?_) ?_
   ·skip
    go_simp
    have E16:=ae ((ab E15).bel (show Below u15.heap.size u15 (u15.alloc (.cells #[.int .i64 m,.int .i64 (m+1),.int .i64 (m+9),.int .i64 (m - 1),.int .i64 1000,.int .i64 1001,.int .i64 (-1)] 3))from⟨rfl,rfl,rfl,by simp,fun k hk=>Below.heap_alloc u15 _ k hk⟩))
    have bX16:Hid ((u15.alloc (.cells #[.int .i64 m,.int .i64 (m+1),.int .i64 (m+9),.int .i64 (m - 1),.int .i64 1000,.int .i64 1001,.int .i64 (-1)] 3)).heap[u15.heap.size]? =some (.cells #[.int .i64 m,.int .i64 (m+1),.int .i64 (m+9),.int .i64 (m - 1),.int .i64 1000,.int .i64 1001,.int .i64 (-1)] 3 (0,0))):=ae (World.alloc_heap_new u15 (.cells #[.int .i64 m,.int .i64 (m+1),.int .i64 (m+9),.int .i64 (m - 1),.int .i64 1000,.int .i64 1001,.int .i64 (-1)] 3))
    have hXg:w.heap.size+1<u15.heap.size∧R<u15.heap.size:=by have h1:=aB (ab E15).J;have h2:=(ab E15).nJ;have h3:=(ab E15).nR;have h4:u15.heap.size=u15.heap.size:=rfl;omega
    have hnX:u15.heap.size≠R:=by omega
    clear hHeld
    refine hK.out _ _ ?_ (fun hHeld=>?_)
    ·((try dsimp only);exact⟨(ab E16).J,(ab E16).S⟩)
    clear hK K
    try simp only[Act.put,tA,tZ,tS]
    generalize u15.heap.size=X at bX16 hnX hXg ⊢
    have hRW:R<(u15.alloc (.cells #[.int .i64 m,.int .i64 (m+1),.int .i64 (m+9),.int .i64 (m - 1),.int .i64 1000,.int .i64 1001,.int .i64 (-1)] 3)).heap.size:=by have:=aB (ab E16).J;have:=(ab E16).nJ;omega
    generalize u15.alloc (.cells #[.int .i64 m,.int .i64 (m+1),.int .i64 (m+9),.int .i64 (m - 1),.int .i64 1000,.int .i64 1001,.int .i64 (-1)] 3)=u16 at E16 bX16 hRW hHeld ⊢
    clear E15
    have y8u:y8<7:=by omega
    refine kV 16 ?_
    refine wpAnyH_ready (rs:=[17,19]) (ni) (by simp) ?_
    refine AllReadyH.cons (mY) (fun K hK=>?_) ?_
    ·skip
     obtain⟨t9,ht9,mi⟩:=gO (ab bX16) (y:=y8) y8u
     have ht9b: -2≤t9∧t9≤1010:=by omega
     have zX:X<u16.heap.size:=aB (ab bX16)
     go_simp
     clear hHeld
     refine hK.out _ _ ?_ (fun hHeld=>?_)
     ·((try dsimp only);exact⟨(ab E16).J,(ab E16).S⟩)
     clear hK K
     try simp only[Act.put,tA,tZ,tS]
     clear ht9 mi zX
     refine rD 19 (fun K hK=>?_)
     obtain⟨y0,y1⟩:=c2 (ab E16).ZS
     obtain⟨yf0,yf1⟩:=f2 (ab E16).ZS
     have yz:w.heap.size+1<u16.heap.size:=aB (ab E16).ZS
     go_simp
     have E17:Hid (ik R w ((u16.setCell ⟨w.heap.size+1,0,none⟩ (.int .i64 m)).setCell ⟨w.heap.size+1,1,none⟩ (.slice au xs.length cu)) XJ XS s t k z q l e b v r m au cu xs #[.int .i64 s,.int .i64 t,.int .i64 k,.int .i64 z,.int .i64 q,.int .i64 l,.int .i64 e,.bool b,.int .i64 v,.int .i64 r] #[.int .i64 m,.slice au xs.length cu]):=ae (((ab E16).setZS 0 (.int .i64 m) (c9:=#[.int .i64 m,.slice none 0 0]) rfl).setZS 1 (.slice au xs.length cu) (c9:=#[.int .i64 m,.slice au xs.length cu]) rfl)
     have bX17:Hid (((u16.setCell ⟨w.heap.size+1,0,none⟩ (.int .i64 m)).setCell ⟨w.heap.size+1,1,none⟩ (.slice au xs.length cu)).heap[X]? =some (.cells #[.int .i64 m,.int .i64 (m+1),.int .i64 (m+9),.int .i64 (m - 1),.int .i64 1000,.int .i64 1001,.int .i64 (-1)] 3 (0,0))):=ae ((Below.heap_setCell _ _ _ _ (by show X≠w.heap.size+1;omega)).trans ((Below.heap_setCell _ _ _ _ (by show X≠w.heap.size+1;omega)).trans (ab bX16)))
     clear hHeld
     refine hK.out _ _ ?_ (fun hHeld=>?_)
     ·((try dsimp only);exact⟨(ab E17).J,(ab E17).S⟩)
     clear hK K
     try simp only[Act.put,tA,tZ,tS]
     clear y0 yf0 y1 yf1 yz E16
     generalize ((u16.setCell ⟨w.heap.size+1,0,none⟩ (.int .i64 m)).setCell ⟨w.heap.size+1,1,none⟩ (.slice au xs.length cu))=u17 at E17 bX17 hHeld ⊢
     refine kV 20 ?_
     refine wpAnyH_done (ni) ?_ _
     clear hHeld
     obtain⟨ya0,ya1,ya2,ya3,ya4,ya5,ya6,ya7,ya8,ya9⟩:=bH (ab E17).ZJ
     obtain⟨yb0,yb1⟩:=c2 (ab E17).ZS
     go_wp2
     refine bodyPost_ret (v:= .tuple #[.agg #[.int .i64 s,.int .i64 t,.int .i64 k,.int .i64 z,.int .i64 q,.int .i64 l,.int .i64 e,.bool b,.int .i64 v,.int .i64 r],.agg #[.int .i64 m,.slice au xs.length cu],.int .i64 t9]) (mH) rfl ?_
     exact⟨s,t,k,z,q,l,e,b,v,r,m,au,cu,xs,t9,rfl,World.ownsRow.mono (ab E17).O (by have:=(ab E17).nR;omega),by omega,hmb,ht9b,(ab E17).L⟩
    refine AllReadyH.cons (mY) (fun K hK=>?_) ?_
    ·skip
     obtain⟨y0,y1⟩:=c2 (ab E16).ZS
     obtain⟨yf0,yf1⟩:=f2 (ab E16).ZS
     have yz:w.heap.size+1<u16.heap.size:=aB (ab E16).ZS
     go_simp
     have E18:Hid (ik R w ((u16.setCell ⟨w.heap.size+1,0,none⟩ (.int .i64 m)).setCell ⟨w.heap.size+1,1,none⟩ (.slice au xs.length cu)) XJ XS s t k z q l e b v r m au cu xs #[.int .i64 s,.int .i64 t,.int .i64 k,.int .i64 z,.int .i64 q,.int .i64 l,.int .i64 e,.bool b,.int .i64 v,.int .i64 r] #[.int .i64 m,.slice au xs.length cu]):=ae (((ab E16).setZS 0 (.int .i64 m) (c9:=#[.int .i64 m,.slice none 0 0]) rfl).setZS 1 (.slice au xs.length cu) (c9:=#[.int .i64 m,.slice au xs.length cu]) rfl)
     have bX18:Hid (((u16.setCell ⟨w.heap.size+1,0,none⟩ (.int .i64 m)).setCell ⟨w.heap.size+1,1,none⟩ (.slice au xs.length cu)).heap[X]? =some (.cells #[.int .i64 m,.int .i64 (m+1),.int .i64 (m+9),.int .i64 (m - 1),.int .i64 1000,.int .i64 1001,.int .i64 (-1)] 3 (0,0))):=ae ((Below.heap_setCell _ _ _ _ (by show X≠w.heap.size+1;omega)).trans ((Below.heap_setCell _ _ _ _ (by show X≠w.heap.size+1;omega)).trans (ab bX16)))
     clear hHeld
     refine hK.out _ _ ?_ (fun hHeld=>?_)
     ·((try dsimp only);exact⟨(ab E18).J,(ab E18).S⟩)
     clear hK K
     try simp only[Act.put,tA,tZ,tS]
     clear y0 yf0 y1 yf1 yz E16
     generalize ((u16.setCell ⟨w.heap.size+1,0,none⟩ (.int .i64 m)).setCell ⟨w.heap.size+1,1,none⟩ (.slice au xs.length cu))=u18 at E18 bX18 hHeld ⊢
     refine rD 17 (fun K hK=>?_)
     obtain⟨t9,ht9,mi⟩:=gO (ab bX18) (y:=y8) y8u
     have ht9b: -2≤t9∧t9≤1010:=by omega
     have zX:X<u18.heap.size:=aB (ab bX18)
     go_simp
     clear hHeld
     refine hK.out _ _ ?_ (fun hHeld=>?_)
     ·((try dsimp only);exact⟨(ab E18).J,(ab E18).S⟩)
     clear hK K
     try simp only[Act.put,tA,tZ,tS]
     clear ht9 mi zX
     refine kV 20 ?_
     refine wpAnyH_done (ni) ?_ _
     clear hHeld
     obtain⟨ya0,ya1,ya2,ya3,ya4,ya5,ya6,ya7,ya8,ya9⟩:=bH (ab E18).ZJ
     obtain⟨yb0,yb1⟩:=c2 (ab E18).ZS
     go_wp2
     refine bodyPost_ret (v:= .tuple #[.agg #[.int .i64 s,.int .i64 t,.int .i64 k,.int .i64 z,.int .i64 q,.int .i64 l,.int .i64 e,.bool b,.int .i64 v,.int .i64 r],.agg #[.int .i64 m,.slice au xs.length cu],.int .i64 t9]) (mH) rfl ?_
     exact⟨s,t,k,z,q,l,e,b,v,r,m,au,cu,xs,t9,rfl,World.ownsRow.mono (ab E18).O (by have:=(ab E18).nR;omega),by omega,hmb,ht9b,(ab E18).L⟩
    exact AllReadyH.nil
   refine AllReadyH.cons (mY) (fun K hK=>?_) ?_
   ·skip
    have y0:=cA (ab E15).ZS 0
    have y1:=cA (ab E15).ZS 1
    simp only[gA,gZ,gS]at y0 y1
    have yf0:=cF (ab E15).ZS 0
    have yf1:=cF (ab E15).ZS 1
    have yz:w.heap.size+1<u15.heap.size:=aB (ab E15).ZS
    go_simp
    have E19:Hid (ik R w ((u15.setCell ⟨w.heap.size+1,0,none⟩ (.int .i64 m)).setCell ⟨w.heap.size+1,1,none⟩ (.slice au xs.length cu)) XJ XS s t k z q l e b v r m au cu xs #[.int .i64 s,.int .i64 t,.int .i64 k,.int .i64 z,.int .i64 q,.int .i64 l,.int .i64 e,.bool b,.int .i64 v,.int .i64 r] #[.int .i64 m,.slice au xs.length cu]):=ae (((ab E15).setZS 0 (.int .i64 m) (c9:=#[.int .i64 m,.slice none 0 0]) rfl).setZS 1 (.slice au xs.length cu) (c9:=#[.int .i64 m,.slice au xs.length cu]) rfl)
    clear hHeld
    refine hK.out _ _ ?_ (fun hHeld=>?_)
    ·((try dsimp only);exact⟨(ab E19).J,(ab E19).S⟩)
    clear hK K
    try simp only[Act.put,tA,tZ,tS]
    clear y0 yf0 y1 yf1 yz E15
    generalize ((u15.setCell ⟨w.heap.size+1,0,none⟩ (.int .i64 m)).setCell ⟨w.heap.size+1,1,none⟩ (.slice au xs.length cu))=u19 at E19 hHeld ⊢
    have hRW3:R<u19.heap.size:=by have:=aB (ab E19).J;have:=(ab E19).nJ;omega
    refine rD 13 (fun K hK=>?_)
    go_simp
    have E20:=ae ((ab E19).bel (show Below u19.heap.size u19 (u19.alloc (.cells #[.int .i64 m,.int .i64 (m+1),.int .i64 (m+9),.int .i64 (m - 1),.int .i64 1000,.int .i64 1001,.int .i64 (-1)] 3))from⟨rfl,rfl,rfl,by simp,fun k hk=>Below.heap_alloc u19 _ k hk⟩))
    have bX20:Hid ((u19.alloc (.cells #[.int .i64 m,.int .i64 (m+1),.int .i64 (m+9),.int .i64 (m - 1),.int .i64 1000,.int .i64 1001,.int .i64 (-1)] 3)).heap[u19.heap.size]? =some (.cells #[.int .i64 m,.int .i64 (m+1),.int .i64 (m+9),.int .i64 (m - 1),.int .i64 1000,.int .i64 1001,.int .i64 (-1)] 3 (0,0))):=ae (World.alloc_heap_new u19 (.cells #[.int .i64 m,.int .i64 (m+1),.int .i64 (m+9),.int .i64 (m - 1),.int .i64 1000,.int .i64 1001,.int .i64 (-1)] 3))
    have hXg:w.heap.size+1<u19.heap.size∧R<u19.heap.size:=by have h1:=aB (ab E19).J;have h2:=(ab E19).nJ;have h3:=(ab E19).nR;have h4:u19.heap.size=u19.heap.size:=rfl;omega
    have hnX:u19.heap.size≠R:=by omega
    clear hHeld
    refine hK.out _ _ ?_ (fun hHeld=>?_)
    ·((try dsimp only);exact⟨(ab E20).J,(ab E20).S⟩)
    clear hK K
    try simp only[Act.put,tA,tZ,tS]
    generalize u19.heap.size=X at bX20 hnX hXg ⊢
    have hRW:R<(u19.alloc (.cells #[.int .i64 m,.int .i64 (m+1),.int .i64 (m+9),.int .i64 (m - 1),.int .i64 1000,.int .i64 1001,.int .i64 (-1)] 3)).heap.size:=by have:=aB (ab E20).J;have:=(ab E20).nJ;omega
    generalize u19.alloc (.cells #[.int .i64 m,.int .i64 (m+1),.int .i64 (m+9),.int .i64 (m - 1),.int .i64 1000,.int .i64 1001,.int .i64 (-1)] 3)=u20 at E20 bX20 hRW hHeld ⊢
    clear E19
    have y8u:y8<7:=by omega
    refine kV 16 ?_
    refine rD 17 (fun K hK=>?_)
    obtain⟨t9,ht9,mi⟩:=gO (ab bX20) (y:=y8) y8u
    have ht9b: -2≤t9∧t9≤1010:=by omega
    have zX:X<u20.heap.size:=aB (ab bX20)
    go_simp
    clear hHeld
    refine hK.out _ _ ?_ (fun hHeld=>?_)
    ·((try dsimp only);exact⟨(ab E20).J,(ab E20).S⟩)
    clear hK K
    try simp only[Act.put,tA,tZ,tS]
    clear ht9 mi zX
    refine kV 20 ?_
    refine wpAnyH_done (ni) ?_ _
    clear hHeld
    obtain⟨ya0,ya1,ya2,ya3,ya4,ya5,ya6,ya7,ya8,ya9⟩:=bH (ab E20).ZJ
    obtain⟨yb0,yb1⟩:=c2 (ab E20).ZS
    go_wp2
    refine bodyPost_ret (v:= .tuple #[.agg #[.int .i64 s,.int .i64 t,.int .i64 k,.int .i64 z,.int .i64 q,.int .i64 l,.int .i64 e,.bool b,.int .i64 v,.int .i64 r],.agg #[.int .i64 m,.slice au xs.length cu],.int .i64 t9]) (mH) rfl ?_
    exact⟨s,t,k,z,q,l,e,b,v,r,m,au,cu,xs,t9,rfl,World.ownsRow.mono (ab E20).O (by have:=(ab E20).nR;omega),by omega,hmb,ht9b,(ab E20).L⟩
   exact AllReadyH.nil
  exact AllReadyH.nil
 exact AllReadyH.nil
end Go.Proofs.Ytdmhihcipkhecaa
