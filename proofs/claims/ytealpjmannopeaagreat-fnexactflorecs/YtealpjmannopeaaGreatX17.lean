/- Laid together: what the claim needs of the texts that were built one by one. -/
import Derived.Test.YtealpjmannopeaaGreatX15
import Derived.Test.YtealpjmannopeaaGreatX16
import Derived.Test.YtealpjmannopeaaGreatX0
set_option linter.unusedVariables false
namespace Go.Proofs.YtealpjmannopeaaGreat
open Go.ChangeShapes Go.WideShapes Go.ChangeAt Go.RowKit
set_option linter.unusedSimpArgs false
theorem fo{ps:List cx}{ls:List cq}{o:Bool}(n:Int)(pa:Option Addr)(pl pc:Nat)(la:Option Addr)(ll lc:Nat)(w:World)(h1:eS w pa pl ps)(h2:eT w la ll ls)(ho:Hid (bj n ps ls=o)):Calls Tryz.prog 109 #[.agg #[.int .i64 n,.slice pa pl pc,.slice la ll lc]] w fun e' w'=>e'= .returned (.bool o)∧Below w.heap.size w w':=by
 rw[←aa ho];exact cV n pa pl pc la ll lc ps ls w h1 h2
theorem specpanok_e(y:cx){o:Bool}(w:World)(ho:Hid (y.okB=o)):Calls Tryz.prog 113 #[.agg #[.int .i64 y.ky,.int .i64 y.st,.int .i64 y.en,.int .i64 y.no,.int .i64 y.kd,.int .i64 y.n,.int .i64 y.su,.int .i64 y.le,.int .i64 y.mo]] w fun e' w'=>e'= .returned (.bool o)∧Below w.heap.size w w':=by
 rw[←aa ho];exact dZ _ _ _ _ _ _ _ _ _ w
theorem speclatok_e(y:cq){o:Bool}(w:World)(ho:Hid (y.okB=o)):Calls Tryz.prog 114 #[.agg #[.int .i64 y.kd,.int .i64 y.tm,.int .i64 y.ke,.int .i64 y.va,.int .i64 y.nn,.int .i64 y.st,.int .i64 y.en]] w fun e' w'=>e'= .returned (.bool o)∧Below w.heap.size w w':=by
 rw[←aa ho];exact ed _ _ _ _ _ _ _ w
set_option maxRecDepth 20000 in
set_option maxHeartbeats 16000000 in
theorem jv(x:bC)(a0:Option Addr)(l0 c0:Nat)(a2:Option Addr)(l2 c2:Nat)(a3:Option Addr)(l3 c3:Nat)(B:Nat)(w:World)(h0:eX w B a0 l0 x.rd)(h2:cQ w B a2 l2 x.ps)(h3:cS w B a3 l3 x.ls):Calls Tryz.prog 65 #[.agg #[.slice a0 l0 c0,.int .i64 x.n,.slice a2 l2 c2,.slice a3 l3 c3]] w fun e' w'=>e'= .returned (.bool x.okB)∧Below w.heap.size w w':=by
 have HB0:Below w.heap.size w (w.alloc (.cells #[.slice a0 l0 c0,.int .i64 x.n,.slice a2 l2 c2,.slice a3 l3 c3] 74)):=ai _ _
 have bX:=aR w #[.slice a0 l0 c0,.int .i64 x.n,.slice a2 l2 c2,.slice a3 l3 c3] 74
 have hl0:=h0.len
 have hl2:=h2.len
 have hl3:=h3.len
 go_enter Tryz.func65,Tryz.ntmps65
 go_upto_region 1 with fail
 generalize (w.alloc (.cells #[.slice a0 l0 c0,.int .i64 x.n,.slice a2 l2 c2,.slice a3 l3 c3] 74))=W0 at bX HB0 ⊢
 have zX:=ao bX
 have HT:=ab (h0.below HB0)
 have HP:=ab (h2.below HB0)
 have HL:=ab (h3.below HB0)
 have HB:=ab HB0
 clear HB0 h0 h2 h3
 obtain⟨cx0,cx1,cx2,cx3⟩:=c4 bX
 by_cases t1:l0≤12
 rotate_left
 ·have hE:=ab (show x.okB=false by unfold bC.okB;rw[decide_eq_false (by omega)];simp)
  have d1:decide ((12:Int)<(l0:Int))=true:=decide_eq_true (by omega)
  have d2:decide (12<l0)=true:=decide_eq_true (by omega)
  go_wp2
  go_ret
  exact⟨af (aa hE).symm,aa HB⟩
 have d1:decide ((12:Int)<(l0:Int))=false:=decide_eq_false (by omega)
 have d2:decide (12<l0)=false:=decide_eq_false (by omega)
 cases t2:aP x.n 0 900
 ·have hE:=ab (show x.okB=false by unfold bC.okB;rw[t2];simp)
  go_wp2_with (go_at_call 63;refine(al _ _ _ _).mono ?_;rintro e w9 ⟨rfl,hw⟩;obtain rfl:=hw.symm;clear hw)
  go_ret
  exact⟨af (aa hE).symm,aa HB⟩
 by_cases t3:l2≤1500
 rotate_left
 ·have hE:=ab (show x.okB=false by unfold bC.okB;rw[decide_eq_false (p:=x.ps.length≤1500) (by omega)];simp)
  have d3:decide ((1500:Int)<(l2:Int))=true:=decide_eq_true (by omega)
  have d4:decide (1500<l2)=true:=decide_eq_true (by omega)
  go_wp2_with (go_at_call 63;refine(al _ _ _ _).mono ?_;rintro e w9 ⟨rfl,hw⟩;obtain rfl:=hw.symm;clear hw)
  go_ret
  exact⟨af (aa hE).symm,aa HB⟩
 have d3:decide ((1500:Int)<(l2:Int))=false:=decide_eq_false (by omega)
 have d4:decide (1500<l2)=false:=decide_eq_false (by omega)
 by_cases t4:l3≤1500
 rotate_left
 ·have hE:=ab (show x.okB=false by unfold bC.okB;rw[decide_eq_false (p:=x.ls.length≤1500) (by omega)];simp)
  have d5:decide ((1500:Int)<(l3:Int))=true:=decide_eq_true (by omega)
  have d6:decide (1500<l3)=true:=decide_eq_true (by omega)
  go_wp2_with (go_at_call 63;refine(al _ _ _ _).mono ?_;rintro e w9 ⟨rfl,hw⟩;obtain rfl:=hw.symm;clear hw)
  go_ret
  exact⟨af (aa hE).symm,aa HB⟩
 have d5:decide ((1500:Int)<(l3:Int))=false:=decide_eq_false (by omega)
 have d6:decide (1500<l3)=false:=decide_eq_false (by omega)
 have HV:Hid (x.okB=(x.rd.all cf.okB&&bv x.n x.rd&&x.ps.all cx.okB&&x.ls.all cq.okB)):=ab (by
  unfold bC.okB;rw[decide_eq_true (p:=x.rd.length≤12) (by omega),t2,decide_eq_true (p:=x.ps.length≤1500) (by omega),decide_eq_true (p:=x.ls.length≤1500) (by omega)];rfl)
 go_wp2_with (go_at_call 63;refine(al _ _ _ _).mono ?_;rintro e w9 ⟨rfl,hw⟩;obtain rfl:=hw.symm;clear hw)
 clear d1 d2 d3 d4 d5 d6 t2 cx0 cx1 cx2 cx3
 go_loopw [3] (fun i wr=>∃ix:Nat,ix≤l0∧i= .int .i64 ix∧Hid ((x.rd.take ix).all cf.okB=true)∧Hid (bv x.n (x.rd.take ix)=true)∧Below W0.heap.size W0 wr) (fun i _=>l0 - (intOf i).toNat)
 case atStart=>exact⟨0,Nat.zero_le _,rfl,ab rfl,ab rfl,Below.refl _ _⟩
 case round=>
  obtain⟨ix,hk,rfl,HA,HR,hbw⟩:=hrel
  have bXr:=(hbw.block _ zX).trans bX
  have zXr:=ao bXr
  obtain⟨cx0,cx1,cx2,cx3⟩:=c4 bXr
  by_cases hlt:ix<l0
  ·have hT:=(aa HT).below hbw
   obtain⟨_,_,hx9⟩:=hT
   obtain⟨g,o,rfl,_,hr⟩:=hx9.resolve_left (by omega)
   obtain⟨y,hy⟩:∃y,x.rd[ix]? =some y:=⟨_,List.getElem?_eq_getElem (by omega)⟩
   have hy1:=hr ix y hy
   have zg:=hy1.lt
   obtain⟨a1y,l1y,c1y,a2y,l2y,c2y,⟨e0,e1,e2⟩,k1,k2⟩:=hy1
   have HY:=ab hy
   have hltI:(ix:Int)<(l0:Int):=by omega
   have HK1:=ab k1
   have HK2:=ab k2
   have HRR:=ab hr
   clear hx9 hr hy k1 k2
   obtain⟨ob,hob⟩:∃ob,bj y.n y.ps y.ls=ob:=⟨_,rfl⟩
   have HO:=ab hob
   clear hob
   go_wp2_with fail
   cases ob with
   |false=>
    have hE:=ab (show x.okB=false by rw[aa HV,eL (f:=cf.okB) (aa HY) (aa HO)];simp)
    refine wp_region_held_drew (S:=(fun W=>Below wr.heap.size wr W)) (jK) ?_ (fun hHeld=>?_)
    ·exact aj (Below.refl _ _)
    refine kV 0 ?_
    refine kT 1 ?_ ?_ ?_
    rotate_left
    ·(intro w9 hSw;(try dsimp only at hSw);have g0:=(hSw.cell (p:=⟨w.heap.size,0,none⟩) zXr).trans cx0;go_simp<;>with_reducible rfl)
    try simp only[Act.put,tA,tZ,tS]
    refine kV 2 ?_
    refine kV 3 ?_
    refine kT 4 ?_ ?_ ?_
    rotate_left
    ·(intro w9 hSw;(try dsimp only at hSw);have g4:=(hSw.cell (p:=⟨g,o+ix*3,none⟩) zg).trans e0;have g5:=(hSw.cell (p:=⟨g,o+ix*3+1,none⟩) zg).trans e1;have g6:=(hSw.cell (p:=⟨g,o+ix*3+2,none⟩) zg).trans e2;go_simp<;>with_reducible rfl)
    try simp only[Act.put,tA,tZ,tS]
    refine rD 5 (fun K hK=>?_)
    go_simp
    (try dsimp only at hHeld)
    (go_at_call 109;refine(fo (ps:=y.ps) (ls:=y.ls) y.n a1y l1y c1y a2y l2y c2y _ ((aa HK1).1.below hHeld) ((aa HK2).1.below hHeld) HO).mono ?_;rintro e9 wt ⟨rfl,hbwt⟩)
    (try go_wp2_with fail)
    refine hK.out _ _ (ae hHeld hbwt) (fun jB=>?_)
    clear hK K hHeld
    have hHeld:=jB
    clear jB
    (try dsimp only at hHeld)
    try simp only[Act.put,tA,tZ,tS]
    refine kV 6 ?_
    refine kV 7 ?_
    refine kU 8 ?_
    try simp only[Act.put,tA,tZ,tS]
    refine kU 9 ?_
    try simp only[Act.put,tA,tZ,tS]
    refine kU 10 ?_
    try simp only[Act.put,tA,tZ,tS]
    refine kU 11 ?_
    try simp only[Act.put,tA,tZ,tS]
    refine kU 12 ?_
    try simp only[Act.put,tA,tZ,tS]
    refine kU 13 ?_
    try simp only[Act.put,tA,tZ,tS]
    refine kU 14 ?_
    try simp only[Act.put,tA,tZ,tS]
    refine kU 15 ?_
    try simp only[Act.put,tA,tZ,tS]
    refine kU 16 ?_
    try simp only[Act.put,tA,tZ,tS]
    refine kV 17 ?_
    refine kV 18 ?_
    refine kU 19 ?_
    try simp only[Act.put,tA,tZ,tS]
    refine kU 20 ?_
    try simp only[Act.put,tA,tZ,tS]
    refine kU 21 ?_
    try simp only[Act.put,tA,tZ,tS]
    refine kU 22 ?_
    try simp only[Act.put,tA,tZ,tS]
    refine kU 23 ?_
    try simp only[Act.put,tA,tZ,tS]
    refine kU 24 ?_
    try simp only[Act.put,tA,tZ,tS]
    refine kU 25 ?_
    try simp only[Act.put,tA,tZ,tS]
    refine kU 26 ?_
    try simp only[Act.put,tA,tZ,tS]
    refine kU 27 ?_
    try simp only[Act.put,tA,tZ,tS]
    refine kU 28 ?_
    try simp only[Act.put,tA,tZ,tS]
    refine kU 29 ?_
    try simp only[Act.put,tA,tZ,tS]
    refine kU 30 ?_
    try simp only[Act.put,tA,tZ,tS]
    refine kU 31 ?_
    try simp only[Act.put,tA,tZ,tS]
    refine kU 32 ?_
    try simp only[Act.put,tA,tZ,tS]
    refine kU 33 ?_
    try simp only[Act.put,tA,tZ,tS]
    refine kU 34 ?_
    try simp only[Act.put,tA,tZ,tS]
    refine kU 35 ?_
    try simp only[Act.put,tA,tZ,tS]
    refine kU 36 ?_
    try simp only[Act.put,tA,tZ,tS]
    refine kV 37 ?_
    refine wpAnyH_done (jK) ?_ _
    go_wp2
    go_ret
    exact⟨af (aa hE).symm,ae (aa HB) (ae hbw hHeld)⟩
   |true=>
    by_cases hn:y.n≤x.n
    ·have hE:=ab (show x.okB=false by rw[aa HV,iq (aa HY) (by have:=last_ge _ _ (aa HR);omega)];simp)
     have dn:decide (y.n≤x.n)=true:=decide_eq_true hn
     refine wp_region_held_drew (S:=(fun W=>Below wr.heap.size wr W)) (jK) ?_ (fun hHeld=>?_)
     ·exact aj (Below.refl _ _)
     refine kV 0 ?_
     refine kT 1 ?_ ?_ ?_
     rotate_left
     ·(intro w9 hSw;(try dsimp only at hSw);have g0:=(hSw.cell (p:=⟨w.heap.size,0,none⟩) zXr).trans cx0;go_simp<;>with_reducible rfl)
     try simp only[Act.put,tA,tZ,tS]
     refine kV 2 ?_
     refine kV 3 ?_
     refine kT 4 ?_ ?_ ?_
     rotate_left
     ·(intro w9 hSw;(try dsimp only at hSw);have g4:=(hSw.cell (p:=⟨g,o+ix*3,none⟩) zg).trans e0;have g5:=(hSw.cell (p:=⟨g,o+ix*3+1,none⟩) zg).trans e1;have g6:=(hSw.cell (p:=⟨g,o+ix*3+2,none⟩) zg).trans e2;go_simp<;>with_reducible rfl)
     try simp only[Act.put,tA,tZ,tS]
     refine rD 5 (fun K hK=>?_)
     go_simp
     (try dsimp only at hHeld)
     (go_at_call 109;refine(fo (ps:=y.ps) (ls:=y.ls) y.n a1y l1y c1y a2y l2y c2y _ ((aa HK1).1.below hHeld) ((aa HK2).1.below hHeld) HO).mono ?_;rintro e9 wt ⟨rfl,hbwt⟩)
     (try go_wp2_with fail)
     refine hK.out _ _ (ae hHeld hbwt) (fun jB=>?_)
     clear hK K hHeld
     have hHeld:=jB
     clear jB
     (try dsimp only at hHeld)
     try simp only[Act.put,tA,tZ,tS]
     refine kV 6 ?_
     refine kV 7 ?_
     refine kV 8 ?_
     refine kT 9 ?_ ?_ ?_
     rotate_left
     ·(intro w9 hSw;(try dsimp only at hSw);have g0:=(hSw.cell (p:=⟨w.heap.size,0,none⟩) zXr).trans cx0;go_simp<;>with_reducible rfl)
     try simp only[Act.put,tA,tZ,tS]
     refine kV 10 ?_
     refine kV 11 ?_
     refine kV 12 ?_
     refine kT 13 ?_ ?_ ?_
     rotate_left
     ·(intro w9 hSw;(try dsimp only at hSw);have g4:=(hSw.cell (p:=⟨g,o+ix*3,none⟩) zg).trans e0;go_simp<;>with_reducible rfl)
     try simp only[Act.put,tA,tZ,tS]
     refine kV 14 ?_
     refine kT 15 ?_ ?_ ?_
     rotate_left
     ·(intro w9 hSw;(try dsimp only at hSw);have g1:=(hSw.cell (p:=⟨w.heap.size,1,none⟩) zXr).trans cx1;go_simp<;>with_reducible rfl)
     try simp only[Act.put,tA,tZ,tS]
     refine kV 16 ?_
     refine kV 17 ?_
     refine kV 18 ?_
     refine kU 19 ?_
     try simp only[Act.put,tA,tZ,tS]
     refine kU 20 ?_
     try simp only[Act.put,tA,tZ,tS]
     refine kU 21 ?_
     try simp only[Act.put,tA,tZ,tS]
     refine kU 22 ?_
     try simp only[Act.put,tA,tZ,tS]
     refine kU 23 ?_
     try simp only[Act.put,tA,tZ,tS]
     refine kU 24 ?_
     try simp only[Act.put,tA,tZ,tS]
     refine kU 25 ?_
     try simp only[Act.put,tA,tZ,tS]
     refine kU 26 ?_
     try simp only[Act.put,tA,tZ,tS]
     refine kU 27 ?_
     try simp only[Act.put,tA,tZ,tS]
     refine kU 28 ?_
     try simp only[Act.put,tA,tZ,tS]
     refine kU 29 ?_
     try simp only[Act.put,tA,tZ,tS]
     refine kU 30 ?_
     try simp only[Act.put,tA,tZ,tS]
     refine kU 31 ?_
     try simp only[Act.put,tA,tZ,tS]
     refine kU 32 ?_
     try simp only[Act.put,tA,tZ,tS]
     refine kU 33 ?_
     try simp only[Act.put,tA,tZ,tS]
     refine kU 34 ?_
     try simp only[Act.put,tA,tZ,tS]
     refine kU 35 ?_
     try simp only[Act.put,tA,tZ,tS]
     refine kU 36 ?_
     try simp only[Act.put,tA,tZ,tS]
     refine kV 37 ?_
     refine wpAnyH_done (jK) ?_ _
     go_wp2
     go_ret
     exact⟨af (aa hE).symm,ae (aa HB) (ae hbw hHeld)⟩
    ·have dn:decide (y.n≤x.n)=false:=decide_eq_false hn
     have HA2:=ab (em (aa HA) (aa HY) (aa HO))
     by_cases h0i:ix=0
     ·have HR2:=ab (gp (aa HR) (aa HY) (by rw[h0i];show x.n<y.n;omega))
      have dz:decide ((0:Int)<(ix:Int))=false:=decide_eq_false (by omega)
      have dz2:decide (0<ix)=false:=decide_eq_false (by omega)
      clear h0i
      refine wp_region_held_drew (S:=(fun W=>Below wr.heap.size wr W)) (jK) ?_ (fun hHeld=>?_)
      ·exact aj (Below.refl _ _)
      refine kV 0 ?_
      refine kT 1 ?_ ?_ ?_
      rotate_left
      ·(intro w9 hSw;(try dsimp only at hSw);have g0:=(hSw.cell (p:=⟨w.heap.size,0,none⟩) zXr).trans cx0;go_simp<;>with_reducible rfl)
      try simp only[Act.put,tA,tZ,tS]
      refine kV 2 ?_
      refine kV 3 ?_
      refine kT 4 ?_ ?_ ?_
      rotate_left
      ·(intro w9 hSw;(try dsimp only at hSw);have g4:=(hSw.cell (p:=⟨g,o+ix*3,none⟩) zg).trans e0;have g5:=(hSw.cell (p:=⟨g,o+ix*3+1,none⟩) zg).trans e1;have g6:=(hSw.cell (p:=⟨g,o+ix*3+2,none⟩) zg).trans e2;go_simp<;>with_reducible rfl)
      try simp only[Act.put,tA,tZ,tS]
      refine rD 5 (fun K hK=>?_)
      go_simp
      (try dsimp only at hHeld)
      (go_at_call 109;refine(fo (ps:=y.ps) (ls:=y.ls) y.n a1y l1y c1y a2y l2y c2y _ ((aa HK1).1.below hHeld) ((aa HK2).1.below hHeld) HO).mono ?_;rintro e9 wt ⟨rfl,hbwt⟩)
      (try go_wp2_with fail)
      refine hK.out _ _ (ae hHeld hbwt) (fun jB=>?_)
      clear hK K hHeld
      have hHeld:=jB
      clear jB
      (try dsimp only at hHeld)
      try simp only[Act.put,tA,tZ,tS]
      refine kV 6 ?_
      refine kV 7 ?_
      refine kV 8 ?_
      refine kT 9 ?_ ?_ ?_
      rotate_left
      ·(intro w9 hSw;(try dsimp only at hSw);have g0:=(hSw.cell (p:=⟨w.heap.size,0,none⟩) zXr).trans cx0;go_simp<;>with_reducible rfl)
      try simp only[Act.put,tA,tZ,tS]
      refine kV 10 ?_
      refine kV 11 ?_
      refine kV 12 ?_
      refine kT 13 ?_ ?_ ?_
      rotate_left
      ·(intro w9 hSw;(try dsimp only at hSw);have g4:=(hSw.cell (p:=⟨g,o+ix*3,none⟩) zg).trans e0;go_simp<;>with_reducible rfl)
      try simp only[Act.put,tA,tZ,tS]
      refine kV 14 ?_
      refine kT 15 ?_ ?_ ?_
      rotate_left
      ·(intro w9 hSw;(try dsimp only at hSw);have g1:=(hSw.cell (p:=⟨w.heap.size,1,none⟩) zXr).trans cx1;go_simp<;>with_reducible rfl)
      try simp only[Act.put,tA,tZ,tS]
      refine kV 16 ?_
      refine kV 17 ?_
      refine kV 18 ?_
      refine kV 19 ?_
      refine kV 20 ?_
      refine kV 21 ?_
      refine kU 22 ?_
      try simp only[Act.put,tA,tZ,tS]
      refine kU 23 ?_
      try simp only[Act.put,tA,tZ,tS]
      refine kU 24 ?_
      try simp only[Act.put,tA,tZ,tS]
      refine kU 25 ?_
      try simp only[Act.put,tA,tZ,tS]
      refine kU 26 ?_
      try simp only[Act.put,tA,tZ,tS]
      refine kU 27 ?_
      try simp only[Act.put,tA,tZ,tS]
      refine kU 28 ?_
      try simp only[Act.put,tA,tZ,tS]
      refine kU 29 ?_
      try simp only[Act.put,tA,tZ,tS]
      refine kU 30 ?_
      try simp only[Act.put,tA,tZ,tS]
      refine kU 31 ?_
      try simp only[Act.put,tA,tZ,tS]
      refine kU 32 ?_
      try simp only[Act.put,tA,tZ,tS]
      refine kU 33 ?_
      try simp only[Act.put,tA,tZ,tS]
      refine kU 34 ?_
      try simp only[Act.put,tA,tZ,tS]
      refine kU 35 ?_
      try simp only[Act.put,tA,tZ,tS]
      refine kV 36 ?_
      refine kV 37 ?_
      refine wpAnyH_done (jK) ?_ _
      go_wp2
      go_roundw
      case rel=>exact⟨ix+1,by omega,by go_num,HA2,HR2,ae hbw hHeld⟩
      case measure=>simp[intOf];omega
     ·obtain⟨q,hq⟩:∃q,x.rd[ix - 1]? =some q:=⟨_,List.getElem?_eq_getElem (by omega)⟩
      obtain⟨_,_,_,_,_,_,⟨f0,_,_⟩,_,_⟩:=aa HRR (ix - 1) q hq
      have hLq:dI x.n (x.rd.take ix)=q.n:=by
       have h9:=iZ (n:=x.n) hq
       rwa [Nat.sub_add_cancel (by omega)]at h9
      obtain⟨ip,hip⟩:∃ip,ip=ix - 1:=⟨_,rfl⟩
      rw[←hip]at f0 hq
      have dz:decide ((0:Int)<(ix:Int))=true:=decide_eq_true (by omega)
      have dz2:decide (0<ix)=true:=decide_eq_true (by omega)
      have wz:IntKind.i64.wrap ((ix:Int) - 1)=(ip:Int):=(IntWalk.i64_in _ ⟨by omega,by omega⟩).trans (by omega)
      have hltP:(ip:Int)<(l0:Int):=by omega
      have hixb:=ab (show ix+1≤l0 by omega)
      clear hip
      have HQ:=ab hLq
      clear hq hLq h0i
      by_cases hqn:y.n≤q.n
      ·have hE:=ab (show x.okB=false by rw[aa HV,iq (aa HY) (by rw[aa HQ];omega)];simp)
       have dq:decide (y.n≤q.n)=true:=decide_eq_true hqn
       refine wp_region_held_drew (S:=(fun W=>Below wr.heap.size wr W)) (jK) ?_ (fun hHeld=>?_)
       ·exact aj (Below.refl _ _)
       refine kV 0 ?_
       refine kT 1 ?_ ?_ ?_
       rotate_left
       ·(intro w9 hSw;(try dsimp only at hSw);have g0:=(hSw.cell (p:=⟨w.heap.size,0,none⟩) zXr).trans cx0;go_simp<;>with_reducible rfl)
       try simp only[Act.put,tA,tZ,tS]
       refine kV 2 ?_
       refine kV 3 ?_
       refine kT 4 ?_ ?_ ?_
       rotate_left
       ·(intro w9 hSw;(try dsimp only at hSw);have g4:=(hSw.cell (p:=⟨g,o+ix*3,none⟩) zg).trans e0;have g5:=(hSw.cell (p:=⟨g,o+ix*3+1,none⟩) zg).trans e1;have g6:=(hSw.cell (p:=⟨g,o+ix*3+2,none⟩) zg).trans e2;go_simp<;>with_reducible rfl)
       try simp only[Act.put,tA,tZ,tS]
       refine rD 5 (fun K hK=>?_)
       go_simp
       (try dsimp only at hHeld)
       (go_at_call 109;refine(fo (ps:=y.ps) (ls:=y.ls) y.n a1y l1y c1y a2y l2y c2y _ ((aa HK1).1.below hHeld) ((aa HK2).1.below hHeld) HO).mono ?_;rintro e9 wt ⟨rfl,hbwt⟩)
       (try go_wp2_with fail)
       refine hK.out _ _ (ae hHeld hbwt) (fun jB=>?_)
       clear hK K hHeld
       have hHeld:=jB
       clear jB
       (try dsimp only at hHeld)
       try simp only[Act.put,tA,tZ,tS]
       refine kV 6 ?_
       refine kV 7 ?_
       refine kV 8 ?_
       refine kT 9 ?_ ?_ ?_
       rotate_left
       ·(intro w9 hSw;(try dsimp only at hSw);have g0:=(hSw.cell (p:=⟨w.heap.size,0,none⟩) zXr).trans cx0;go_simp<;>with_reducible rfl)
       try simp only[Act.put,tA,tZ,tS]
       refine kV 10 ?_
       refine kV 11 ?_
       refine kV 12 ?_
       refine kT 13 ?_ ?_ ?_
       rotate_left
       ·(intro w9 hSw;(try dsimp only at hSw);have g4:=(hSw.cell (p:=⟨g,o+ix*3,none⟩) zg).trans e0;go_simp<;>with_reducible rfl)
       try simp only[Act.put,tA,tZ,tS]
       refine kV 14 ?_
       refine kT 15 ?_ ?_ ?_
       rotate_left
       ·(intro w9 hSw;(try dsimp only at hSw);have g1:=(hSw.cell (p:=⟨w.heap.size,1,none⟩) zXr).trans cx1;go_simp<;>with_reducible rfl)
       try simp only[Act.put,tA,tZ,tS]
       refine kV 16 ?_
       refine kV 17 ?_
       refine kV 18 ?_
       refine kV 19 ?_
       refine kV 20 ?_
       refine kV 21 ?_
       refine kV 22 ?_
       refine kT 23 ?_ ?_ ?_
       rotate_left
       ·(intro w9 hSw;(try dsimp only at hSw);have g0:=(hSw.cell (p:=⟨w.heap.size,0,none⟩) zXr).trans cx0;go_simp<;>with_reducible rfl)
       try simp only[Act.put,tA,tZ,tS]
       refine kV 24 ?_
       refine kV 25 ?_
       refine kV 26 ?_
       refine kV 27 ?_
       refine kT 28 ?_ ?_ ?_
       rotate_left
       ·(intro w9 hSw;(try dsimp only at hSw);have g7:=(hSw.cell (p:=⟨g,o+ip*3,none⟩) zg).trans f0;go_simp<;>with_reducible rfl)
       try simp only[Act.put,tA,tZ,tS]
       refine kV 29 ?_
       refine kT 30 ?_ ?_ ?_
       rotate_left
       ·(intro w9 hSw;(try dsimp only at hSw);have g0:=(hSw.cell (p:=⟨w.heap.size,0,none⟩) zXr).trans cx0;go_simp<;>with_reducible rfl)
       try simp only[Act.put,tA,tZ,tS]
       refine kV 31 ?_
       refine kV 32 ?_
       refine kV 33 ?_
       refine kT 34 ?_ ?_ ?_
       rotate_left
       ·(intro w9 hSw;(try dsimp only at hSw);have g4:=(hSw.cell (p:=⟨g,o+ix*3,none⟩) zg).trans e0;go_simp<;>with_reducible rfl)
       try simp only[Act.put,tA,tZ,tS]
       refine kV 35 ?_
       refine kV 36 ?_
       refine kV 37 ?_
       refine wpAnyH_done (jK) ?_ _
       go_wp2
       go_ret
       exact⟨af (aa hE).symm,ae (aa HB) (ae hbw hHeld)⟩
      ·have dq:decide (y.n≤q.n)=false:=decide_eq_false hqn
       have HR2:=ab (gp (aa HR) (aa HY) (by rw[aa HQ];omega))
       refine wp_region_held_drew (S:=(fun W=>Below wr.heap.size wr W)) (jK) ?_ (fun hHeld=>?_)
       ·exact aj (Below.refl _ _)
       refine kV 0 ?_
       refine kT 1 ?_ ?_ ?_
       rotate_left
       ·(intro w9 hSw;(try dsimp only at hSw);have g0:=(hSw.cell (p:=⟨w.heap.size,0,none⟩) zXr).trans cx0;go_simp<;>with_reducible rfl)
       try simp only[Act.put,tA,tZ,tS]
       refine kV 2 ?_
       refine kV 3 ?_
       refine kT 4 ?_ ?_ ?_
       rotate_left
       ·(intro w9 hSw;(try dsimp only at hSw);have g4:=(hSw.cell (p:=⟨g,o+ix*3,none⟩) zg).trans e0;have g5:=(hSw.cell (p:=⟨g,o+ix*3+1,none⟩) zg).trans e1;have g6:=(hSw.cell (p:=⟨g,o+ix*3+2,none⟩) zg).trans e2;go_simp<;>with_reducible rfl)
       try simp only[Act.put,tA,tZ,tS]
       refine rD 5 (fun K hK=>?_)
       go_simp
       (try dsimp only at hHeld)
       (go_at_call 109;refine(fo (ps:=y.ps) (ls:=y.ls) y.n a1y l1y c1y a2y l2y c2y _ ((aa HK1).1.below hHeld) ((aa HK2).1.below hHeld) HO).mono ?_;rintro e9 wt ⟨rfl,hbwt⟩)
       (try go_wp2_with fail)
       refine hK.out _ _ (ae hHeld hbwt) (fun jB=>?_)
       clear hK K hHeld
       have hHeld:=jB
       clear jB
       (try dsimp only at hHeld)
       try simp only[Act.put,tA,tZ,tS]
       refine kV 6 ?_
       refine kV 7 ?_
       refine kV 8 ?_
       refine kT 9 ?_ ?_ ?_
       rotate_left
       ·(intro w9 hSw;(try dsimp only at hSw);have g0:=(hSw.cell (p:=⟨w.heap.size,0,none⟩) zXr).trans cx0;go_simp<;>with_reducible rfl)
       try simp only[Act.put,tA,tZ,tS]
       refine kV 10 ?_
       refine kV 11 ?_
       refine kV 12 ?_
       refine kT 13 ?_ ?_ ?_
       rotate_left
       ·(intro w9 hSw;(try dsimp only at hSw);have g4:=(hSw.cell (p:=⟨g,o+ix*3,none⟩) zg).trans e0;go_simp<;>with_reducible rfl)
       try simp only[Act.put,tA,tZ,tS]
       refine kV 14 ?_
       refine kT 15 ?_ ?_ ?_
       rotate_left
       ·(intro w9 hSw;(try dsimp only at hSw);have g1:=(hSw.cell (p:=⟨w.heap.size,1,none⟩) zXr).trans cx1;go_simp<;>with_reducible rfl)
       try simp only[Act.put,tA,tZ,tS]
       refine kV 16 ?_
       refine kV 17 ?_
       refine kV 18 ?_
       refine kV 19 ?_
       refine kV 20 ?_
       refine kV 21 ?_
       refine kV 22 ?_
       refine kT 23 ?_ ?_ ?_
       rotate_left
       ·(intro w9 hSw;(try dsimp only at hSw);have g0:=(hSw.cell (p:=⟨w.heap.size,0,none⟩) zXr).trans cx0;go_simp<;>with_reducible rfl)
       try simp only[Act.put,tA,tZ,tS]
       refine kV 24 ?_
       refine kV 25 ?_
       refine kV 26 ?_
       refine kV 27 ?_
       refine kT 28 ?_ ?_ ?_
       rotate_left
       ·(intro w9 hSw;(try dsimp only at hSw);have g7:=(hSw.cell (p:=⟨g,o+ip*3,none⟩) zg).trans f0;go_simp<;>with_reducible rfl)
       try simp only[Act.put,tA,tZ,tS]
       refine kV 29 ?_
       refine kT 30 ?_ ?_ ?_
       rotate_left
       ·(intro w9 hSw;(try dsimp only at hSw);have g0:=(hSw.cell (p:=⟨w.heap.size,0,none⟩) zXr).trans cx0;go_simp<;>with_reducible rfl)
       try simp only[Act.put,tA,tZ,tS]
       refine kV 31 ?_
       refine kV 32 ?_
       refine kV 33 ?_
       refine kT 34 ?_ ?_ ?_
       rotate_left
       ·(intro w9 hSw;(try dsimp only at hSw);have g4:=(hSw.cell (p:=⟨g,o+ix*3,none⟩) zg).trans e0;go_simp<;>with_reducible rfl)
       try simp only[Act.put,tA,tZ,tS]
       refine kV 35 ?_
       refine kV 36 ?_
       refine kV 37 ?_
       refine wpAnyH_done (jK) ?_ _
       go_wp2
       go_roundw
       case rel=>exact⟨ix+1,aa hixb,by go_num,HA2,HR2,ae hbw hHeld⟩
       case measure=>simp[intOf];omega
  ·have HV2:Hid (x.okB=(x.ps.all cx.okB&&x.ls.all cq.okB)):=ab (by
    rw[aa HV]
    have h8:=aa HA
    have h9:=aa HR
    rw[List.take_of_length_le (by omega)]at h8 h9
    rw[h8,h9];rfl)
   clear HV HA HR
   go_wp2
   go_loopw [4] (fun i wt=>∃ix:Nat,ix≤l2∧i= .int .i64 ix∧Hid ((x.ps.take ix).all cx.okB=true)∧Below W0.heap.size W0 wt) (fun i _=>l2 - (intOf i).toNat)
   case atStart=>exact⟨0,Nat.zero_le _,rfl,ab rfl,hbw⟩
   case round=>
    obtain⟨ix,hk,rfl,HA,hbt⟩:=hrel
    have bXt:=(hbt.block _ zX).trans bX
    clear cx0 cx1 cx2 cx3
    obtain⟨cx0,cx1,cx2,cx3⟩:=c4 bXt
    by_cases hlt:ix<l2
    ·obtain⟨_,_,hx9⟩:=((aa HP).below hbt).1
     obtain⟨g,o,rfl,hr⟩:=hx9.resolve_left (by omega)
     obtain⟨y,hy⟩:∃y,x.ps[ix]? =some y:=⟨_,List.getElem?_eq_getElem (by omega)⟩
     obtain⟨q0,q1,q2,q3,q4,q5,q6,q7,q8⟩:=hr ix y hy
     have HY:=ab hy
     have hltI:(ix:Int)<(l2:Int):=by omega
     clear hx9 hr hy
     obtain⟨ob,hob⟩:∃ob,y.okB=ob:=⟨_,rfl⟩
     have HO:=ab hob
     clear hob
     go_wp2_with fail
     refine(specpanok_e y _ HO).mono ?_
     rintro e9 wv ⟨rfl,hbv⟩
     cases ob with
     |false=>
      have hE:=ab (show x.okB=false by rw[aa HV2,eL (aa HY) (aa HO)];simp)
      go_wp2
      go_ret
      exact⟨af (aa hE).symm,ae (aa HB) (ae hbt hbv)⟩
     |true=>
      have HA2:=ab (em (aa HA) (aa HY) (aa HO))
      go_wp2
      go_roundw
      case rel=>exact⟨ix+1,by omega,by go_num,HA2,ae hbt hbv⟩
      case measure=>simp[intOf];omega
    ·have HV3:Hid (x.okB=x.ls.all cq.okB):=ab (by
      rw[aa HV2]
      have h8:=aa HA
      rw[List.take_of_length_le (by omega)]at h8
      rw[h8];rfl)
     clear HV2 HA
     go_wp2
     go_loopw [5] (fun i wu=>∃ix:Nat,ix≤l3∧i= .int .i64 ix∧Hid ((x.ls.take ix).all cq.okB=true)∧Below W0.heap.size W0 wu) (fun i _=>l3 - (intOf i).toNat)
     case atStart=>exact⟨0,Nat.zero_le _,rfl,ab rfl,hbt⟩
     case round=>
      obtain⟨ix,hk,rfl,HA,hbu⟩:=hrel
      have bXu:=(hbu.block _ zX).trans bX
      clear cx0 cx1 cx2 cx3
      obtain⟨cx0,cx1,cx2,cx3⟩:=c4 bXu
      by_cases hlt:ix<l3
      ·obtain⟨_,_,hx9⟩:=((aa HL).below hbu).1
       obtain⟨g,o,rfl,hr⟩:=hx9.resolve_left (by omega)
       obtain⟨y,hy⟩:∃y,x.ls[ix]? =some y:=⟨_,List.getElem?_eq_getElem (by omega)⟩
       obtain⟨q0,q1,q2,q3,q4,q5,q6⟩:=hr ix y hy
       have HY:=ab hy
       have hltI:(ix:Int)<(l3:Int):=by omega
       clear hx9 hr hy
       obtain⟨ob,hob⟩:∃ob,y.okB=ob:=⟨_,rfl⟩
       have HO:=ab hob
       clear hob
       go_wp2_with fail
       refine(speclatok_e y _ HO).mono ?_
       rintro e9 wv ⟨rfl,hbv⟩
       cases ob with
       |false=>
        have hE:=ab (show x.okB=false by rw[aa HV3,eL (aa HY) (aa HO)])
        go_wp2
        go_ret
        exact⟨af (aa hE).symm,ae (aa HB) (ae hbu hbv)⟩
       |true=>
        have HA2:=ab (em (aa HA) (aa HY) (aa HO))
        go_wp2
        go_roundw
        case rel=>exact⟨ix+1,by omega,by go_num,HA2,ae hbu hbv⟩
        case measure=>simp[intOf];omega
      ·have hE:=ab (show x.okB=true by
        rw[aa HV3]
        have h8:=aa HA
        rwa [List.take_of_length_le (by omega)]at h8)
       go_wp2
       go_ret
       exact⟨af (aa hE).symm,ae (aa HB) hbu⟩
end Go.Proofs.YtealpjmannopeaaGreat
