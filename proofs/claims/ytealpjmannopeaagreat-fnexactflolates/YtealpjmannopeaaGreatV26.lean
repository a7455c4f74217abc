/- Laid together: what the claim needs of the texts that were built one by one. -/
import Derived.Test.YtealpjmannopeaaGreatV20
import Derived.Test.YtealpjmannopeaaGreatV21
import Derived.Test.YtealpjmannopeaaGreatV25
import Derived.Test.YtealpjmannopeaaGreatV0
set_option linter.unusedVariables false
namespace Go.Proofs.YtealpjmannopeaaGreat
open Go.ChangeShapes Go.WideShapes Go.ChangeAt Go.RowKit Go.Deep
set_option linter.unusedSimpArgs false
attribute [local go_sem ↓] dE
attribute [local go_sem ↓] dL
attribute [local go_sem ↓] eD
theorem dc.upF{W W':World}{a:Option Addr}{n:Nat}{xs:List bz}(h:dc W a n xs)(hb:∀g o,0<n→a=some ⟨g,o,none⟩→W'.heap[g]? =W.heap[g]?):dc W' a n xs:=by
 obtain⟨h1,h2,h3⟩:=h
 refine⟨h1,h2,?_⟩
 rcases h3 with h3|⟨g,o,e,hat⟩
 ·exact Or.inl h3
 ·by_cases h0:n=0
  ·exact Or.inl h0
  ·refine Or.inr ⟨g,o,e,fun i x hx=>?_⟩
   have hbk:=hb g o (by omega) e
   obtain⟨d0,d1,d2,d3,d4,d5,d6⟩:=hat i x hx
   exact⟨(World.cell?_of_block hbk).trans d0,(World.cell?_of_block hbk).trans d1,(World.cell?_of_block hbk).trans d2,(World.cell?_of_block hbk).trans d3,(World.cell?_of_block hbk).trans d4,(World.cell?_of_block hbk).trans d5,(World.cell?_of_block hbk).trans d6⟩
theorem gE.upF{W W':World}{a:Option Addr}{n c:Nat}(h:gE W a n c)(hb:∀g o,0<n→a=some ⟨g,o,none⟩→W'.heap[g]? =W.heap[g]?):gE W' a n c:=by
 by_cases h0:n=0
 ·exact Or.inl h0
 ·obtain⟨g,e,⟨cur,h1,h2⟩,h3⟩:=h.resolve_left h0
  exact Or.inr ⟨g,e,⟨cur,(hb g 0 (by omega) e).trans h1,h2⟩,h3⟩
theorem sFLp_cnt(xs:List bu):(cL xs).length≤fb xs:=by
 induction xs with
 |nil=>exact Nat.zero_le _
 |cons x xs ih=>
  show(x.ls++cL xs).length≤(1+(eO x.rd+x.ps.length+x.ls.length))+fb xs
  rw[List.length_append]
  omega
set_option maxRecDepth 20000 in
set_option maxHeartbeats 16000000 in
theorem lawFloLates(x:fL)(a10:Option Addr)(l10 c10:Nat)(a11:Option Addr)(l11 c11:Nat)(a12:Option Addr)(l12 c12:Nat)(a13:Option Addr)(l13 c13:Nat)(a16:Option Addr)(l16 c16:Nat)(a17:Option Addr)(l17 c17:Nat)(a18:Option Addr)(l18 c18:Nat)(a20:Option Addr)(l20 c20:Nat)(a21:Option Addr)(l21 c21:Nat)(w:World)(h:FlIs w 0 a10 l10 a11 l11 a12 l12 a13 l13 a16 l16 a17 l17 a18 l18 a20 l20 a21 l21 x):Calls Tryz.prog 4 #[.agg #[.int .i64 x.s,.int .i64 x.t,.int .i64 x.k,.int .i64 x.z,.int .i64 x.p,.int .i64 x.l,.int .i64 x.e,.bool x.b,.int .i64 x.v,.int .i64 x.r,.slice a10 l10 c10,.slice a11 l11 c11,.slice a12 l12 c12,.slice a13 l13 c13,.int .i64 x.n,.bool x.op,.slice a16 l16 c16,.slice a17 l17 c17,.slice a18 l18 c18,.int .i64 x.sfn,.slice a20 l20 c20,.slice a21 l21 c21]] w fun e' w'=>e'= .returned (.bool true)∧Below w.heap.size w w':=by
 have HB0:Below w.heap.size w (w.alloc (.cells #[.int .i64 x.s,.int .i64 x.t,.int .i64 x.k,.int .i64 x.z,.int .i64 x.p,.int .i64 x.l,.int .i64 x.e,.bool x.b,.int .i64 x.v,.int .i64 x.r,.slice a10 l10 c10,.slice a11 l11 c11,.slice a12 l12 c12,.slice a13 l13 c13,.int .i64 x.n,.bool x.op,.slice a16 l16 c16,.slice a17 l17 c17,.slice a18 l18 c18,.int .i64 x.sfn,.slice a20 l20 c20,.slice a21 l21 c21] 36)):=ai _ _
 have bX:(w.alloc (.cells #[.int .i64 x.s,.int .i64 x.t,.int .i64 x.k,.int .i64 x.z,.int .i64 x.p,.int .i64 x.l,.int .i64 x.e,.bool x.b,.int .i64 x.v,.int .i64 x.r,.slice a10 l10 c10,.slice a11 l11 c11,.slice a12 l12 c12,.slice a13 l13 c13,.int .i64 x.n,.bool x.op,.slice a16 l16 c16,.slice a17 l17 c17,.slice a18 l18 c18,.int .i64 x.sfn,.slice a20 l20 c20,.slice a21 l21 c21] 36)).heap[w.heap.size]? =some (.cells #[.int .i64 x.s,.int .i64 x.t,.int .i64 x.k,.int .i64 x.z,.int .i64 x.p,.int .i64 x.l,.int .i64 x.e,.bool x.b,.int .i64 x.v,.int .i64 x.r,.slice a10 l10 c10,.slice a11 l11 c11,.slice a12 l12 c12,.slice a13 l13 c13,.int .i64 x.n,.bool x.op,.slice a16 l16 c16,.slice a17 l17 c17,.slice a18 l18 c18,.int .i64 x.sfn,.slice a20 l20 c20,.slice a21 l21 c21] 36 (0,0)):=aR _ _ _
 go_enter Tryz.func4,Tryz.ntmps4
 go_upto_region 2 with fail
 generalize (w.alloc (.cells #[.int .i64 x.s,.int .i64 x.t,.int .i64 x.k,.int .i64 x.z,.int .i64 x.p,.int .i64 x.l,.int .i64 x.e,.bool x.b,.int .i64 x.v,.int .i64 x.r,.slice a10 l10 c10,.slice a11 l11 c11,.slice a12 l12 c12,.slice a13 l13 c13,.int .i64 x.n,.bool x.op,.slice a16 l16 c16,.slice a17 l17 c17,.slice a18 l18 c18,.int .i64 x.sfn,.slice a20 l20 c20,.slice a21 l21 c21] 36))=W0 at bX HB0 ⊢
 have HF0:=ab (h.below HB0)
 have HFW:=ab h
 clear h
 have hL:=bV bX 36 Tryz.underlying36 rfl (jl)
 go_wp2_with fail
 clear hL
 refine(szFlA x a10 l10 c10 a11 l11 c11 a12 l12 c12 a13 l13 c13 a16 l16 c16 a17 l17 c17 a18 l18 c18 a20 l20 c20 a21 l21 c21 _ (aa HF0)).mono ?_
 rintro e' w1 ⟨⟨rr,rfl,hr⟩,hb1⟩
 have bX1:=(hb1.block _ (ao bX)).trans bX
 have HB1:=ab (ae HB0 hb1)
 have HF1:=ab ((aa HF0).below hb1)
 clear hb1 bX HF0 HB0
 rcases hr with rfl|⟨hr0,hr1,hok⟩
 ·go_wp2
  go_ret
  exact⟨rfl,aa HB1⟩
 ·have hneg:¬ rr<0:=by omega
  have hL:=bV bX1 36 Tryz.underlying36 rfl (jl)
  go_wp2_with fail
  clear hL
  refine(toFlA x a10 l10 c10 a11 l11 c11 a12 l12 c12 a13 l13 c13 a16 l16 c16 a17 l17 c17 a18 l18 c18 a20 l20 c20 a21 l21 c21 _ (aa HF1) hok).mono ?_
  rintro e' w2 ⟨b10,b11,b12,b13,b16,b17,b18,b20,b21,rfl,H2,hb2⟩
  have hcnt:fp x.logs+l11+fo x.tks+fb x.sks+(l16+l17+de x.sn+(l20+de x.ssn))≤1048576:=by omega
  have HCN:=ab hcnt
  have hskx:x.sks.length≤1048576∧∀y ∈ x.sks,y.sm:=⟨by have h9:=H2.sks.len.1;have h8:=hok.2.2.2.1.1;omega,hok.2.2.2.1.2⟩
  obtain⟨ob,hV⟩:∃ob,cl x=ob:=⟨_,rfl⟩
  have HV:=ab hV
  obtain⟨XS,hXS⟩:∃XS,(if ob=true then cL x.sks else [])=XS:=⟨_,rfl⟩
  have hXl:XS.length≤1048576:=by
   rw[←hXS]
   have h9:=sFLp_cnt x.sks
   cases ob
   ·exact Nat.zero_le _
   ·exact Nat.le_trans h9 (by omega)
  clear hV hcnt
  go_wp2_with fail
  refine(hU x b10 l10 l10 b11 l11 l11 b12 l12 l12 b13 l13 l13 b16 l16 l16 b17 l17 l17 b18 l18 l18 b20 l20 l20 b21 l21 l21 _ _ H2 hok.2.2.2.2.2.2.1.2 hskx HV).mono ?_
  rw[hXS]
  rintro e' w3 ⟨vs,rfl,hOs,hb3⟩
  obtain⟨bs,cs,rfl,HS0,_,_⟩:=holdLp hOs hXl
  clear hOs
  have lts:∀g o,0<XS.length→bs=some ⟨g,o,none⟩→g<w3.heap.size:=fun g o hp ha=>by subst ha;exact HS0.lt hp
  have hb13:=ae hb2 hb3
  have bX3:=(hb13.block _ (ao bX1)).trans bX1
  have HB3:=ab (ae (aa HB1) hb13)
  have HF3:=ab ((aa HF1).below hb13)
  have HS3:=ab HS0
  clear hb13 hb2 hb3 bX1 HF1 HB1 H2 HS0
  have hL:=bV bX3 36 Tryz.underlying36 rfl (jl)
  go_wp2_with fail
  clear hL
  refine(toFlA x a10 l10 c10 a11 l11 c11 a12 l12 c12 a13 l13 c13 a16 l16 c16 a17 l17 c17 a18 l18 c18 a20 l20 c20 a21 l21 c21 _ (aa HF3) hok).mono ?_
  rintro e' w4 ⟨q10,q11,q12,q13,q16,q17,q18,q20,q21,rfl,H4,hb4⟩
  have bX4:=(hb4.block _ (ao bX3)).trans bX3
  have HB4:=ab (ae (aa HB3) hb4)
  have HF4:=ab ((aa HF3).below hb4)
  have HS4:=ab ((aa HS3).below hb4)
  have z34:=hb4.size
  have zw3:=(aa HB3).size
  have zx3:w.heap.size<w3.heap.size:=ao bX3
  clear hb4 bX3 HF3 HS3
  have hbY:Below w4.heap.size w4 (w4.alloc (.cells #[.int .i64 x.s,.int .i64 x.t,.int .i64 x.k,.int .i64 x.z,.int .i64 x.p,.int .i64 x.l,.int .i64 x.e,.bool x.b,.int .i64 x.v,.int .i64 x.r,.slice q10 l10 l10,.slice q11 l11 l11,.slice q12 l12 l12,.slice q13 l13 l13,.int .i64 x.n,.bool x.op,.slice q16 l16 l16,.slice q17 l17 l17,.slice q18 l18 l18,.int .i64 x.sfn,.slice q20 l20 l20,.slice q21 l21 l21] 51)):=ai _ _
  have bY:(w4.alloc (.cells #[.int .i64 x.s,.int .i64 x.t,.int .i64 x.k,.int .i64 x.z,.int .i64 x.p,.int .i64 x.l,.int .i64 x.e,.bool x.b,.int .i64 x.v,.int .i64 x.r,.slice q10 l10 l10,.slice q11 l11 l11,.slice q12 l12 l12,.slice q13 l13 l13,.int .i64 x.n,.bool x.op,.slice q16 l16 l16,.slice q17 l17 l17,.slice q18 l18 l18,.int .i64 x.sfn,.slice q20 l20 l20,.slice q21 l21 l21] 51)).heap[w4.heap.size]? =some (.cells #[.int .i64 x.s,.int .i64 x.t,.int .i64 x.k,.int .i64 x.z,.int .i64 x.p,.int .i64 x.l,.int .i64 x.e,.bool x.b,.int .i64 x.v,.int .i64 x.r,.slice q10 l10 l10,.slice q11 l11 l11,.slice q12 l12 l12,.slice q13 l13 l13,.int .i64 x.n,.bool x.op,.slice q16 l16 l16,.slice q17 l17 l17,.slice q18 l18 l18,.int .i64 x.sfn,.slice q20 l20 l20,.slice q21 l21 l21] 51 (0,0)):=aR _ _ _
  have hL:=bV bY 51 Tryz.underlying51 rfl (jl)
  have hS:=store_new (P:=Tryz.prog) w4 51 #[.int .i64 0,.int .i64 0,.int .i64 0,.int .i64 0,.int .i64 0,.int .i64 0,.int .i64 0,.bool false,.int .i64 0,.int .i64 0,.slice none 0 0,.slice none 0 0,.slice none 0 0,.slice none 0 0,.int .i64 0,.bool false,.slice none 0 0,.slice none 0 0,.slice none 0 0,.int .i64 0,.slice none 0 0,.slice none 0 0] #[.int .i64 x.s,.int .i64 x.t,.int .i64 x.k,.int .i64 x.z,.int .i64 x.p,.int .i64 x.l,.int .i64 x.e,.bool x.b,.int .i64 x.v,.int .i64 x.r,.slice q10 l10 l10,.slice q11 l11 l11,.slice q12 l12 l12,.slice q13 l13 l13,.int .i64 x.n,.bool x.op,.slice q16 l16 l16,.slice q17 l17 l17,.slice q18 l18 l18,.int .i64 x.sfn,.slice q20 l20 l20,.slice q21 l21 l21] (jl) rfl (by simp[Value.oneCell'])
  go_wp2_with fail
  clear hL hS
  have zV:w4.heap.size<(w4.alloc (.cells #[.int .i64 x.s,.int .i64 x.t,.int .i64 x.k,.int .i64 x.z,.int .i64 x.p,.int .i64 x.l,.int .i64 x.e,.bool x.b,.int .i64 x.v,.int .i64 x.r,.slice q10 l10 l10,.slice q11 l11 l11,.slice q12 l12 l12,.slice q13 l13 l13,.int .i64 x.n,.bool x.op,.slice q16 l16 l16,.slice q17 l17 l17,.slice q18 l18 l18,.int .i64 x.sfn,.slice q20 l20 l20,.slice q21 l21 l21] 51)).heap.size:=by simp
  refine(fx x q10 l10 l10 q11 l11 l11 q12 l12 l12 q13 l13 l13 q16 l16 l16 q17 l17 l17 q18 l18 l18 q20 l20 l20 q21 l21 l21 _ _ (H4.below hbY) hskx HV).mono ?_
  rw[hXS]
  generalize (w4.alloc (.cells #[.int .i64 x.s,.int .i64 x.t,.int .i64 x.k,.int .i64 x.z,.int .i64 x.p,.int .i64 x.l,.int .i64 x.e,.bool x.b,.int .i64 x.v,.int .i64 x.r,.slice q10 l10 l10,.slice q11 l11 l11,.slice q12 l12 l12,.slice q13 l13 l13,.int .i64 x.n,.bool x.op,.slice q16 l16 l16,.slice q17 l17 l17,.slice q18 l18 l18,.int .i64 x.sfn,.slice q20 l20 l20,.slice q21 l21 l21] 51))=V4 at hbY bY zV ⊢
  rintro e' w5 ⟨vg,rfl,hOg,hb5⟩
  obtain⟨bg,cg,rfl,HG0,RG0,geg⟩:=holdLp hOg hXl
  clear hOg
  have ltg:∀g o,0<XS.length→bg=some ⟨g,o,none⟩→g<w5.heap.size:=fun g o hp ha=>by subst ha;exact HG0.lt hp
  have hb45:=ae hbY hb5
  have bX5:=(hb45.block _ (ao bX4)).trans bX4
  have bY5:=(hb5.block _ (ao bY)).trans bY
  have HB5:=ab (ae (aa HB4) hb45)
  have HF5:=ab ((aa HF4).below hb45)
  have HY5:=ab (H4.below hb45)
  have HX5:=ab hb45
  have HS5:=(aa HS4).below hb45
  have H4X:=ab H4
  clear hb45 hb5 hbY bX4 bY HB4 HF4 H4 HS4
  go_wp2_with fail
  refine(fJ _ _ XS.length _ _ XS _ HG0 HS5).mono ?_
  rintro e' w6 ⟨rfl,hb6⟩
  have bX6:=(hb6.block _ (ao bX5)).trans bX5
  have bY6:=(hb6.block _ (ao bY5)).trans bY5
  have HB6:=ab (ae (aa HB5) hb6)
  have HF6:=ab ((aa HF5).below hb6)
  have HY6:=ab ((aa HY5).below hb6)
  have HX6:=ab (ae (aa HX5) hb6)
  have HS6:=ab (HS5.below hb6)
  have HG6:=ab (And.intro (HG0.below hb6) (RG0.below hb6))
  have z56:=hb6.size
  have zX:=ao bX6
  have zY:=ao bY6
  clear hb6 bX5 bY5 HB5 HF5 HY5 HX5 HS5 HG0 RG0
  go_wp2_with fail
  refine wp_region_held_drew (S:=(fun W=>Below w6.heap.size w6 W)) (jl) ?_ (fun hHeld=>?_)
  ·exact aj (Below.refl _ _)
  refine wpAnyH_take (i:=0) (v:= .agg #[.int .i64 x.s,.int .i64 x.t,.int .i64 x.k,.int .i64 x.z,.int .i64 x.p,.int .i64 x.l,.int .i64 x.e,.bool x.b,.int .i64 x.v,.int .i64 x.r,.slice q10 l10 l10,.slice q11 l11 l11,.slice q12 l12 l12,.slice q13 l13 l13,.int .i64 x.n,.bool x.op,.slice q16 l16 l16,.slice q17 l17 l17,.slice q18 l18 l18,.int .i64 x.sfn,.slice q20 l20 l20,.slice q21 l21 l21]) (by simp only[gA,gZ,gS];rfl) (jl) (jl) (jl) (by intro _ _ _ h;exact h) (yieldsIf_load_mid (by rfl) 51 (.tmp 5) rfl (w4.heap.size) 0 rfl [.int .i64 x.s,.int .i64 x.t,.int .i64 x.k,.int .i64 x.z,.int .i64 x.p,.int .i64 x.l,.int .i64 x.e,.bool x.b,.int .i64 x.v,.int .i64 x.r,.slice q10 l10 l10,.slice q11 l11 l11,.slice q12 l12 l12,.slice q13 l13 l13,.int .i64 x.n,.bool x.op,.slice q16 l16 l16,.slice q17 l17 l17,.slice q18 l18 l18,.int .i64 x.sfn,.slice q20 l20 l20,.slice q21 l21 l21] _ (fun w9 hSw=>gQ ((hSw.block _ zY).trans bY6)) Tryz.underlying51 rfl (jl)) (by assumption) ?_
  try simp only[Act.put,tA,tZ,tS]
  refine wpAnyH_take (i:=1) (v:= .agg #[.int .i64 x.s,.int .i64 x.t,.int .i64 x.k,.int .i64 x.z,.int .i64 x.p,.int .i64 x.l,.int .i64 x.e,.bool x.b,.int .i64 x.v,.int .i64 x.r,.slice a10 l10 c10,.slice a11 l11 c11,.slice a12 l12 c12,.slice a13 l13 c13,.int .i64 x.n,.bool x.op,.slice a16 l16 c16,.slice a17 l17 c17,.slice a18 l18 c18,.int .i64 x.sfn,.slice a20 l20 c20,.slice a21 l21 c21]) (by simp only[gA,gZ,gS];rfl) (jl) (jl) (jl) (by intro _ _ _ h;exact h) (yieldsIf_load_mid (by rfl) 36 (.tmp 1) rfl (w.heap.size) 0 rfl [.int .i64 x.s,.int .i64 x.t,.int .i64 x.k,.int .i64 x.z,.int .i64 x.p,.int .i64 x.l,.int .i64 x.e,.bool x.b,.int .i64 x.v,.int .i64 x.r,.slice a10 l10 c10,.slice a11 l11 c11,.slice a12 l12 c12,.slice a13 l13 c13,.int .i64 x.n,.bool x.op,.slice a16 l16 c16,.slice a17 l17 c17,.slice a18 l18 c18,.int .i64 x.sfn,.slice a20 l20 c20,.slice a21 l21 c21] _ (fun w9 hSw=>gQ ((hSw.block _ zX).trans bX6)) Tryz.underlying36 rfl (jl)) (by assumption) ?_
  try simp only[Act.put,tA,tZ,tS]
  refine rD 2 (fun K hK=>?_)
  go_simp
  (try dsimp only at hHeld)
  (go_at_call 8;refine(toFlA x a10 l10 c10 a11 l11 c11 a12 l12 c12 a13 l13 c13 a16 l16 c16 a17 l17 c17 a18 l18 c18 a20 l20 c20 a21 l21 c21 _ ((aa HF6).below hHeld) hok).mono ?_;rintro e9 w7 ⟨r10,r11,r12,r13,r16,r17,r18,r20,r21,rfl,H6,hbw7⟩)
  (try go_wp2_with fail)
  refine hK.out _ _ (ae hHeld hbw7) (fun je=>?_)
  clear hK K hHeld
  have hHeld:=je
  clear je
  (try dsimp only at hHeld)
  try simp only[Act.put,tA,tZ,tS]
  refine rD 3 (fun K hK=>?_)
  go_simp
  (try dsimp only at hHeld)
  (go_at_call 11;refine(eqFlA _ _ x q10 r10 l10 q11 r11 l11 q12 r12 l12 q13 r13 l13 q16 r16 l16 q17 r17 l17 q18 r18 l18 q20 r20 l20 q21 r21 l21 _ ((aa HY6).below hHeld) H6).mono ?_;rintro e9 w8 ⟨rfl,hbw8⟩)
  (try go_wp2_with fail)
  refine hK.out _ _ (ae hHeld hbw8) (fun je=>?_)
  clear hK K hHeld
  have hHeld:=je
  clear je
  (try dsimp only at hHeld)
  try simp only[Act.put,tA,tZ,tS]
  refine kV 4 ?_
  refine wpAnyH_done (jl) ?_ _
  rename World=>w8
  have hb8:=hHeld
  clear hHeld
  have bX8:=(hb8.block _ (ao bX6)).trans bX6
  have bY8:=(hb8.block _ (ao bY6)).trans bY6
  have HB8:=ab (ae (aa HB6) hb8)
  have HX8:=ab (ae (aa HX6) hb8)
  have HS8:=ab ((aa HS6).below hb8)
  have HG8:=ab (And.intro ((aa HG6).1.below hb8) ((aa HG6).2.below hb8))
  have z68:=hb8.size
  clear hb8 bX6 bY6 HB6 HF6 HY6 HX6 HS6 HG6 zX zY
  have zz8:=(aa HX8).size
  have hL:=bV bY8 51 Tryz.underlying51 rfl (jl)
  go_wp2_with fail
  clear hL
  refine(shmFl w3.heap.size w4 w8 (by omega) 1 (by omega) x q10 l10 l10 q11 l11 l11 q12 l12 l12 q13 l13 l13 q16 l16 l16 q17 l17 l17 q18 l18 l18 q20 l20 l20 q21 l21 l21 w8 (aa H4X) (cw.start (aa HX8)) (aa HCN) (by have h9:=aa HCN;omega)).mono ?_
  rintro e' w9 ⟨⟨kv,rfl,hk0,hk1⟩,hM⟩
  have hbM:Below w3.heap.size w8 w9:=⟨hM.os,hM.tape,hM.output,hM.size,fun q hq=>hM.old q (by omega) (Or.inl hq)⟩
  have bX9:=(hbM.block _ zx3).trans bX8
  have HB9:=ab ((aa HB8).trans (hbM.mono (by omega)))
  have HS9:=(aa HS8).upF (fun g o hp ha=>hbM.block g (lts g o hp ha))
  have HG9:=(aa HG8).1.upF (fun g o hp ha=>hM.old g (by have h8:=ltg g o hp ha;omega) (Or.inr (by have h8:=geg g o hp ha;omega)))
  have RG9:=(aa HG8).2.upF (fun g o hp ha=>hM.old g (by have h8:=ltg g o hp ha;omega) (Or.inr (by have h8:=geg g o hp ha;omega)))
  have z89:=hM.size
  have hkn:¬ kv<0:=by omega
  clear hM hbM bX8 bY8 HB8 HX8 HS8 HG8 H4X hk1
  go_wp2_with fail
  refine(fJ _ _ XS.length _ _ XS _ HG9 HS9).mono ?_
  rintro e' w10 ⟨rfl,hb10⟩
  have bX10:=(hb10.block _ (ao bX9)).trans bX9
  have HB10:=ab (ae (aa HB9) hb10)
  have HS10:=HS9.below hb10
  have RG10:=RG9.below hb10
  have z910:=hb10.size
  clear hb10 bX9 HB9 HS9 HG9 RG9
  go_wp2_with fail
  clear hkn hk0
  refine(markLp_any _ XS.length cg _ RG10 hXl).mono ?_
  rintro e' w11 ⟨rfl,MG,hg⟩
  have HS11:=HS10.grown hg (fun g o hp ha=>rowLp_ne (fun g' o' hp' e9=>by have q1:=lts g o hp ha;have q2:=geg g' o' hp' e9;omega) RG10.shape)
  have hbG:Below w3.heap.size w10 w11:=⟨hg.os,hg.tape,hg.output,hg.size,fun q hq=>hg.block q (by omega) (rowLp_ne (fun g' o' hp' e9=>by have q2:=geg g' o' hp' e9;omega) RG10.shape)⟩
  have bX11:=(hbG.block _ zx3).trans bX10
  have HB11:=ab ((aa HB10).trans (hbG.mono (by omega)))
  have z1011:=hg.size
  clear hg hbG bX10 HB10 HS10 RG10
  go_wp2_with fail
  refine(gF _ XS.length cg _ MG hXl).mono ?_
  rintro e' wx ⟨rfl,hw⟩
  obtain rfl:=hw.symm
  clear hw
  have HF11:=ab ((aa HFW).below (aa HB11))
  have hL:=bV bX11 36 Tryz.underlying36 rfl (jl)
  go_wp2_with fail
  clear hL
  refine(toFlA x a10 l10 c10 a11 l11 c11 a12 l12 c12 a13 l13 c13 a16 l16 c16 a17 l17 c17 a18 l18 c18 a20 l20 c20 a21 l21 c21 _ (aa HF11) hok).mono ?_
  rintro e' w12 ⟨t10,t11,t12,t13,t16,t17,t18,t20,t21,rfl,H12,hb12⟩
  go_wp2_with fail
  refine(fx x t10 l10 l10 t11 l11 l11 t12 l12 l12 t13 l13 l13 t16 l16 l16 t17 l17 l17 t18 l18 l18 t20 l20 l20 t21 l21 l21 _ _ H12 hskx HV).mono ?_
  rw[hXS]
  rintro e' w13 ⟨vh,rfl,hOh,hb13⟩
  obtain⟨bh,ch,rfl,HH,_,_⟩:=holdLp hOh hXl
  clear hOh
  have hb23:=ae hb12 hb13
  have HB13:=ab (ae (aa HB11) hb23)
  have HS13:=HS11.below hb23
  have MG13:=MG.below hb23
  clear hb12 hb13 hb23 bX11 HB11 HS11 MG HF11 H12
  go_wp2_with fail
  refine(fJ _ _ XS.length _ _ XS _ HH HS13).mono ?_
  rintro e' w14 ⟨rfl,hb14⟩
  have HB14:=ab (ae (aa HB13) hb14)
  have MG14:=MG13.below hb14
  clear hb14 HB13 HS13 MG13 HH
  go_wp2_with fail
  refine(gF _ XS.length cg _ MG14 hXl).mono ?_
  rintro e' wx ⟨rfl,hw⟩
  obtain rfl:=hw.symm
  clear hw
  go_wp2_with fail
  go_ret
  exact⟨rfl,aa HB14⟩
end Go.Proofs.YtealpjmannopeaaGreat
