/- Laid together: what the claim needs of the texts that were built one by one. -/
import Derived.Test.YtiilbnjjhgcjdaaGreatX24
import Derived.Test.YtiilbnjjhgcjdaaGreatX0
set_option linter.unusedVariables false
namespace Go.Proofs.YtiilbnjjhgcjdaaGreat
open Go.ChangeShapes Go.WideShapes Go.ChangeAt Go.RowKit Go.Deep
set_option linter.unusedSimpArgs false
attribute [local go_sem ↓] fp
attribute [local go_sem ↓] rowStore_Fl
attribute [local go_sem ↓] rowLoad_Fq
theorem ok_bd{x:eC}(hok:bS x=true):(∀(i:Nat) (y:dB),x.tks[i]? =some y→y.ps.length≤1500∧y.ls.length≤1500)∧(∀(i:Nat) (s:bE),x.sks[i]? =some s→s.rd.length≤12)∧(∀(i:Nat) (n:cz),x.ssn[i]? =some n→n.ma≤1000):=by
 simp only[bS,Bool.and_eq_true]at hok
 have hc:=hok.1.1.1.1.1.1.1.1
 have ht:=hok.1.2
 have hs:=hok.2
 refine⟨fun i y hy=>?_,fun i s h=>?_,fun i n hn=>?_⟩
 ·have a:=List.all_eq_true.1 ht y (List.mem_of_getElem? hy)
  simp only[br,aZ,bf,Bool.and_eq_true,decide_eq_true_eq]at a
  have b:=a.1.1.1.1.1.2
  exact⟨b.1.1.1.2,b.1.1.2⟩
 ·have a:=List.all_eq_true.1 hs s (List.mem_of_getElem? h)
  simp only[bE.okB,Bool.and_eq_true,decide_eq_true_eq]at a
  exact a.1.1.1.1.1.1.1
 ·simp only[bC,cn,Bool.and_eq_true]at hc
  have a:=List.all_eq_true.1 hc.1.1.2.2 n (List.mem_of_getElem? hn)
  simp only[bv,bW,Bool.and_eq_true,aX]at a
  omega
set_option maxRecDepth 20000 in
set_option maxHeartbeats 8000000 in
theorem iM(x:eC)(a10:Option Addr)(l10 c10:Nat)(a11:Option Addr)(l11 c11:Nat)(a12:Option Addr)(l12 c12:Nat)(a13:Option Addr)(l13 c13:Nat)(a16:Option Addr)(l16 c16:Nat)(a17:Option Addr)(l17 c17:Nat)(a18:Option Addr)(l18 c18:Nat)(a20:Option Addr)(l20 c20:Nat)(a21:Option Addr)(l21 c21:Nat)(B:Nat)(w:World)(h:FlIs w B a10 l10 a11 l11 a12 l12 a13 l13 a16 l16 a17 l17 a18 l18 a20 l20 a21 l21 x)(hsm:∀y ∈ x.sn,y.sm):Calls Tryz.prog 30 #[.agg #[.int .i64 x.s,.int .i64 x.t,.int .i64 x.k,.int .i64 x.z,.int .i64 x.p,.int .i64 x.l,.int .i64 x.e,.bool x.b,.int .i64 x.v,.int .i64 x.r,.slice a10 l10 c10,.slice a11 l11 c11,.slice a12 l12 c12,.slice a13 l13 c13,.int .i64 x.n,.bool x.op,.slice a16 l16 c16,.slice a17 l17 c17,.slice a18 l18 c18,.int .i64 x.sfn,.slice a20 l20 c20,.slice a21 l21 c21]] w fun e' w'=>e'= .returned (.bool (dA x))∧Below w.heap.size w w':=by
 have hl10:=h.logs.len
 have hl11:=h.srcs.len
 have hl12:=h.tks.len
 have hl13:=h.sks.len
 have HB0:Below w.heap.size w (w.alloc (.cells #[.int .i64 x.s,.int .i64 x.t,.int .i64 x.k,.int .i64 x.z,.int .i64 x.p,.int .i64 x.l,.int .i64 x.e,.bool x.b,.int .i64 x.v,.int .i64 x.r,.slice a10 l10 c10,.slice a11 l11 c11,.slice a12 l12 c12,.slice a13 l13 c13,.int .i64 x.n,.bool x.op,.slice a16 l16 c16,.slice a17 l17 c17,.slice a18 l18 c18,.int .i64 x.sfn,.slice a20 l20 c20,.slice a21 l21 c21] 50)):=ai _ _
 have bX:(w.alloc (.cells #[.int .i64 x.s,.int .i64 x.t,.int .i64 x.k,.int .i64 x.z,.int .i64 x.p,.int .i64 x.l,.int .i64 x.e,.bool x.b,.int .i64 x.v,.int .i64 x.r,.slice a10 l10 c10,.slice a11 l11 c11,.slice a12 l12 c12,.slice a13 l13 c13,.int .i64 x.n,.bool x.op,.slice a16 l16 c16,.slice a17 l17 c17,.slice a18 l18 c18,.int .i64 x.sfn,.slice a20 l20 c20,.slice a21 l21 c21] 50)).heap[w.heap.size]? =some (.cells #[.int .i64 x.s,.int .i64 x.t,.int .i64 x.k,.int .i64 x.z,.int .i64 x.p,.int .i64 x.l,.int .i64 x.e,.bool x.b,.int .i64 x.v,.int .i64 x.r,.slice a10 l10 c10,.slice a11 l11 c11,.slice a12 l12 c12,.slice a13 l13 c13,.int .i64 x.n,.bool x.op,.slice a16 l16 c16,.slice a17 l17 c17,.slice a18 l18 c18,.int .i64 x.sfn,.slice a20 l20 c20,.slice a21 l21 c21] 50 (0,0)):=aQ _ _ _
 have zz0:(w.alloc (.cells #[.int .i64 x.s,.int .i64 x.t,.int .i64 x.k,.int .i64 x.z,.int .i64 x.p,.int .i64 x.l,.int .i64 x.e,.bool x.b,.int .i64 x.v,.int .i64 x.r,.slice a10 l10 c10,.slice a11 l11 c11,.slice a12 l12 c12,.slice a13 l13 c13,.int .i64 x.n,.bool x.op,.slice a16 l16 c16,.slice a17 l17 c17,.slice a18 l18 c18,.int .i64 x.sfn,.slice a20 l20 c20,.slice a21 l21 c21] 50)).heap.size=w.heap.size+1:=by simp
 go_enter Tryz.func30,Tryz.ntmps30
 go_upto_region 1 with fail
 generalize (w.alloc (.cells #[.int .i64 x.s,.int .i64 x.t,.int .i64 x.k,.int .i64 x.z,.int .i64 x.p,.int .i64 x.l,.int .i64 x.e,.bool x.b,.int .i64 x.v,.int .i64 x.r,.slice a10 l10 c10,.slice a11 l11 c11,.slice a12 l12 c12,.slice a13 l13 c13,.int .i64 x.n,.bool x.op,.slice a16 l16 c16,.slice a17 l17 c17,.slice a18 l18 c18,.int .i64 x.sfn,.slice a20 l20 c20,.slice a21 l21 c21] 50))=W0 at bX HB0 zz0 ⊢
 have HF:=ab (h.below HB0)
 have HB:=ab HB0
 clear HB0 h
 clear zz0
 have hL:=bt bX 50 Tryz.underlying50 rfl (iU)
 go_wp2_with fail
 clear hL
 refine(gF x a10 l10 c10 a11 l11 c11 a12 l12 c12 a13 l13 c13 a16 l16 c16 a17 l17 c17 a18 l18 c18 a20 l20 c20 a21 l21 c21 B _ (aa HF) hsm).mono ?_
 cases q0:bS x
 ·have hE:=ab (show dA x=false by unfold dA;rw[q0];rfl)
  rintro e9 w1 ⟨rfl,hb1⟩
  go_wp2
  go_ret
  exact⟨ae (aa hE).symm,ad (aa HB) hb1⟩
 have hE:=ab (show dA x=endB x by unfold dA;rw[q0];rfl)
 have HEE:=ab (ok_end q0)
 have HBD:=ab (ok_bd q0)
 have HLL:=ab (And.intro hl10.1 (And.intro hl11.1 (And.intro hl12.1 hl13.1)))
 clear q0 hl10 hl11 hl12 hl13
 rintro e9 v0 ⟨rfl,hb0⟩
 have bX0:=(hb0.block _ (am bX)).trans bX
 have HF9:=ab ((aa HF).below hb0)
 have HB9:=ab (ad (aa HB) hb0)
 clear HF HB bX hb0
 have bX:=bX0
 have HF:=HF9
 have HB:=HB9
 clear bX0 HF9 HB9
 have hL:=bt bX 50 Tryz.underlying50 rfl (iU)
 go_wp2_with fail
 clear hL
 refine(l11done_any x a10 l10 c10 a11 l11 c11 a12 l12 c12 a13 l13 c13 a16 l16 c16 a17 l17 c17 a18 l18 c18 a20 l20 c20 a21 l21 c21 B _ (aa HF) (by have h1:=aa HEE;have h2:=aa HLL;omega) (by have h1:=aa HEE;have h2:=aa HLL;omega) (by have h1:=aa HEE;omega) (by have h1:=aa HEE;have h2:=aa HLL;omega) (by have h1:=aa HEE;have h2:=aa HLL;omega) (by have h1:=aa HEE;omega) (aa HBD).1 (aa HBD).2.1 (aa HBD).2.2).mono ?_
 rintro e9 w1 ⟨rfl,hb1⟩
 go_wp2
 go_ret
 exact⟨ae (aa hE).symm,ad (aa HB) hb1⟩
set_option maxRecDepth 20000 in
set_option maxHeartbeats 16000000 in
theorem lawFloDone(x:eC)(a10:Option Addr)(l10 c10:Nat)(a11:Option Addr)(l11 c11:Nat)(a12:Option Addr)(l12 c12:Nat)(a13:Option Addr)(l13 c13:Nat)(a16:Option Addr)(l16 c16:Nat)(a17:Option Addr)(l17 c17:Nat)(a18:Option Addr)(l18 c18:Nat)(a20:Option Addr)(l20 c20:Nat)(a21:Option Addr)(l21 c21:Nat)(w:World)(h:FlIs w 0 a10 l10 a11 l11 a12 l12 a13 l13 a16 l16 a17 l17 a18 l18 a20 l20 a21 l21 x):Calls Tryz.prog 7 #[.agg #[.int .i64 x.s,.int .i64 x.t,.int .i64 x.k,.int .i64 x.z,.int .i64 x.p,.int .i64 x.l,.int .i64 x.e,.bool x.b,.int .i64 x.v,.int .i64 x.r,.slice a10 l10 c10,.slice a11 l11 c11,.slice a12 l12 c12,.slice a13 l13 c13,.int .i64 x.n,.bool x.op,.slice a16 l16 c16,.slice a17 l17 c17,.slice a18 l18 c18,.int .i64 x.sfn,.slice a20 l20 c20,.slice a21 l21 c21]] w fun e' w'=>e'= .returned (.bool true)∧Below w.heap.size w w':=by
 have HB0:Below w.heap.size w (w.alloc (.cells #[.int .i64 x.s,.int .i64 x.t,.int .i64 x.k,.int .i64 x.z,.int .i64 x.p,.int .i64 x.l,.int .i64 x.e,.bool x.b,.int .i64 x.v,.int .i64 x.r,.slice a10 l10 c10,.slice a11 l11 c11,.slice a12 l12 c12,.slice a13 l13 c13,.int .i64 x.n,.bool x.op,.slice a16 l16 c16,.slice a17 l17 c17,.slice a18 l18 c18,.int .i64 x.sfn,.slice a20 l20 c20,.slice a21 l21 c21] 36)):=ai _ _
 have bX:(w.alloc (.cells #[.int .i64 x.s,.int .i64 x.t,.int .i64 x.k,.int .i64 x.z,.int .i64 x.p,.int .i64 x.l,.int .i64 x.e,.bool x.b,.int .i64 x.v,.int .i64 x.r,.slice a10 l10 c10,.slice a11 l11 c11,.slice a12 l12 c12,.slice a13 l13 c13,.int .i64 x.n,.bool x.op,.slice a16 l16 c16,.slice a17 l17 c17,.slice a18 l18 c18,.int .i64 x.sfn,.slice a20 l20 c20,.slice a21 l21 c21] 36)).heap[w.heap.size]? =some (.cells #[.int .i64 x.s,.int .i64 x.t,.int .i64 x.k,.int .i64 x.z,.int .i64 x.p,.int .i64 x.l,.int .i64 x.e,.bool x.b,.int .i64 x.v,.int .i64 x.r,.slice a10 l10 c10,.slice a11 l11 c11,.slice a12 l12 c12,.slice a13 l13 c13,.int .i64 x.n,.bool x.op,.slice a16 l16 c16,.slice a17 l17 c17,.slice a18 l18 c18,.int .i64 x.sfn,.slice a20 l20 c20,.slice a21 l21 c21] 36 (0,0)):=aQ _ _ _
 go_enter Tryz.func7,Tryz.ntmps7
 go_upto_region 2 with fail
 generalize (w.alloc (.cells #[.int .i64 x.s,.int .i64 x.t,.int .i64 x.k,.int .i64 x.z,.int .i64 x.p,.int .i64 x.l,.int .i64 x.e,.bool x.b,.int .i64 x.v,.int .i64 x.r,.slice a10 l10 c10,.slice a11 l11 c11,.slice a12 l12 c12,.slice a13 l13 c13,.int .i64 x.n,.bool x.op,.slice a16 l16 c16,.slice a17 l17 c17,.slice a18 l18 c18,.int .i64 x.sfn,.slice a20 l20 c20,.slice a21 l21 c21] 36))=W0 at bX HB0 ⊢
 have HF0:=ab (h.below HB0)
 clear h
 have hL:=bt bX 36 Tryz.underlying36 rfl (iU)
 go_wp2_with fail
 clear hL
 refine(szFlA x a10 l10 c10 a11 l11 c11 a12 l12 c12 a13 l13 c13 a16 l16 c16 a17 l17 c17 a18 l18 c18 a20 l20 c20 a21 l21 c21 _ (aa HF0)).mono ?_
 rintro e' w1 ⟨⟨rr,rfl,hr⟩,hb1⟩
 have bX1:=(hb1.block _ (am bX)).trans bX
 have HB1:=ab (ad HB0 hb1)
 have HF1:=ab ((aa HF0).below hb1)
 clear hb1 bX HF0 HB0
 rcases hr with rfl|⟨hr0,hr1,hok⟩
 ·go_wp2
  go_ret
  exact⟨rfl,aa HB1⟩
 ·have hneg:¬ rr<0:=by omega
  have hL:=bt bX1 36 Tryz.underlying36 rfl (iU)
  go_wp2_with fail
  clear hL
  refine(toFlA x a10 l10 c10 a11 l11 c11 a12 l12 c12 a13 l13 c13 a16 l16 c16 a17 l17 c17 a18 l18 c18 a20 l20 c20 a21 l21 c21 _ (aa HF1) hok).mono ?_
  rintro e' w2 ⟨b10,b11,b12,b13,b16,b17,b18,b20,b21,rfl,H2,hb2⟩
  obtain⟨ob,hV⟩:∃ob,dA x=ob:=⟨_,rfl⟩
  go_wp2_with fail
  refine(iM x b10 l10 l10 b11 l11 l11 b12 l12 l12 b13 l13 l13 b16 l16 l16 b17 l17 l17 b18 l18 l18 b20 l20 l20 b21 l21 l21 _ _ H2 hok.2.2.2.2.2.2.1.2).mono ?_
  rw[hV]
  rintro e' w3 ⟨rfl,hb3⟩
  have hb13:=ad hb2 hb3
  have bX3:=(hb13.block _ (am bX1)).trans bX1
  have HB3:=ab (ad (aa HB1) hb13)
  have HF3:=ab ((aa HF1).below hb13)
  clear hb13 hb2 hb3 bX1 HF1 HB1 H2
  have hL:=bt bX3 36 Tryz.underlying36 rfl (iU)
  go_wp2_with fail
  clear hL
  refine(toFlA x a10 l10 c10 a11 l11 c11 a12 l12 c12 a13 l13 c13 a16 l16 c16 a17 l17 c17 a18 l18 c18 a20 l20 c20 a21 l21 c21 _ (aa HF3) hok).mono ?_
  rintro e' w4 ⟨q10,q11,q12,q13,q16,q17,q18,q20,q21,rfl,H4,hb4⟩
  have bX4:=(hb4.block _ (am bX3)).trans bX3
  have HB4:=ab (ad (aa HB3) hb4)
  have HF4:=ab ((aa HF3).below hb4)
  clear hb4 bX3 HF3 HB3
  have hbY:Below w4.heap.size w4 (w4.alloc (.cells #[.int .i64 x.s,.int .i64 x.t,.int .i64 x.k,.int .i64 x.z,.int .i64 x.p,.int .i64 x.l,.int .i64 x.e,.bool x.b,.int .i64 x.v,.int .i64 x.r,.slice q10 l10 l10,.slice q11 l11 l11,.slice q12 l12 l12,.slice q13 l13 l13,.int .i64 x.n,.bool x.op,.slice q16 l16 l16,.slice q17 l17 l17,.slice q18 l18 l18,.int .i64 x.sfn,.slice q20 l20 l20,.slice q21 l21 l21] 50)):=ai _ _
  have bY:(w4.alloc (.cells #[.int .i64 x.s,.int .i64 x.t,.int .i64 x.k,.int .i64 x.z,.int .i64 x.p,.int .i64 x.l,.int .i64 x.e,.bool x.b,.int .i64 x.v,.int .i64 x.r,.slice q10 l10 l10,.slice q11 l11 l11,.slice q12 l12 l12,.slice q13 l13 l13,.int .i64 x.n,.bool x.op,.slice q16 l16 l16,.slice q17 l17 l17,.slice q18 l18 l18,.int .i64 x.sfn,.slice q20 l20 l20,.slice q21 l21 l21] 50)).heap[w4.heap.size]? =some (.cells #[.int .i64 x.s,.int .i64 x.t,.int .i64 x.k,.int .i64 x.z,.int .i64 x.p,.int .i64 x.l,.int .i64 x.e,.bool x.b,.int .i64 x.v,.int .i64 x.r,.slice q10 l10 l10,.slice q11 l11 l11,.slice q12 l12 l12,.slice q13 l13 l13,.int .i64 x.n,.bool x.op,.slice q16 l16 l16,.slice q17 l17 l17,.slice q18 l18 l18,.int .i64 x.sfn,.slice q20 l20 l20,.slice q21 l21 l21] 50 (0,0)):=aQ _ _ _
  have hL:=bt bY 50 Tryz.underlying50 rfl (iU)
  have hS:=store_new (P:=Tryz.prog) w4 50 #[.int .i64 0,.int .i64 0,.int .i64 0,.int .i64 0,.int .i64 0,.int .i64 0,.int .i64 0,.bool false,.int .i64 0,.int .i64 0,.slice none 0 0,.slice none 0 0,.slice none 0 0,.slice none 0 0,.int .i64 0,.bool false,.slice none 0 0,.slice none 0 0,.slice none 0 0,.int .i64 0,.slice none 0 0,.slice none 0 0] #[.int .i64 x.s,.int .i64 x.t,.int .i64 x.k,.int .i64 x.z,.int .i64 x.p,.int .i64 x.l,.int .i64 x.e,.bool x.b,.int .i64 x.v,.int .i64 x.r,.slice q10 l10 l10,.slice q11 l11 l11,.slice q12 l12 l12,.slice q13 l13 l13,.int .i64 x.n,.bool x.op,.slice q16 l16 l16,.slice q17 l17 l17,.slice q18 l18 l18,.int .i64 x.sfn,.slice q20 l20 l20,.slice q21 l21 l21] (iU) rfl (by simp[Value.oneCell'])
  go_wp2_with fail
  clear hL hS
  refine(iL x q10 l10 l10 q11 l11 l11 q12 l12 l12 q13 l13 l13 q16 l16 l16 q17 l17 l17 q18 l18 l18 q20 l20 l20 q21 l21 l21 _ _ (H4.below hbY)).mono ?_
  rw[hV]
  generalize (w4.alloc (.cells #[.int .i64 x.s,.int .i64 x.t,.int .i64 x.k,.int .i64 x.z,.int .i64 x.p,.int .i64 x.l,.int .i64 x.e,.bool x.b,.int .i64 x.v,.int .i64 x.r,.slice q10 l10 l10,.slice q11 l11 l11,.slice q12 l12 l12,.slice q13 l13 l13,.int .i64 x.n,.bool x.op,.slice q16 l16 l16,.slice q17 l17 l17,.slice q18 l18 l18,.int .i64 x.sfn,.slice q20 l20 l20,.slice q21 l21 l21] 50))=V4 at hbY bY ⊢
  rintro e' w5 ⟨rfl,hb5⟩
  have hb45:=ad hbY hb5
  have bX5:=(hb45.block _ (am bX4)).trans bX4
  have bY5:=(hb5.block _ (am bY)).trans bY
  have HB5:=ab (ad (aa HB4) hb45)
  have HF5:=ab ((aa HF4).below hb45)
  have HY5:=ab (H4.below hb45)
  have zX:=am bX5
  have zY:=am bY5
  clear hb45 hb5 hbY bX4 bY HB4 HF4 H4
  go_wp2_with fail
  refine wp_region_held_drew (S:=(fun W=>Below w5.heap.size w5 W)) (iU) ?_ (fun hHeld=>?_)
  ·exact ag (Below.refl _ _)
  refine wpAnyH_take (i:=0) (v:= .agg #[.int .i64 x.s,.int .i64 x.t,.int .i64 x.k,.int .i64 x.z,.int .i64 x.p,.int .i64 x.l,.int .i64 x.e,.bool x.b,.int .i64 x.v,.int .i64 x.r,.slice q10 l10 l10,.slice q11 l11 l11,.slice q12 l12 l12,.slice q13 l13 l13,.int .i64 x.n,.bool x.op,.slice q16 l16 l16,.slice q17 l17 l17,.slice q18 l18 l18,.int .i64 x.sfn,.slice q20 l20 l20,.slice q21 l21 l21]) (by simp only[gA,gZ,gS];rfl) (iU) (iU) (iU) (by intro _ _ _ h;exact h) (yieldsIf_load_mid (by rfl) 50 (.tmp 5) rfl (w4.heap.size) 0 rfl [.int .i64 x.s,.int .i64 x.t,.int .i64 x.k,.int .i64 x.z,.int .i64 x.p,.int .i64 x.l,.int .i64 x.e,.bool x.b,.int .i64 x.v,.int .i64 x.r,.slice q10 l10 l10,.slice q11 l11 l11,.slice q12 l12 l12,.slice q13 l13 l13,.int .i64 x.n,.bool x.op,.slice q16 l16 l16,.slice q17 l17 l17,.slice q18 l18 l18,.int .i64 x.sfn,.slice q20 l20 l20,.slice q21 l21 l21] _ (fun w9 hSw=>gx ((hSw.block _ zY).trans bY5)) Tryz.underlying50 rfl (iU)) (by assumption) ?_
  try simp only[Act.put,tA,tZ,tS]
  refine wpAnyH_take (i:=1) (v:= .agg #[.int .i64 x.s,.int .i64 x.t,.int .i64 x.k,.int .i64 x.z,.int .i64 x.p,.int .i64 x.l,.int .i64 x.e,.bool x.b,.int .i64 x.v,.int .i64 x.r,.slice a10 l10 c10,.slice a11 l11 c11,.slice a12 l12 c12,.slice a13 l13 c13,.int .i64 x.n,.bool x.op,.slice a16 l16 c16,.slice a17 l17 c17,.slice a18 l18 c18,.int .i64 x.sfn,.slice a20 l20 c20,.slice a21 l21 c21]) (by simp only[gA,gZ,gS];rfl) (iU) (iU) (iU) (by intro _ _ _ h;exact h) (yieldsIf_load_mid (by rfl) 36 (.tmp 1) rfl (w.heap.size) 0 rfl [.int .i64 x.s,.int .i64 x.t,.int .i64 x.k,.int .i64 x.z,.int .i64 x.p,.int .i64 x.l,.int .i64 x.e,.bool x.b,.int .i64 x.v,.int .i64 x.r,.slice a10 l10 c10,.slice a11 l11 c11,.slice a12 l12 c12,.slice a13 l13 c13,.int .i64 x.n,.bool x.op,.slice a16 l16 c16,.slice a17 l17 c17,.slice a18 l18 c18,.int .i64 x.sfn,.slice a20 l20 c20,.slice a21 l21 c21] _ (fun w9 hSw=>gx ((hSw.block _ zX).trans bX5)) Tryz.underlying36 rfl (iU)) (by assumption) ?_
  try simp only[Act.put,tA,tZ,tS]
  refine rD 2 (fun K hK=>?_)
  go_simp
  (try dsimp only at hHeld)
  (go_at_call 11;refine(toFlA x a10 l10 c10 a11 l11 c11 a12 l12 c12 a13 l13 c13 a16 l16 c16 a17 l17 c17 a18 l18 c18 a20 l20 c20 a21 l21 c21 _ ((aa HF5).below hHeld) hok).mono ?_;rintro e9 w6 ⟨r10,r11,r12,r13,r16,r17,r18,r20,r21,rfl,H6,hbw6⟩)
  (try go_wp2_with fail)
  refine hK.out _ _ (ad hHeld hbw6) (fun iN=>?_)
  clear hK K hHeld
  have hHeld:=iN
  clear iN
  (try dsimp only at hHeld)
  try simp only[Act.put,tA,tZ,tS]
  refine rD 3 (fun K hK=>?_)
  go_simp
  (try dsimp only at hHeld)
  (go_at_call 13;refine(eqFlA _ _ x q10 r10 l10 q11 r11 l11 q12 r12 l12 q13 r13 l13 q16 r16 l16 q17 r17 l17 q18 r18 l18 q20 r20 l20 q21 r21 l21 _ ((aa HY5).below hHeld) H6).mono ?_;rintro e9 w7 ⟨rfl,hbw7⟩)
  (try go_wp2_with fail)
  refine hK.out _ _ (ad hHeld hbw7) (fun iN=>?_)
  clear hK K hHeld
  have hHeld:=iN
  clear iN
  (try dsimp only at hHeld)
  try simp only[Act.put,tA,tZ,tS]
  refine kV 4 ?_
  refine wpAnyH_done (iU) ?_ _
  go_wp2
  go_ret
  exact⟨rfl,ad (aa HB5) hHeld⟩
end Go.Proofs.YtiilbnjjhgcjdaaGreat
