/- Laid together: what the claim needs of the texts that were built one by one. -/
import Derived.Test.YtiilbnjjhgcjdaaGreatV19
import Derived.Test.YtiilbnjjhgcjdaaGreatV23
import Derived.Test.YtiilbnjjhgcjdaaGreatV0
set_option linter.unusedVariables false
namespace Go.Proofs.YtiilbnjjhgcjdaaGreat
open Go.ChangeShapes Go.WideShapes Go.ChangeAt Go.RowKit Go.Deep
set_option linter.unusedSimpArgs false
attribute [local go_sem ↓] gl
attribute [local go_sem ↓] rowStore_Fl
attribute [local go_sem ↓] rowLoad_Fq
theorem wrap_sm{n:Int}(h0: -1000≤n)(h1:n≤1000):IntKind.i64.wrap n=n:=IntWalk.i64_in _ ⟨by omega,by omega⟩
def dLf(x:fN)(i:Nat):Int:=match x.logs[i]?,x.srcs[i]? with
 |some l,some s=>(l.q.length:Int) - s.at_
 |_,_=>0
def leftF(x:fN):Nat→Int
 |0=>0
 |i+1=>leftF x i+dLf x i
/-- How many items of the logs were not sent. -/
def flLeft(x:fN):Int:=if ci x=true then leftF x x.logs.length else 0
theorem dLf_at{x:fN}{i:Nat}{l:cj}{s:dJ}(h1:x.logs[i]? =some l)(h2:x.srcs[i]? =some s):dLf x i=(l.q.length:Int) - s.at_:=by unfold dLf;rw[h1,h2]
theorem ok_left{x:fN}(hok:ci x=true):(x.logs.length:Int)=x.s∧(x.srcs.length:Int)=x.s∧(x.s≤3)∧∀(i:Nat) (l:cj) (s:dJ),x.logs[i]? =some l→x.srcs[i]? =some s→0≤s.at_∧s.at_≤(l.q.length:Int)∧(l.q.length:Int)≤40:=by
 simp only[ci,Bool.and_eq_true,decide_eq_true_eq]at hok
 have hc:=hok.1.1.1.1.1.1.1.1
 have h1:=hok.1.1.1.1.1.1.1.2
 have h2:=hok.1.1.1.1.1.1.2
 have hl:=hok.1.1.1.2
 have hp:=hok.1.1.2
 refine⟨h1,h2,(ck_bd hc).1.2,fun i l s hi hs=>?_⟩
 have a1:l.okB=true:=List.all_eq_true.1 hl l (List.mem_of_getElem? hi)
 have hi9:i<x.logs.length:=(List.getElem?_eq_some_iff.1 hi).1
 have a2:=List.all_eq_true.1 hp i (List.mem_range.2 hi9)
 unfold cj.okB bl at a1
 simp only[Bool.and_eq_true,aW,List.length_map]at a1
 unfold fc at a2
 rw[hi,hs]at a2
 cases h3:x.at_[i]? with
 |none=>rw[h3]at a2;cases a2
 |some a=>
  rw[h3]at a2
  simp only[Bool.and_eq_true,aW]at a2
  have h40:(l.q.length:Int)≤40:=by first|exact a1.1.1.2|exact a1.1.2|exact a1.2.2|omega
  exact⟨a2.1.1.1,a2.1.1.2,h40⟩
theorem left_bd{x:fN}(hok:ci x=true):∀i,i≤x.logs.length→0≤leftF x i∧leftF x i≤40*i
 |0,_=>by simp[leftF]
 |i+1,h=>by
  have ih:=left_bd hok i (by omega)
  obtain⟨h1,h2,_,hb⟩:=ok_left hok
  obtain⟨l,hl⟩:∃l,x.logs[i]? =some l:=⟨_,List.getElem?_eq_getElem (by omega)⟩
  obtain⟨s,hs⟩:∃s,x.srcs[i]? =some s:=⟨_,List.getElem?_eq_getElem (by omega)⟩
  have:=hb i l s hl hs
  have hd:=dLf_at hl hs
  show 0≤leftF x i+dLf x i∧leftF x i+dLf x i≤40*((i+1:Nat):Int)
  omega
set_option maxRecDepth 20000 in
set_option maxHeartbeats 8000000 in
theorem specleft_any(x:fN)(a10:Option Addr)(l10 c10:Nat)(a11:Option Addr)(l11 c11:Nat)(a12:Option Addr)(l12 c12:Nat)(a13:Option Addr)(l13 c13:Nat)(a16:Option Addr)(l16 c16:Nat)(a17:Option Addr)(l17 c17:Nat)(a18:Option Addr)(l18 c18:Nat)(a20:Option Addr)(l20 c20:Nat)(a21:Option Addr)(l21 c21:Nat)(B:Nat)(w:World)(h:FlIs w B a10 l10 a11 l11 a12 l12 a13 l13 a16 l16 a17 l17 a18 l18 a20 l20 a21 l21 x)(hsm:∀y ∈ x.sn,y.sm):Calls Tryz.prog 32 #[.agg #[.int .i64 x.s,.int .i64 x.t,.int .i64 x.k,.int .i64 x.z,.int .i64 x.p,.int .i64 x.l,.int .i64 x.e,.bool x.b,.int .i64 x.v,.int .i64 x.r,.slice a10 l10 c10,.slice a11 l11 c11,.slice a12 l12 c12,.slice a13 l13 c13,.int .i64 x.n,.bool x.op,.slice a16 l16 c16,.slice a17 l17 c17,.slice a18 l18 c18,.int .i64 x.sfn,.slice a20 l20 c20,.slice a21 l21 c21]] w fun e' w'=>e'= .returned (.int .i64 (flLeft x))∧Below w.heap.size w w':=by
 have hl10:=h.logs.len
 have hl11:=h.srcs.len
 have HB0:Below w.heap.size w (w.alloc (.cells #[.int .i64 x.s,.int .i64 x.t,.int .i64 x.k,.int .i64 x.z,.int .i64 x.p,.int .i64 x.l,.int .i64 x.e,.bool x.b,.int .i64 x.v,.int .i64 x.r,.slice a10 l10 c10,.slice a11 l11 c11,.slice a12 l12 c12,.slice a13 l13 c13,.int .i64 x.n,.bool x.op,.slice a16 l16 c16,.slice a17 l17 c17,.slice a18 l18 c18,.int .i64 x.sfn,.slice a20 l20 c20,.slice a21 l21 c21] 50)):=ai _ _
 have bX:(w.alloc (.cells #[.int .i64 x.s,.int .i64 x.t,.int .i64 x.k,.int .i64 x.z,.int .i64 x.p,.int .i64 x.l,.int .i64 x.e,.bool x.b,.int .i64 x.v,.int .i64 x.r,.slice a10 l10 c10,.slice a11 l11 c11,.slice a12 l12 c12,.slice a13 l13 c13,.int .i64 x.n,.bool x.op,.slice a16 l16 c16,.slice a17 l17 c17,.slice a18 l18 c18,.int .i64 x.sfn,.slice a20 l20 c20,.slice a21 l21 c21] 50)).heap[w.heap.size]? =some (.cells #[.int .i64 x.s,.int .i64 x.t,.int .i64 x.k,.int .i64 x.z,.int .i64 x.p,.int .i64 x.l,.int .i64 x.e,.bool x.b,.int .i64 x.v,.int .i64 x.r,.slice a10 l10 c10,.slice a11 l11 c11,.slice a12 l12 c12,.slice a13 l13 c13,.int .i64 x.n,.bool x.op,.slice a16 l16 c16,.slice a17 l17 c17,.slice a18 l18 c18,.int .i64 x.sfn,.slice a20 l20 c20,.slice a21 l21 c21] 50 (0,0)):=aX _ _ _
 have zz0:(w.alloc (.cells #[.int .i64 x.s,.int .i64 x.t,.int .i64 x.k,.int .i64 x.z,.int .i64 x.p,.int .i64 x.l,.int .i64 x.e,.bool x.b,.int .i64 x.v,.int .i64 x.r,.slice a10 l10 c10,.slice a11 l11 c11,.slice a12 l12 c12,.slice a13 l13 c13,.int .i64 x.n,.bool x.op,.slice a16 l16 c16,.slice a17 l17 c17,.slice a18 l18 c18,.int .i64 x.sfn,.slice a20 l20 c20,.slice a21 l21 c21] 50)).heap.size=w.heap.size+1:=by simp
 go_enter Tryz.func32,Tryz.ntmps32
 go_upto_region 1 with fail
 generalize (w.alloc (.cells #[.int .i64 x.s,.int .i64 x.t,.int .i64 x.k,.int .i64 x.z,.int .i64 x.p,.int .i64 x.l,.int .i64 x.e,.bool x.b,.int .i64 x.v,.int .i64 x.r,.slice a10 l10 c10,.slice a11 l11 c11,.slice a12 l12 c12,.slice a13 l13 c13,.int .i64 x.n,.bool x.op,.slice a16 l16 c16,.slice a17 l17 c17,.slice a18 l18 c18,.int .i64 x.sfn,.slice a20 l20 c20,.slice a21 l21 c21] 50))=W0 at bX HB0 zz0 ⊢
 have HF:=ab (h.below HB0)
 have HB:=ab HB0
 clear HB0 h
 have hL:=cQ bX 50 Tryz.underlying50 rfl (iO)
 go_wp2_with fail
 clear hL
 refine(gr x a10 l10 c10 a11 l11 c11 a12 l12 c12 a13 l13 c13 a16 l16 c16 a17 l17 c17 a18 l18 c18 a20 l20 c20 a21 l21 c21 B _ (aa HF) hsm).mono ?_
 cases q0:ci x
 ·have hE:=ab (show flLeft x=0 by unfold flLeft;rw[q0];rfl)
  rintro e9 w1 ⟨rfl,hb1⟩
  go_wp2
  go_ret
  exact⟨cL (aa hE).symm,ae (aa HB) hb1⟩
 obtain⟨e10,e11,hs3,hbd⟩:=ok_left q0
 have HBD:=ab hbd
 have HLB:=ab (left_bd q0)
 have HLN:=ab (And.intro hl10 (And.intro hl11 (And.intro e10 (And.intro e11 hs3))))
 have HE:=ab (show flLeft x=leftF x x.logs.length by unfold flLeft;rw[q0];rfl)
 clear hbd q0 hl10 hl11 e10 e11 hs3
 rintro e9 w1 ⟨rfl,hb1⟩
 have bX1:=(hb1.block _ (ap bX)).trans bX
 have HB1:=ab (ae (aa HB) hb1)
 have HF1:=ab ((aa HF).below hb1)
 clear HF HB bX hb1 zz0
 have cx10:=cA bX1 10
 have cx11:=cA bX1 11
 simp only[gA,gZ,gS]at cx10 cx11
 go_wp2
 clear cx10 cx11
 go_loopw [3,4] (fun n i wr=>∃ix:Nat,ix≤l10∧n= .int .i64 (leftF x ix)∧i= .int .i64 ix∧Below w1.heap.size w1 wr) (fun _ i _=>l10 - (intOf i).toNat)
 case atStart=>exact⟨0,Nat.zero_le _,rfl,rfl,Below.refl _ _⟩
 case round=>
  obtain⟨ix,hk,rfl,rfl,hbw⟩:=hrel
  have bXr:=(hbw.block _ (ap bX1)).trans bX1
  have zXr:=ap bXr
  have cx10:=cA bXr 10
  have cx11:=cA bXr 11
  simp only[gA,gZ,gS]at cx10 cx11
  have hbn:=aa HLB ix (by obtain⟨hl10,hl11,e10,e11,hs3⟩:=aa HLN;omega)
  have hx3:(ix:Int)≤3:=by obtain⟨hl10,hl11,e10,e11,hs3⟩:=aa HLN;omega
  by_cases hlt:ix<l10
  ·obtain⟨hl10,hl11,e10,e11,hs3⟩:=aa HLN
   have hF:=(aa HF1).below hbw
   obtain⟨_,_,hx9⟩:=hF.logs
   obtain⟨g,o,rfl,_,hr⟩:=hx9.resolve_left (by omega)
   obtain⟨y,hy⟩:∃y,x.logs[ix]? =some y:=⟨_,List.getElem?_eq_getElem (by omega)⟩
   have hy1:=hr ix y hy
   have zg:=hy1.lt
   obtain⟨a0y,l0y,c0y,e0,k0⟩:=hy1
   rw[Nat.mul_one]at e0
   have hlq:=k0.len
   obtain⟨_,_,hx8⟩:=hF.srcs.1
   obtain⟨gs,os,rfl,hrs⟩:=hx8.resolve_left (by omega)
   obtain⟨ys,hys⟩:∃ys,x.srcs[ix]? =some ys:=⟨_,List.getElem?_eq_getElem (by omega)⟩
   have zs:=bK (hrs ix ys hys).1
   obtain⟨f0,f1⟩:=hrs ix ys hys
   have hD:=dLf_at hy hys
   have hb9:=aa HBD ix y ys hy hys
   have hlen:y.q.length=l0y:=hlq.1
   rw[hlen]at hD hb9
   have HL:=ab (show leftF x (ix+1)=leftF x ix+((l0y:Int) - ys.at_) by rw[←hD];rfl)
   have hi10:(ix:Int)<(l10:Int):=by omega
   have hi11:(ix:Int)<(l11:Int):=by omega
   have hj10:ix<l10:=by omega
   have hj11:ix<l11:=by omega
   clear hx9 hr hy hx8 hrs hys k0 hlq hF hlen hD f1 hl10 hl11 e10 e11 hs3
   generalize leftF x ix=n at hbn HL ⊢
   go_wp2_with fail
   refine wp_region_held_drew (S:=(fun W=>Below wr.heap.size wr W)) (iO) ?_ (fun hHeld=>?_)
   ·exact ah (Below.refl _ _)
   refine kV 0 ?_
   refine kV 1 ?_
   refine kT 2 ?_ ?_ ?_
   rotate_left
   ·(intro w9 hSw;(try dsimp only at hSw);have g0:=(hSw.cell (p:=⟨w.heap.size,10,none⟩) zXr).trans cx10;go_simp<;>with_reducible rfl)
   try simp only[Act.put,tA,tZ,tS]
   refine kV 3 ?_
   refine kV 4 ?_
   refine kT 5 ?_ ?_ ?_
   rotate_left
   ·(intro w9 hSw;(try dsimp only at hSw);have g2:=(hSw.cell (p:=⟨g,o+ix,none⟩) zg).trans e0;go_simp<;>with_reducible rfl)
   try simp only[Act.put,tA,tZ,tS]
   refine kV 6 ?_
   refine kV 7 ?_
   refine kV 8 ?_
   refine kT 9 ?_ ?_ ?_
   rotate_left
   ·(intro w9 hSw;(try dsimp only at hSw);have g1:=(hSw.cell (p:=⟨w.heap.size,11,none⟩) zXr).trans cx11;go_simp<;>with_reducible rfl)
   try simp only[Act.put,tA,tZ,tS]
   refine kV 10 ?_
   refine kV 11 ?_
   refine kV 12 ?_
   refine kT 13 ?_ ?_ ?_
   rotate_left
   ·(intro w9 hSw;(try dsimp only at hSw);have g3:=(hSw.cell (p:=⟨gs,os+ix*2,none⟩) zs).trans f0;go_simp<;>with_reducible rfl)
   try simp only[Act.put,tA,tZ,tS]
   refine kV 14 ?_
   refine kV 15 ?_
   refine wpAnyH_done (iO) ?_ _
   go_wp2
   go_roundw
   case rel=>exact⟨ix+1,by omega,by rw[aa HL];(try rw[wrap_sm (n:=n+(l0y:Int)) (by omega) (by omega)]);(try rw[wrap_sm (n:=n+(l0y:Int) - ys.at_) (by omega) (by omega)]);(try rw[wrap_sm (n:=(l0y:Int) - ys.at_) (by omega) (by omega)]);(try rw[wrap_sm (n:=n+((l0y:Int) - ys.at_)) (by omega) (by omega)]);(try(first|rfl|(congr 1;omega))),by go_num,ae hbw hHeld⟩
   case measure=>simp[intOf];omega
  ·have h8:ix=x.logs.length:=by obtain⟨hl10,hl11,e10,e11,hs3⟩:=aa HLN;omega
   have HV:=ab (show flLeft x=leftF x ix by rw[aa HE,h8])
   clear h8
   generalize leftF x ix=n at hbn HV ⊢
   have hge:¬ (ix:Int)<(l11:Int):=by obtain⟨hl10,hl11,e10,e11,hs3⟩:=aa HLN;omega
   go_wp2
   go_ret
   exact⟨cL (aa HV).symm,ae (aa HB1) hbw⟩
set_option maxRecDepth 20000 in
set_option maxHeartbeats 8000000 in
theorem implleft_any(x:fN)(a10:Option Addr)(l10 c10:Nat)(a11:Option Addr)(l11 c11:Nat)(a12:Option Addr)(l12 c12:Nat)(a13:Option Addr)(l13 c13:Nat)(a16:Option Addr)(l16 c16:Nat)(a17:Option Addr)(l17 c17:Nat)(a18:Option Addr)(l18 c18:Nat)(a20:Option Addr)(l20 c20:Nat)(a21:Option Addr)(l21 c21:Nat)(B:Nat)(w:World)(h:FlIs w B a10 l10 a11 l11 a12 l12 a13 l13 a16 l16 a17 l17 a18 l18 a20 l20 a21 l21 x):Calls Tryz.prog 33 #[.agg #[.int .i64 x.s,.int .i64 x.t,.int .i64 x.k,.int .i64 x.z,.int .i64 x.p,.int .i64 x.l,.int .i64 x.e,.bool x.b,.int .i64 x.v,.int .i64 x.r,.slice a10 l10 c10,.slice a11 l11 c11,.slice a12 l12 c12,.slice a13 l13 c13,.int .i64 x.n,.bool x.op,.slice a16 l16 c16,.slice a17 l17 c17,.slice a18 l18 c18,.int .i64 x.sfn,.slice a20 l20 c20,.slice a21 l21 c21]] w fun e' w'=>e'= .returned (.int .i64 (flLeft x))∧Below w.heap.size w w':=by
 have hl10:=h.logs.len
 have hl11:=h.srcs.len
 have HB0:Below w.heap.size w (w.alloc (.cells #[.int .i64 x.s,.int .i64 x.t,.int .i64 x.k,.int .i64 x.z,.int .i64 x.p,.int .i64 x.l,.int .i64 x.e,.bool x.b,.int .i64 x.v,.int .i64 x.r,.slice a10 l10 c10,.slice a11 l11 c11,.slice a12 l12 c12,.slice a13 l13 c13,.int .i64 x.n,.bool x.op,.slice a16 l16 c16,.slice a17 l17 c17,.slice a18 l18 c18,.int .i64 x.sfn,.slice a20 l20 c20,.slice a21 l21 c21] 50)):=ai _ _
 have bX:(w.alloc (.cells #[.int .i64 x.s,.int .i64 x.t,.int .i64 x.k,.int .i64 x.z,.int .i64 x.p,.int .i64 x.l,.int .i64 x.e,.bool x.b,.int .i64 x.v,.int .i64 x.r,.slice a10 l10 c10,.slice a11 l11 c11,.slice a12 l12 c12,.slice a13 l13 c13,.int .i64 x.n,.bool x.op,.slice a16 l16 c16,.slice a17 l17 c17,.slice a18 l18 c18,.int .i64 x.sfn,.slice a20 l20 c20,.slice a21 l21 c21] 50)).heap[w.heap.size]? =some (.cells #[.int .i64 x.s,.int .i64 x.t,.int .i64 x.k,.int .i64 x.z,.int .i64 x.p,.int .i64 x.l,.int .i64 x.e,.bool x.b,.int .i64 x.v,.int .i64 x.r,.slice a10 l10 c10,.slice a11 l11 c11,.slice a12 l12 c12,.slice a13 l13 c13,.int .i64 x.n,.bool x.op,.slice a16 l16 c16,.slice a17 l17 c17,.slice a18 l18 c18,.int .i64 x.sfn,.slice a20 l20 c20,.slice a21 l21 c21] 50 (0,0)):=aX _ _ _
 have zz0:(w.alloc (.cells #[.int .i64 x.s,.int .i64 x.t,.int .i64 x.k,.int .i64 x.z,.int .i64 x.p,.int .i64 x.l,.int .i64 x.e,.bool x.b,.int .i64 x.v,.int .i64 x.r,.slice a10 l10 c10,.slice a11 l11 c11,.slice a12 l12 c12,.slice a13 l13 c13,.int .i64 x.n,.bool x.op,.slice a16 l16 c16,.slice a17 l17 c17,.slice a18 l18 c18,.int .i64 x.sfn,.slice a20 l20 c20,.slice a21 l21 c21] 50)).heap.size=w.heap.size+1:=by simp
 go_enter Tryz.func33,Tryz.ntmps33
 go_upto_region 1 with fail
 generalize (w.alloc (.cells #[.int .i64 x.s,.int .i64 x.t,.int .i64 x.k,.int .i64 x.z,.int .i64 x.p,.int .i64 x.l,.int .i64 x.e,.bool x.b,.int .i64 x.v,.int .i64 x.r,.slice a10 l10 c10,.slice a11 l11 c11,.slice a12 l12 c12,.slice a13 l13 c13,.int .i64 x.n,.bool x.op,.slice a16 l16 c16,.slice a17 l17 c17,.slice a18 l18 c18,.int .i64 x.sfn,.slice a20 l20 c20,.slice a21 l21 c21] 50))=W0 at bX HB0 zz0 ⊢
 have HF:=ab (h.below HB0)
 have HB:=ab HB0
 clear HB0 h
 have hL:=cQ bX 50 Tryz.underlying50 rfl (iO)
 go_wp2_with fail
 clear hL
 refine(gu x a10 l10 c10 a11 l11 c11 a12 l12 c12 a13 l13 c13 a16 l16 c16 a17 l17 c17 a18 l18 c18 a20 l20 c20 a21 l21 c21 B _ (aa HF)).mono ?_
 cases q0:ci x
 ·have hE:=ab (show flLeft x=0 by unfold flLeft;rw[q0];rfl)
  rintro e9 w1 ⟨rfl,hb1⟩
  go_wp2
  go_ret
  exact⟨cL (aa hE).symm,ae (aa HB) hb1⟩
 obtain⟨e10,e11,hs3,hbd⟩:=ok_left q0
 have HBD:=ab hbd
 have HLB:=ab (left_bd q0)
 have HLN:=ab (And.intro hl10 (And.intro hl11 (And.intro e10 (And.intro e11 hs3))))
 have HE:=ab (show flLeft x=leftF x x.logs.length by unfold flLeft;rw[q0];rfl)
 clear hbd q0 hl10 hl11 e10 e11 hs3
 rintro e9 w1 ⟨rfl,hb1⟩
 have bX1:=(hb1.block _ (ap bX)).trans bX
 have HB1:=ab (ae (aa HB) hb1)
 have HF1:=ab ((aa HF).below hb1)
 clear HF HB bX hb1 zz0
 have cx10:=cA bX1 10
 have cx11:=cA bX1 11
 simp only[gA,gZ,gS]at cx10 cx11
 go_wp2
 clear cx10 cx11
 go_loopw [3,12] (fun n i wr=>∃ix:Nat,ix≤l10∧n= .int .i64 (leftF x ix)∧i= .int .i64 ix∧Below w1.heap.size w1 wr) (fun _ i _=>l10 - (intOf i).toNat)
 case atStart=>exact⟨0,Nat.zero_le _,rfl,rfl,Below.refl _ _⟩
 case round=>
  obtain⟨ix,hk,rfl,rfl,hbw⟩:=hrel
  have bXr:=(hbw.block _ (ap bX1)).trans bX1
  have zXr:=ap bXr
  have cx10:=cA bXr 10
  have cx11:=cA bXr 11
  simp only[gA,gZ,gS]at cx10 cx11
  have hbn:=aa HLB ix (by obtain⟨hl10,hl11,e10,e11,hs3⟩:=aa HLN;omega)
  have hx3:(ix:Int)≤3:=by obtain⟨hl10,hl11,e10,e11,hs3⟩:=aa HLN;omega
  by_cases hlt:ix<l10
  ·obtain⟨hl10,hl11,e10,e11,hs3⟩:=aa HLN
   have hF:=(aa HF1).below hbw
   obtain⟨_,_,hx9⟩:=hF.logs
   obtain⟨g,o,rfl,_,hr⟩:=hx9.resolve_left (by omega)
   obtain⟨y,hy⟩:∃y,x.logs[ix]? =some y:=⟨_,List.getElem?_eq_getElem (by omega)⟩
   have hy1:=hr ix y hy
   have zg:=hy1.lt
   obtain⟨a0y,l0y,c0y,e0,k0⟩:=hy1
   rw[Nat.mul_one]at e0
   have hlq:=k0.len
   obtain⟨_,_,hx8⟩:=hF.srcs.1
   obtain⟨gs,os,rfl,hrs⟩:=hx8.resolve_left (by omega)
   obtain⟨ys,hys⟩:∃ys,x.srcs[ix]? =some ys:=⟨_,List.getElem?_eq_getElem (by omega)⟩
   have zs:=bK (hrs ix ys hys).1
   obtain⟨f0,f1⟩:=hrs ix ys hys
   have hD:=dLf_at hy hys
   have hb9:=aa HBD ix y ys hy hys
   have hlen:y.q.length=l0y:=hlq.1
   rw[hlen]at hD hb9
   have HL:=ab (show leftF x (ix+1)=leftF x ix+((l0y:Int) - ys.at_) by rw[←hD];rfl)
   have hi10:(ix:Int)<(l10:Int):=by omega
   have hi11:(ix:Int)<(l11:Int):=by omega
   have hj10:ix<l10:=by omega
   have hj11:ix<l11:=by omega
   clear hx9 hr hy hx8 hrs hys k0 hlq hF hlen hD f1 hl10 hl11 e10 e11 hs3
   generalize leftF x ix=n at hbn HL ⊢
   go_wp2
   go_roundw
   case rel=>exact⟨ix+1,by omega,by rw[aa HL];(try rw[wrap_sm (n:=n+(l0y:Int)) (by omega) (by omega)]);(try rw[wrap_sm (n:=n+(l0y:Int) - ys.at_) (by omega) (by omega)]);(try rw[wrap_sm (n:=(l0y:Int) - ys.at_) (by omega) (by omega)]);(try rw[wrap_sm (n:=n+((l0y:Int) - ys.at_)) (by omega) (by omega)]);(try(first|rfl|(congr 1;omega))),by go_num,ae hbw (aj)⟩
   case measure=>simp[intOf];omega
  ·have h8:ix=x.logs.length:=by obtain⟨hl10,hl11,e10,e11,hs3⟩:=aa HLN;omega
   have HV:=ab (show flLeft x=leftF x ix by rw[aa HE,h8])
   clear h8
   generalize leftF x ix=n at hbn HV ⊢
   have hge:¬ (ix:Int)<(l11:Int):=by obtain⟨hl10,hl11,e10,e11,hs3⟩:=aa HLN;omega
   go_wp2
   go_ret
   exact⟨cL (aa HV).symm,ae (aa HB1) hbw⟩
set_option maxRecDepth 20000 in
set_option maxHeartbeats 16000000 in
theorem lawFloLeft(x:fN)(a10:Option Addr)(l10 c10:Nat)(a11:Option Addr)(l11 c11:Nat)(a12:Option Addr)(l12 c12:Nat)(a13:Option Addr)(l13 c13:Nat)(a16:Option Addr)(l16 c16:Nat)(a17:Option Addr)(l17 c17:Nat)(a18:Option Addr)(l18 c18:Nat)(a20:Option Addr)(l20 c20:Nat)(a21:Option Addr)(l21 c21:Nat)(w:World)(h:FlIs w 0 a10 l10 a11 l11 a12 l12 a13 l13 a16 l16 a17 l17 a18 l18 a20 l20 a21 l21 x):Calls Tryz.prog 8 #[.agg #[.int .i64 x.s,.int .i64 x.t,.int .i64 x.k,.int .i64 x.z,.int .i64 x.p,.int .i64 x.l,.int .i64 x.e,.bool x.b,.int .i64 x.v,.int .i64 x.r,.slice a10 l10 c10,.slice a11 l11 c11,.slice a12 l12 c12,.slice a13 l13 c13,.int .i64 x.n,.bool x.op,.slice a16 l16 c16,.slice a17 l17 c17,.slice a18 l18 c18,.int .i64 x.sfn,.slice a20 l20 c20,.slice a21 l21 c21]] w fun e' w'=>e'= .returned (.bool true)∧Below w.heap.size w w':=by
 have HB0:Below w.heap.size w (w.alloc (.cells #[.int .i64 x.s,.int .i64 x.t,.int .i64 x.k,.int .i64 x.z,.int .i64 x.p,.int .i64 x.l,.int .i64 x.e,.bool x.b,.int .i64 x.v,.int .i64 x.r,.slice a10 l10 c10,.slice a11 l11 c11,.slice a12 l12 c12,.slice a13 l13 c13,.int .i64 x.n,.bool x.op,.slice a16 l16 c16,.slice a17 l17 c17,.slice a18 l18 c18,.int .i64 x.sfn,.slice a20 l20 c20,.slice a21 l21 c21] 36)):=ai _ _
 have bX:(w.alloc (.cells #[.int .i64 x.s,.int .i64 x.t,.int .i64 x.k,.int .i64 x.z,.int .i64 x.p,.int .i64 x.l,.int .i64 x.e,.bool x.b,.int .i64 x.v,.int .i64 x.r,.slice a10 l10 c10,.slice a11 l11 c11,.slice a12 l12 c12,.slice a13 l13 c13,.int .i64 x.n,.bool x.op,.slice a16 l16 c16,.slice a17 l17 c17,.slice a18 l18 c18,.int .i64 x.sfn,.slice a20 l20 c20,.slice a21 l21 c21] 36)).heap[w.heap.size]? =some (.cells #[.int .i64 x.s,.int .i64 x.t,.int .i64 x.k,.int .i64 x.z,.int .i64 x.p,.int .i64 x.l,.int .i64 x.e,.bool x.b,.int .i64 x.v,.int .i64 x.r,.slice a10 l10 c10,.slice a11 l11 c11,.slice a12 l12 c12,.slice a13 l13 c13,.int .i64 x.n,.bool x.op,.slice a16 l16 c16,.slice a17 l17 c17,.slice a18 l18 c18,.int .i64 x.sfn,.slice a20 l20 c20,.slice a21 l21 c21] 36 (0,0)):=aX _ _ _
 go_enter Tryz.func8,Tryz.ntmps8
 go_upto_region 2 with fail
 generalize (w.alloc (.cells #[.int .i64 x.s,.int .i64 x.t,.int .i64 x.k,.int .i64 x.z,.int .i64 x.p,.int .i64 x.l,.int .i64 x.e,.bool x.b,.int .i64 x.v,.int .i64 x.r,.slice a10 l10 c10,.slice a11 l11 c11,.slice a12 l12 c12,.slice a13 l13 c13,.int .i64 x.n,.bool x.op,.slice a16 l16 c16,.slice a17 l17 c17,.slice a18 l18 c18,.int .i64 x.sfn,.slice a20 l20 c20,.slice a21 l21 c21] 36))=W0 at bX HB0 ⊢
 have HF0:=ab (h.below HB0)
 clear h
 have hL:=cQ bX 36 Tryz.underlying36 rfl (iO)
 go_wp2_with fail
 clear hL
 refine(szFlA x a10 l10 c10 a11 l11 c11 a12 l12 c12 a13 l13 c13 a16 l16 c16 a17 l17 c17 a18 l18 c18 a20 l20 c20 a21 l21 c21 _ (aa HF0)).mono ?_
 rintro e' w1 ⟨⟨rr,rfl,hr⟩,hb1⟩
 have bX1:=(hb1.block _ (ap bX)).trans bX
 have HB1:=ab (ae HB0 hb1)
 have HF1:=ab ((aa HF0).below hb1)
 clear hb1 bX HF0 HB0
 rcases hr with rfl|⟨hr0,hr1,hok⟩
 ·go_wp2
  go_ret
  exact⟨rfl,aa HB1⟩
 ·have hneg:¬ rr<0:=by omega
  have hL:=cQ bX1 36 Tryz.underlying36 rfl (iO)
  go_wp2_with fail
  clear hL
  refine(toFlA x a10 l10 c10 a11 l11 c11 a12 l12 c12 a13 l13 c13 a16 l16 c16 a17 l17 c17 a18 l18 c18 a20 l20 c20 a21 l21 c21 _ (aa HF1) hok).mono ?_
  rintro e' w2 ⟨b10,b11,b12,b13,b16,b17,b18,b20,b21,rfl,H2,hb2⟩
  obtain⟨ob,hV⟩:∃ob,flLeft x=ob:=⟨_,rfl⟩
  go_wp2_with fail
  refine(specleft_any x b10 l10 l10 b11 l11 l11 b12 l12 l12 b13 l13 l13 b16 l16 l16 b17 l17 l17 b18 l18 l18 b20 l20 l20 b21 l21 l21 _ _ H2 hok.2.2.2.2.2.2.1.2).mono ?_
  rw[hV]
  rintro e' w3 ⟨rfl,hb3⟩
  have hb13:=ae hb2 hb3
  have bX3:=(hb13.block _ (ap bX1)).trans bX1
  have HB3:=ab (ae (aa HB1) hb13)
  have HF3:=ab ((aa HF1).below hb13)
  clear hb13 hb2 hb3 bX1 HF1 HB1 H2
  have hL:=cQ bX3 36 Tryz.underlying36 rfl (iO)
  go_wp2_with fail
  clear hL
  refine(toFlA x a10 l10 c10 a11 l11 c11 a12 l12 c12 a13 l13 c13 a16 l16 c16 a17 l17 c17 a18 l18 c18 a20 l20 c20 a21 l21 c21 _ (aa HF3) hok).mono ?_
  rintro e' w4 ⟨q10,q11,q12,q13,q16,q17,q18,q20,q21,rfl,H4,hb4⟩
  have bX4:=(hb4.block _ (ap bX3)).trans bX3
  have HB4:=ab (ae (aa HB3) hb4)
  have HF4:=ab ((aa HF3).below hb4)
  clear hb4 bX3 HF3 HB3
  have hbY:Below w4.heap.size w4 (w4.alloc (.cells #[.int .i64 x.s,.int .i64 x.t,.int .i64 x.k,.int .i64 x.z,.int .i64 x.p,.int .i64 x.l,.int .i64 x.e,.bool x.b,.int .i64 x.v,.int .i64 x.r,.slice q10 l10 l10,.slice q11 l11 l11,.slice q12 l12 l12,.slice q13 l13 l13,.int .i64 x.n,.bool x.op,.slice q16 l16 l16,.slice q17 l17 l17,.slice q18 l18 l18,.int .i64 x.sfn,.slice q20 l20 l20,.slice q21 l21 l21] 50)):=ai _ _
  have bY:(w4.alloc (.cells #[.int .i64 x.s,.int .i64 x.t,.int .i64 x.k,.int .i64 x.z,.int .i64 x.p,.int .i64 x.l,.int .i64 x.e,.bool x.b,.int .i64 x.v,.int .i64 x.r,.slice q10 l10 l10,.slice q11 l11 l11,.slice q12 l12 l12,.slice q13 l13 l13,.int .i64 x.n,.bool x.op,.slice q16 l16 l16,.slice q17 l17 l17,.slice q18 l18 l18,.int .i64 x.sfn,.slice q20 l20 l20,.slice q21 l21 l21] 50)).heap[w4.heap.size]? =some (.cells #[.int .i64 x.s,.int .i64 x.t,.int .i64 x.k,.int .i64 x.z,.int .i64 x.p,.int .i64 x.l,.int .i64 x.e,.bool x.b,.int .i64 x.v,.int .i64 x.r,.slice q10 l10 l10,.slice q11 l11 l11,.slice q12 l12 l12,.slice q13 l13 l13,.int .i64 x.n,.bool x.op,.slice q16 l16 l16,.slice q17 l17 l17,.slice q18 l18 l18,.int .i64 x.sfn,.slice q20 l20 l20,.slice q21 l21 l21] 50 (0,0)):=aX _ _ _
  have hL:=cQ bY 50 Tryz.underlying50 rfl (iO)
  have hS:=store_new (P:=Tryz.prog) w4 50 #[.int .i64 0,.int .i64 0,.int .i64 0,.int .i64 0,.int .i64 0,.int .i64 0,.int .i64 0,.bool false,.int .i64 0,.int .i64 0,.slice none 0 0,.slice none 0 0,.slice none 0 0,.slice none 0 0,.int .i64 0,.bool false,.slice none 0 0,.slice none 0 0,.slice none 0 0,.int .i64 0,.slice none 0 0,.slice none 0 0] #[.int .i64 x.s,.int .i64 x.t,.int .i64 x.k,.int .i64 x.z,.int .i64 x.p,.int .i64 x.l,.int .i64 x.e,.bool x.b,.int .i64 x.v,.int .i64 x.r,.slice q10 l10 l10,.slice q11 l11 l11,.slice q12 l12 l12,.slice q13 l13 l13,.int .i64 x.n,.bool x.op,.slice q16 l16 l16,.slice q17 l17 l17,.slice q18 l18 l18,.int .i64 x.sfn,.slice q20 l20 l20,.slice q21 l21 l21] (iO) rfl (by simp[Value.oneCell'])
  go_wp2_with fail
  clear hL hS
  refine(implleft_any x q10 l10 l10 q11 l11 l11 q12 l12 l12 q13 l13 l13 q16 l16 l16 q17 l17 l17 q18 l18 l18 q20 l20 l20 q21 l21 l21 _ _ (H4.below hbY)).mono ?_
  rw[hV]
  generalize (w4.alloc (.cells #[.int .i64 x.s,.int .i64 x.t,.int .i64 x.k,.int .i64 x.z,.int .i64 x.p,.int .i64 x.l,.int .i64 x.e,.bool x.b,.int .i64 x.v,.int .i64 x.r,.slice q10 l10 l10,.slice q11 l11 l11,.slice q12 l12 l12,.slice q13 l13 l13,.int .i64 x.n,.bool x.op,.slice q16 l16 l16,.slice q17 l17 l17,.slice q18 l18 l18,.int .i64 x.sfn,.slice q20 l20 l20,.slice q21 l21 l21] 50))=V4 at hbY bY ⊢
  rintro e' w5 ⟨rfl,hb5⟩
  have hb45:=ae hbY hb5
  have bX5:=(hb45.block _ (ap bX4)).trans bX4
  have bY5:=(hb5.block _ (ap bY)).trans bY
  have HB5:=ab (ae (aa HB4) hb45)
  have HF5:=ab ((aa HF4).below hb45)
  have HY5:=ab (H4.below hb45)
  have zX:=ap bX5
  have zY:=ap bY5
  clear hb45 hb5 hbY bX4 bY HB4 HF4 H4
  go_wp2_with fail
  refine wp_region_held_drew (S:=(fun W=>Below w5.heap.size w5 W)) (iO) ?_ (fun hHeld=>?_)
  ·exact ah (Below.refl _ _)
  refine wpAnyH_take (i:=0) (v:= .agg #[.int .i64 x.s,.int .i64 x.t,.int .i64 x.k,.int .i64 x.z,.int .i64 x.p,.int .i64 x.l,.int .i64 x.e,.bool x.b,.int .i64 x.v,.int .i64 x.r,.slice q10 l10 l10,.slice q11 l11 l11,.slice q12 l12 l12,.slice q13 l13 l13,.int .i64 x.n,.bool x.op,.slice q16 l16 l16,.slice q17 l17 l17,.slice q18 l18 l18,.int .i64 x.sfn,.slice q20 l20 l20,.slice q21 l21 l21]) (by simp only[gA,gZ,gS];rfl) (iO) (iO) (iO) (by intro _ _ _ h;exact h) (yieldsIf_load_mid (by rfl) 50 (.tmp 5) rfl (w4.heap.size) 0 rfl [.int .i64 x.s,.int .i64 x.t,.int .i64 x.k,.int .i64 x.z,.int .i64 x.p,.int .i64 x.l,.int .i64 x.e,.bool x.b,.int .i64 x.v,.int .i64 x.r,.slice q10 l10 l10,.slice q11 l11 l11,.slice q12 l12 l12,.slice q13 l13 l13,.int .i64 x.n,.bool x.op,.slice q16 l16 l16,.slice q17 l17 l17,.slice q18 l18 l18,.int .i64 x.sfn,.slice q20 l20 l20,.slice q21 l21 l21] _ (fun w9 hSw=>gk ((hSw.block _ zY).trans bY5)) Tryz.underlying50 rfl (iO)) (by assumption) ?_
  try simp only[Act.put,tA,tZ,tS]
  refine wpAnyH_take (i:=1) (v:= .agg #[.int .i64 x.s,.int .i64 x.t,.int .i64 x.k,.int .i64 x.z,.int .i64 x.p,.int .i64 x.l,.int .i64 x.e,.bool x.b,.int .i64 x.v,.int .i64 x.r,.slice a10 l10 c10,.slice a11 l11 c11,.slice a12 l12 c12,.slice a13 l13 c13,.int .i64 x.n,.bool x.op,.slice a16 l16 c16,.slice a17 l17 c17,.slice a18 l18 c18,.int .i64 x.sfn,.slice a20 l20 c20,.slice a21 l21 c21]) (by simp only[gA,gZ,gS];rfl) (iO) (iO) (iO) (by intro _ _ _ h;exact h) (yieldsIf_load_mid (by rfl) 36 (.tmp 1) rfl (w.heap.size) 0 rfl [.int .i64 x.s,.int .i64 x.t,.int .i64 x.k,.int .i64 x.z,.int .i64 x.p,.int .i64 x.l,.int .i64 x.e,.bool x.b,.int .i64 x.v,.int .i64 x.r,.slice a10 l10 c10,.slice a11 l11 c11,.slice a12 l12 c12,.slice a13 l13 c13,.int .i64 x.n,.bool x.op,.slice a16 l16 c16,.slice a17 l17 c17,.slice a18 l18 c18,.int .i64 x.sfn,.slice a20 l20 c20,.slice a21 l21 c21] _ (fun w9 hSw=>gk ((hSw.block _ zX).trans bX5)) Tryz.underlying36 rfl (iO)) (by assumption) ?_
  try simp only[Act.put,tA,tZ,tS]
  refine rD 2 (fun K hK=>?_)
  go_simp
  (try dsimp only at hHeld)
  (go_at_call 11;refine(toFlA x a10 l10 c10 a11 l11 c11 a12 l12 c12 a13 l13 c13 a16 l16 c16 a17 l17 c17 a18 l18 c18 a20 l20 c20 a21 l21 c21 _ ((aa HF5).below hHeld) hok).mono ?_;rintro e9 w6 ⟨r10,r11,r12,r13,r16,r17,r18,r20,r21,rfl,H6,hbw6⟩)
  (try go_wp2_with fail)
  refine hK.out _ _ (ae hHeld hbw6) (fun iz=>?_)
  clear hK K hHeld
  have hHeld:=iz
  clear iz
  (try dsimp only at hHeld)
  try simp only[Act.put,tA,tZ,tS]
  refine rD 3 (fun K hK=>?_)
  go_simp
  (try dsimp only at hHeld)
  (go_at_call 13;refine(eqFlA _ _ x q10 r10 l10 q11 r11 l11 q12 r12 l12 q13 r13 l13 q16 r16 l16 q17 r17 l17 q18 r18 l18 q20 r20 l20 q21 r21 l21 _ ((aa HY5).below hHeld) H6).mono ?_;rintro e9 w7 ⟨rfl,hbw7⟩)
  (try go_wp2_with fail)
  refine hK.out _ _ (ae hHeld hbw7) (fun iz=>?_)
  clear hK K hHeld
  have hHeld:=iz
  clear iz
  (try dsimp only at hHeld)
  try simp only[Act.put,tA,tZ,tS]
  refine kV 4 ?_
  refine wpAnyH_done (iO) ?_ _
  go_wp2
  go_ret
  exact⟨rfl,ae (aa HB5) hHeld⟩
end Go.Proofs.YtiilbnjjhgcjdaaGreat
