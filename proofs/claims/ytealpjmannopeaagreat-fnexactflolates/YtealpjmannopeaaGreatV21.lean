/- Laid together: what the claim needs of the texts that were built one by one. -/
import Derived.Test.YtealpjmannopeaaGreatV11
import Derived.Test.YtealpjmannopeaaGreatV20
import Derived.Test.YtealpjmannopeaaGreatV1
import Derived.Test.YtealpjmannopeaaGreatV2
import Derived.Maps.AppendAt
import Derived.Test.YtealpjmannopeaaGreatV0
import Derived.Test.YtealpjmannopeaaGreatV10
set_option linter.unusedVariables false
namespace Go.Proofs.YtealpjmannopeaaGreat
open Go.ChangeShapes Go.WideShapes Go.ChangeAt Go.RowKit Go.Deep
set_option linter.unusedSimpArgs false
/-- A slice that is nil may be put behind one that the call owns: nothing turns. -/
theorem app_nil{P:Program}{w:World}{base:Nat}{t ty e:TypeId}{i:TypeInfo}{size n c:Nat}{v:Value}{xs:List Value}(ht:P.underlying t=some (.slice e))(hi:P.info? e=some i)(hown:w.ownsRow base e size v n xs):(Builtin.append_ #[t,t] ty #[v,.slice none 0 c]).run P w= .ok v w:=by
 obtain⟨_,⟨rfl,rfl⟩|⟨g,cap,cur,rfl,_,_,hnc,_⟩⟩:=hown
 ·simp[Builtin.append_,run_underlying ht,sizeOf,typeInfo,hi,Builtin.lenOf,Builtin.firstCells]
 ·simp[Builtin.append_,run_underlying ht,sizeOf,typeInfo,hi,Builtin.lenOf,Builtin.firstCells,hnc,storeCells]
/-- Rows, nil or not, are put behind those that the call owns. -/
theorem wp_app{P:Program}{w:World}{ops:Array Oper}{rest:List Oper}{o:Oper}{a:Act}{Q:Exit→Act→World→Prop}(hgd:o.guard=none)(s x:Operand)(t:TypeId)(ho:o.op= .call {callee:= .builtin .append,args:=#[s,x],argTypes:=#[t,t]})(base:Nat)(e:TypeId)(i:TypeInfo)(z:Value)(size bytes:Nat)(ht:P.underlying t=some (.slice e))(hi:P.info? e=some i)(hz:i.zero=some z)(hsize:i.size=size)(hby:i.bytes=bytes)(hzs:z.cells.size=size)(hsz:0<size)(v:Value)(n:Nat)(xs:List Value)(hs:a.eval s=v)(hown:w.ownsRow base e size v n xs)(ad:Option Addr)(m c:Nat)(news:List Value)(hx:a.eval x= .slice ad m c)(hl:news.length=m*size)(hnil:ad=none→m=0)(hnews:∀q,ad=some q→∀j u,news[j]? =some u→w.cell? (q.add j)=some u)(h1:∀u ∈ news,u.oneCell'=true)(h63:n+m≤maxLen)(hbytes:(n+m)*bytes≤140737488355328)(hbase:base≤w.heap.size)
  (h:∀v' w',w'.ownsRow base e size v' (n+m) (xs++news)→w.grownBy w' v.ownBlock→wpList P ops Q rest (a.put o.dst v') w'):wpList P ops Q (o :: rest) a w:=by
 cases ad with
 |none=>
  obtain rfl:=hnil rfl
  have hnn:news=[]:=List.eq_nil_of_length_eq_zero (by omega)
  subst hnn
  refine wpList_plain hgd fun _ hK=>?_
  have hr:=app_nil (P:=P) (w:=w) (t:=t) (ty:=o.type) (c:=c) ht hi hown
  have h9:=h v w (by rw[List.append_nil];exact hown) ⟨rfl,rfl,rfl,Nat.le_refl _,fun _ _ _=>rfl⟩
  unfold Oper.wp execOp
  simp only[ho,resolve,invoke,builtin,Sem.run_bind,Sem.run_pure,Result.andThen_ok,List.map_toArray,List.map_cons,List.map_nil,hs,hx,hr]
  exact hK _ _ h9
 |some q=>
  refine wpList_plain hgd fun _ hK=>?_
  obtain⟨v',w',hr,h2,h3,_,h4⟩:=run_append_own_at (P:=P) w base t o.type e i z size bytes ht hi hz hsize hby hzs hsz v n xs hown q m c news hl (hnews q rfl) h1 h63 hbytes hbase
  unfold Oper.wp execOp
  simp only[ho,resolve,invoke,builtin,Sem.run_bind,Sem.run_pure,Result.andThen_ok,List.map_toArray,List.map_cons,List.map_nil,hs,hx,hr]
  exact hK _ _ (h v' w' h2 h3)
theorem own_upF{W W':World}{B:Nat}{e:TypeId}{size n:Nat}{v:Value}{xs:List Value}(h:W.ownsRow B e size v n xs)(hb:∀b,v.ownBlock=some b→W'.heap[b]? =W.heap[b]?):W'.ownsRow B e size v n xs:=by
 rcases h with⟨hl,h|⟨g,cap,cur,rfl,hB,hblk,r⟩⟩
 ·exact⟨hl,Or.inl h⟩
 ·exact⟨hl,Or.inr ⟨g,cap,cur,rfl,hB,(hb g rfl).trans hblk,r⟩⟩
theorem jc{W:World}{B size n:Nat}{e:TypeId}{v:Value}{ys:List Value}(h:W.ownsRow B e size v n ys):∀b,v.ownBlock=some b→B≤b∧b<W.heap.size:=by
 intro b hb
 obtain⟨_,⟨rfl,_⟩|⟨g,cap,cur,rfl,hB,hblk,_⟩⟩:=h
 ·cases hb
 ·cases hb
  exact⟨hB,(Array.getElem?_eq_some_iff.1 hblk).1⟩
theorem fi{W:World}{B B' size n:Nat}{e:TypeId}{v:Value}{ys:List Value}(h:W.ownsRow B e size v n ys)(hB:B'≤B):W.ownsRow B' e size v n ys:=by
 rcases h with⟨hl,h|⟨g,cap,cur,rfl,hg,r⟩⟩
 ·exact⟨hl,Or.inl h⟩
 ·exact⟨hl,Or.inr ⟨g,cap,cur,rfl,Nat.le_trans hB hg,r⟩⟩
theorem gT{W W':World}{B:Nat}{e:TypeId}{size n:Nat}{v:Value}{xs:List Value}(h:W.ownsRow B e size v n xs)(hb:Below W.heap.size W W'):W'.ownsRow B e size v n xs:=own_upF h (fun b e9=>hb.block b (jc h b e9).2)
theorem addrF(g o j:Nat):((⟨g,o,none⟩:Addr).add j)=⟨g,o+j,none⟩:=by
 unfold Addr.add
 split
 ·rename_i h0;rw[h0];rfl
 ·rfl
theorem oneFLp(xs:List bz):∀u ∈ bk xs,u.oneCell'=true:=by
 intro u hu
 simp only[bk,List.mem_flatMap]at hu
 obtain⟨x,_,hx⟩:=hu
 simp[bz.cells]at hx
 rcases hx with rfl|rfl|rfl|rfl|rfl|rfl|rfl<;>rfl
theorem appFLp{W:World}{B:Nat}{v:Value}{xs ys:List bz}(h:W.ownsRow B 103 7 v (xs.length+ys.length) (bk xs++bk ys)):eW W B v (xs++ys):=by
 unfold eW
 rw[List.length_append,show bk (xs++ys)=bk xs++bk ys from by simp[bk]]
 exact h
theorem newsFLp{W:World}{a:Option Addr}{n:Nat}{xs:List bz}(h:dc W a n xs)(q:Addr)(ha:a=some q):∀j u,(bk xs)[j]? =some u→W.cell? (q.add j)=some u:=by
 intro j u hu
 obtain⟨h1,_,h3⟩:=h
 have hj:j<xs.length*7:=by rw[←fy];exact(List.getElem?_eq_some_iff.1 hu).1
 have hi:j / 7<xs.length:=by omega
 obtain⟨g,o,e,hat⟩:=h3.resolve_left (by omega)
 rw[ha]at e
 cases e
 rw[addrF]
 obtain⟨x,hx⟩:∃x,xs[j / 7]? =some x:=⟨_,List.getElem?_eq_getElem hi⟩
 obtain⟨f0,f1,f2,f3,f4,f5,f6⟩:=gC hx
 obtain⟨c0,c1,c2,c3,c4,c5,c6⟩:=hat (j / 7) x hx
 have hmod:j=j / 7*7∨j=j / 7*7+1∨j=j / 7*7+2∨j=j / 7*7+3∨j=j / 7*7+4∨j=j / 7*7+5∨j=j / 7*7+6:=by omega
 rcases hmod with hj|hj|hj|hj|hj|hj|hj
 ·rw[hj,f0]at hu;cases hu;rw[hj];exact c0
 ·rw[hj,f1]at hu;cases hu;rw[hj,←Nat.add_assoc];exact c1
 ·rw[hj,f2]at hu;cases hu;rw[hj,←Nat.add_assoc];exact c2
 ·rw[hj,f3]at hu;cases hu;rw[hj,←Nat.add_assoc];exact c3
 ·rw[hj,f4]at hu;cases hu;rw[hj,←Nat.add_assoc];exact c4
 ·rw[hj,f5]at hu;cases hu;rw[hj,←Nat.add_assoc];exact c5
 ·rw[hj,f6]at hu;cases hu;rw[hj,←Nat.add_assoc];exact c6
/-- All ls of sinks, one behind the other. -/
def cL:List bu→List bz
 | []=>[]
 |x :: xs=>x.ls++cL xs
theorem sFLp_app(xs ys:List bu):cL (xs++ys)=cL xs++cL ys:=by
 induction xs with
 |nil=>rfl
 |cons x xs ih=>
  show x.ls++cL (xs++ys)=(x.ls++cL xs)++cL ys
  rw[ih,List.append_assoc]
theorem iH{xs:List bu}{i:Nat}{x:bu}(h:xs[i]? =some x):cL (xs.take (i+1))=cL (xs.take i)++x.ls:=by
 rw[List.take_add_one,h,sFLp_app]
 show cL (xs.take i)++(x.ls++[])=_
 rw[List.append_nil]
theorem sFLp_len:∀ {xs:List bu},(∀y ∈ xs,y.ls.length≤1048576)→(cL xs).length≤1048576*xs.length
 | [],_=>Nat.zero_le _
 |x :: xs,h=>by
  have h1:=h x (by simp)
  have h2:=sFLp_len (xs:=xs) (fun y hy=>h y (List.mem_cons_of_mem _ hy))
  show(x.ls++cL xs).length≤1048576*(xs.length+1)
  rw[List.length_append]
  omega
theorem sFLp_tl{xs:List bu}(h:∀y ∈ xs,y.ls.length≤1048576)(i:Nat):(cL (xs.take i)).length≤1048576*i:=by
 have h1:=sFLp_len (xs:=xs.take i) (fun y hy=>h y (List.mem_of_mem_take hy))
 have h2:(xs.take i).length≤i:=by rw[List.length_take];omega
 exact Nat.le_trans h1 (Nat.mul_le_mul_left _ h2)
set_option linter.unusedSimpArgs false
attribute [local go_sem ↓] dE
attribute [local go_sem ↓] dL
attribute [local go_sem ↓] eD
set_option maxRecDepth 20000 in
set_option maxHeartbeats 8000000 in
theorem hU(x:fL)(a10:Option Addr)(l10 c10:Nat)(a11:Option Addr)(l11 c11:Nat)(a12:Option Addr)(l12 c12:Nat)(a13:Option Addr)(l13 c13:Nat)(a16:Option Addr)(l16 c16:Nat)(a17:Option Addr)(l17 c17:Nat)(a18:Option Addr)(l18 c18:Nat)(a20:Option Addr)(l20 c20:Nat)(a21:Option Addr)(l21 c21:Nat)(B:Nat)(w:World)(h:FlIs w B a10 l10 a11 l11 a12 l12 a13 l13 a16 l16 a17 l17 a18 l18 a20 l20 a21 l21 x)(hsm:∀y ∈ x.sn,y.sm)(hsk:x.sks.length≤1048576∧∀y ∈ x.sks,y.sm){ob:Bool}(hV:Hid (cl x=ob)):Calls Tryz.prog 15 #[.agg #[.int .i64 x.s,.int .i64 x.t,.int .i64 x.k,.int .i64 x.z,.int .i64 x.p,.int .i64 x.l,.int .i64 x.e,.bool x.b,.int .i64 x.v,.int .i64 x.r,.slice a10 l10 c10,.slice a11 l11 c11,.slice a12 l12 c12,.slice a13 l13 c13,.int .i64 x.n,.bool x.op,.slice a16 l16 c16,.slice a17 l17 c17,.slice a18 l18 c18,.int .i64 x.sfn,.slice a20 l20 c20,.slice a21 l21 c21]] w fun e' w'=>∃v',e'= .returned v'∧eW w' w.heap.size v' (if ob=true then cL x.sks else [])∧Below w.heap.size w w':=by
 have hl13:=h.sks.len
 obtain⟨i0,hi,hz0,hz1,hz2⟩:=info_parts Tryz.infoLp
 have HB0:Below w.heap.size w (w.alloc (.cells #[.int .i64 x.s,.int .i64 x.t,.int .i64 x.k,.int .i64 x.z,.int .i64 x.p,.int .i64 x.l,.int .i64 x.e,.bool x.b,.int .i64 x.v,.int .i64 x.r,.slice a10 l10 c10,.slice a11 l11 c11,.slice a12 l12 c12,.slice a13 l13 c13,.int .i64 x.n,.bool x.op,.slice a16 l16 c16,.slice a17 l17 c17,.slice a18 l18 c18,.int .i64 x.sfn,.slice a20 l20 c20,.slice a21 l21 c21] 51)):=ai _ _
 have bX:(w.alloc (.cells #[.int .i64 x.s,.int .i64 x.t,.int .i64 x.k,.int .i64 x.z,.int .i64 x.p,.int .i64 x.l,.int .i64 x.e,.bool x.b,.int .i64 x.v,.int .i64 x.r,.slice a10 l10 c10,.slice a11 l11 c11,.slice a12 l12 c12,.slice a13 l13 c13,.int .i64 x.n,.bool x.op,.slice a16 l16 c16,.slice a17 l17 c17,.slice a18 l18 c18,.int .i64 x.sfn,.slice a20 l20 c20,.slice a21 l21 c21] 51)).heap[w.heap.size]? =some (.cells #[.int .i64 x.s,.int .i64 x.t,.int .i64 x.k,.int .i64 x.z,.int .i64 x.p,.int .i64 x.l,.int .i64 x.e,.bool x.b,.int .i64 x.v,.int .i64 x.r,.slice a10 l10 c10,.slice a11 l11 c11,.slice a12 l12 c12,.slice a13 l13 c13,.int .i64 x.n,.bool x.op,.slice a16 l16 c16,.slice a17 l17 c17,.slice a18 l18 c18,.int .i64 x.sfn,.slice a20 l20 c20,.slice a21 l21 c21] 51 (0,0)):=aR _ _ _
 have zz0:(w.alloc (.cells #[.int .i64 x.s,.int .i64 x.t,.int .i64 x.k,.int .i64 x.z,.int .i64 x.p,.int .i64 x.l,.int .i64 x.e,.bool x.b,.int .i64 x.v,.int .i64 x.r,.slice a10 l10 c10,.slice a11 l11 c11,.slice a12 l12 c12,.slice a13 l13 c13,.int .i64 x.n,.bool x.op,.slice a16 l16 c16,.slice a17 l17 c17,.slice a18 l18 c18,.int .i64 x.sfn,.slice a20 l20 c20,.slice a21 l21 c21] 51)).heap.size=w.heap.size+1:=by simp
 go_enter Tryz.func15,Tryz.ntmps15
 go_upto_region 1 with fail
 generalize (w.alloc (.cells #[.int .i64 x.s,.int .i64 x.t,.int .i64 x.k,.int .i64 x.z,.int .i64 x.p,.int .i64 x.l,.int .i64 x.e,.bool x.b,.int .i64 x.v,.int .i64 x.r,.slice a10 l10 c10,.slice a11 l11 c11,.slice a12 l12 c12,.slice a13 l13 c13,.int .i64 x.n,.bool x.op,.slice a16 l16 c16,.slice a17 l17 c17,.slice a18 l18 c18,.int .i64 x.sfn,.slice a20 l20 c20,.slice a21 l21 c21] 51))=W0 at bX HB0 zz0 ⊢
 have HF:=ab (h.below HB0)
 have HB:=ab HB0
 clear HB0 h
 have hbE:Below W0.heap.size W0 (W0.alloc (.cells #[] 103)):=ai _ _
 have HO0:Hid (eW (W0.alloc (.cells #[] 103)) W0.heap.size (.slice (some ⟨W0.heap.size,0,none⟩) 0 0) []):=ab (World.ownsRow_lit (base:=W0.heap.size) (e:=103) (size:=7) W0 #[] 0 (Nat.le_refl _) (Nat.zero_le _) rfl)
 go_upto_region 2 with fail
 have bX0:=(hbE.block _ (ao bX)).trans bX
 have hL:=bV bX0 51 Tryz.underlying51 rfl (jl)
 go_wp2_with fail
 clear hL
 refine(hH x a10 l10 c10 a11 l11 c11 a12 l12 c12 a13 l13 c13 a16 l16 c16 a17 l17 c17 a18 l18 c18 a20 l20 c20 a21 l21 c21 B _ ((aa HF).below hbE) hsm).mono ?_
 rw[aa hV]
 rintro e9 w1 ⟨rfl,hb1⟩
 have hbW:Below W0.heap.size W0 w1:=ae hbE (hb1.mono (by simp))
 have bX1:=(hbW.block _ (ao bX)).trans bX
 have HO1:=ab (gT (aa HO0) hb1)
 have HB1:=ab (ae (aa HB) (hbW.mono (by omega)))
 have HF0:=ab (aa HF)
 have zW:w.heap.size≤W0.heap.size:=by omega
 cases ob
 ·go_wp2
  go_ret
  exact⟨_,rfl,by have h9:=fi (aa HO1) zW;(try rw[←zz0]);exact h9,aa HB1⟩
 clear HO0 HF hb1 hbE bX0
 have HLB:=ab (sFLp_tl (xs:=x.sks) (fun y hy=>(hsk.2 y hy).2.2))
 have HKL:=ab (And.intro hl13 hsk)
 clear hl13 hsk hsm
 have cx13:=cA bX1 13
 simp only[gA,gZ,gS]at cx13
 go_wp2
 clear cx13
 go_loopw [3,4] (fun ov i wr=>∃ix:Nat,ix≤l13∧i= .int .i64 ix∧Hid (eW wr W0.heap.size ov (cL (x.sks.take ix)))∧Below W0.heap.size W0 wr) (fun _ i _=>l13 - (intOf i).toNat)
 case atStart=>exact⟨0,Nat.zero_le _,rfl,ab (by rw[List.take_zero];have h9:=aa HO1;(try rw[←zz0]);exact h9),hbW⟩
 case round=>
  obtain⟨ix,hk,rfl,HO,hbw⟩:=hrel
  have bXr:=(hbw.block _ (ao bX)).trans bX
  have zXr:=ao bXr
  have cx13:=cA bXr 13
  simp only[gA,gZ,gS]at cx13
  by_cases hlt:ix<l13
  ·obtain⟨hl13,hsk1,hsk2⟩:=aa HKL
   have hF:=(aa HF0).below hbw
   obtain⟨_,_,hx9⟩:=hF.sks
   obtain⟨g,o,rfl,_,hr⟩:=hx9.resolve_left (by omega)
   obtain⟨y,hy⟩:∃y,x.sks[ix]? =some y:=⟨_,List.getElem?_eq_getElem (by omega)⟩
   have hy1:=hr ix y hy
   have zg:=hy1.lt
   obtain⟨m0,i0',j0,m2,i2,j2,m3,i3,j3,⟨F0,F1,F2,F3⟩,L0,L2,L3⟩:=hy1
   have HT:=ab (iH hy)
   have hle:=aa HLB ix
   have hly:y.ls.length≤1048576:=(hsk2 y (List.mem_of_getElem? hy)).2.2
   have HLN:=ab L3.1
   have hlq:=L3.1.1
   have hi13:(ix:Int)<(l13:Int):=by omega
   have hk9:=ab (show ix+1≤l13 by omega)
   have hixb:(ix:Int)≤1048576:=by have h9:=hl13.1;omega
   have hszl:(cL (x.sks.take ix)).length+y.ls.length≤1099511627776:=by omega
   have hge9:=ab (fun b9 (e9:Value.ownBlock u3=some b9)=>jc (aa HO) b9 e9)
   clear hx9 hr hy hF L0 L2 L3 hle hsk1 hsk2 hl13
   go_upto_region 6 with(at_builtin;go_loud (refine wp_app rfl _ _ 58 rfl W0.heap.size 103 i0 _ 7 56 Tryz.underlying58 hi hz0 hz1 hz2 rfl (by decide) u3 _ _ rfl (aa HO) m3 i3 j3 (bk y.ls) rfl (by rw[fy,hlq]) (fun h9=>(aa HLN).2.2.elim id (fun h8=>by obtain⟨_,_,h8,_⟩:=h8;rw[h9]at h8;cases h8)) (newsFLp (aa HLN)) (oneFLp _) (by unfold maxLen;omega) (by omega) (by first|omega|(simp;omega)) ?_);intro v5 w5 hown hgrow)
   have hb5:Below W0.heap.size W0 w5:=hbw.grown hgrow hbw.size (fun b9 e9=>(aa hge9 b9 e9).1)
   rw[←hlq]at hown
   have HO5:Hid (eW w5 W0.heap.size v5 (cL (x.sks.take (ix+1)))):=ab (by rw[aa HT];exact appFLp hown)
   clear hown hgrow hge9
   go_wp2
   go_roundw
   case rel=>exact⟨ix+1,aa hk9,by go_num,HO5,hb5⟩
   case measure=>have h9:=aa hk9;simp[intOf];omega
  ·have HV:Hid (cL (x.sks.take ix)=cL x.sks):=ab (by obtain⟨hl13,_⟩:=aa HKL;rw[List.take_of_length_le (by omega)])
   have hge:¬ (ix:Int)<(l13:Int):=by omega
   go_wp2
   go_ret
   exact⟨_,rfl,fi (by have h9:=aa HO;rw[aa HV]at h9;exact h9) zW,ae (aa HB) (hbw.mono (by omega))⟩
end Go.Proofs.YtealpjmannopeaaGreat
namespace Go.Proofs.YtealpjmannopeaaGreat
open Go.ChangeShapes Go.WideShapes Go.ChangeAt Go.RowKit
theorem bW{b0 b1 b2 b3 a0 a1 a2 a3 a4 a5 a6 a7 a8 a9 c0 c1 e0 e1 e2 e3 e4 e5 e6 e7 e8 e9 e10 e11 e12 g0 g1 g2 g3 g4 g5 g6 g7 g8 g9 g10 g11 g12:Nat}{k0 k1 k2 k3 k4 k5 k6 k7 k8 k9 l0 l1 m0 m1 m2 m3 m4 m5 m6 m7 m8 m9 m10 m11 m12 n0 n1 n2 n3 n4 n5 n6 n7 n8 n9 n10 n11 n12:Value}{W W':World}(h:((W.cell? ⟨b0,a0,none⟩=some k0∧W.cell? ⟨b0,a1,none⟩=some k1∧W.cell? ⟨b0,a2,none⟩=some k2∧W.cell? ⟨b0,a3,none⟩=some k3∧W.cell? ⟨b0,a4,none⟩=some k4∧W.cell? ⟨b0,a5,none⟩=some k5∧W.cell? ⟨b0,a6,none⟩=some k6∧W.cell? ⟨b0,a7,none⟩=some k7∧W.cell? ⟨b0,a8,none⟩=some k8∧W.cell? ⟨b0,a9,none⟩=some k9∧W.cell? ⟨b1,c0,none⟩=some l0∧W.cell? ⟨b1,c1,none⟩=some l1∧W.cell? ⟨b2,e0,none⟩=some m0∧W.cell? ⟨b2,e1,none⟩=some m1∧W.cell? ⟨b2,e2,none⟩=some m2∧W.cell? ⟨b2,e3,none⟩=some m3∧W.cell? ⟨b2,e4,none⟩=some m4∧W.cell? ⟨b2,e5,none⟩=some m5∧W.cell? ⟨b2,e6,none⟩=some m6∧W.cell? ⟨b2,e7,none⟩=some m7∧W.cell? ⟨b2,e8,none⟩=some m8∧W.cell? ⟨b2,e9,none⟩=some m9∧W.cell? ⟨b2,e10,none⟩=some m10∧W.cell? ⟨b2,e11,none⟩=some m11∧W.cell? ⟨b2,e12,none⟩=some m12∧W.cell? ⟨b3,g0,none⟩=some n0∧W.cell? ⟨b3,g1,none⟩=some n1∧W.cell? ⟨b3,g2,none⟩=some n2∧W.cell? ⟨b3,g3,none⟩=some n3∧W.cell? ⟨b3,g4,none⟩=some n4∧W.cell? ⟨b3,g5,none⟩=some n5∧W.cell? ⟨b3,g6,none⟩=some n6∧W.cell? ⟨b3,g7,none⟩=some n7∧W.cell? ⟨b3,g8,none⟩=some n8∧W.cell? ⟨b3,g9,none⟩=some n9∧W.cell? ⟨b3,g10,none⟩=some n10∧W.cell? ⟨b3,g11,none⟩=some n11∧W.cell? ⟨b3,g12,none⟩=some n12)∧b0<W.heap.size∧b1<W.heap.size∧b2<W.heap.size∧b3<W.heap.size))(hb:Below W.heap.size W W'):((W'.cell? ⟨b0,a0,none⟩=some k0∧W'.cell? ⟨b0,a1,none⟩=some k1∧W'.cell? ⟨b0,a2,none⟩=some k2∧W'.cell? ⟨b0,a3,none⟩=some k3∧W'.cell? ⟨b0,a4,none⟩=some k4∧W'.cell? ⟨b0,a5,none⟩=some k5∧W'.cell? ⟨b0,a6,none⟩=some k6∧W'.cell? ⟨b0,a7,none⟩=some k7∧W'.cell? ⟨b0,a8,none⟩=some k8∧W'.cell? ⟨b0,a9,none⟩=some k9∧W'.cell? ⟨b1,c0,none⟩=some l0∧W'.cell? ⟨b1,c1,none⟩=some l1∧W'.cell? ⟨b2,e0,none⟩=some m0∧W'.cell? ⟨b2,e1,none⟩=some m1∧W'.cell? ⟨b2,e2,none⟩=some m2∧W'.cell? ⟨b2,e3,none⟩=some m3∧W'.cell? ⟨b2,e4,none⟩=some m4∧W'.cell? ⟨b2,e5,none⟩=some m5∧W'.cell? ⟨b2,e6,none⟩=some m6∧W'.cell? ⟨b2,e7,none⟩=some m7∧W'.cell? ⟨b2,e8,none⟩=some m8∧W'.cell? ⟨b2,e9,none⟩=some m9∧W'.cell? ⟨b2,e10,none⟩=some m10∧W'.cell? ⟨b2,e11,none⟩=some m11∧W'.cell? ⟨b2,e12,none⟩=some m12∧W'.cell? ⟨b3,g0,none⟩=some n0∧W'.cell? ⟨b3,g1,none⟩=some n1∧W'.cell? ⟨b3,g2,none⟩=some n2∧W'.cell? ⟨b3,g3,none⟩=some n3∧W'.cell? ⟨b3,g4,none⟩=some n4∧W'.cell? ⟨b3,g5,none⟩=some n5∧W'.cell? ⟨b3,g6,none⟩=some n6∧W'.cell? ⟨b3,g7,none⟩=some n7∧W'.cell? ⟨b3,g8,none⟩=some n8∧W'.cell? ⟨b3,g9,none⟩=some n9∧W'.cell? ⟨b3,g10,none⟩=some n10∧W'.cell? ⟨b3,g11,none⟩=some n11∧W'.cell? ⟨b3,g12,none⟩=some n12)∧b0<W'.heap.size∧b1<W'.heap.size∧b2<W'.heap.size∧b3<W'.heap.size):=by
 obtain⟨h99,s0,s1,s2,s3⟩:=h
 have e0:∀z,W'.cell? ⟨b0,z,none⟩=W.cell? ⟨b0,z,none⟩:=fun z=>hb.cell s0
 have e1:∀z,W'.cell? ⟨b1,z,none⟩=W.cell? ⟨b1,z,none⟩:=fun z=>hb.cell s1
 have e2:∀z,W'.cell? ⟨b2,z,none⟩=W.cell? ⟨b2,z,none⟩:=fun z=>hb.cell s2
 have e3:∀z,W'.cell? ⟨b3,z,none⟩=W.cell? ⟨b3,z,none⟩:=fun z=>hb.cell s3
 refine⟨?_,Nat.lt_of_lt_of_le s0 hb.size,Nat.lt_of_lt_of_le s1 hb.size,Nat.lt_of_lt_of_le s2 hb.size,Nat.lt_of_lt_of_le s3 hb.size⟩
 simp only[e0,e1,e2,e3]
 exact h99
set_option linter.unusedSimpArgs false in
set_option maxRecDepth 20000 in
set_option maxHeartbeats 8000000 in
theorem bx(s t k z p l e:Int)(b:Bool)(v r:Int)(m:Int)(a:Option Addr)(len cap:Nat)(xs:List bH)(w:World)(h:di w a len xs):Calls Tryz.prog 165 #[.agg #[.int .i64 s,.int .i64 t,.int .i64 k,.int .i64 z,.int .i64 p,.int .i64 l,.int .i64 e,.bool b,.int .i64 v,.int .i64 r],.agg #[.int .i64 m,.slice a len cap]] w fun e' w'=>e'= .returned (.bool (cd s t k z p l e v r m xs))∧Below w.heap.size w w':=by
 have hm:=h.2.1
 unfold maxLen at hm
 have hxl0:=h.1
 cases c0:aE s t k z p l e v r
 ·have hq:Hid (cd s t k z p l e v r m xs=false):=ab (okOp_j c0)
  go_enter Tryz.func165,Tryz.ntmps165
  go_wp2_with (first
   |(go_at_call 123;refine(aX _ _ _ _ _ _ _ _ _ _ _).mono ?_;rintro e w' ⟨rfl,hb⟩;obtain⟨hc,hf,hs⟩:=ac hb;(try have hz0:=zA hb w.heap.size);(try have hz1:=zA hb (w.heap.size+1)))
   |(go_at_call 126;refine(ah _ _ _ _).mono ?_;rintro e' w' ⟨rfl,rfl⟩))
  go_ret
  exact⟨af (aa hq).symm,(ar)⟩
 cases c1:aP m 0 1000
 ·have hq:Hid (cd s t k z p l e v r m xs=false):=ab (okOp_m c1)
  go_enter Tryz.func165,Tryz.ntmps165
  go_wp2_with (first
   |(go_at_call 123;refine(aX _ _ _ _ _ _ _ _ _ _ _).mono ?_;rintro e w' ⟨rfl,hb⟩;obtain⟨hc,hf,hs⟩:=ac hb;(try have hz0:=zA hb w.heap.size);(try have hz1:=zA hb (w.heap.size+1)))
   |(go_at_call 126;refine(ah _ _ _ _).mono ?_;rintro e' w' ⟨rfl,rfl⟩))
  go_ret
  exact⟨af (aa hq).symm,(ar)⟩
 by_cases c2:(len:Int)≤300
 ·have hO:Hid (cd s t k z p l e v r m xs=dT k l m xs xs.length):=ab (okOp_t c0 c1 (by omega))
  have hl:=okJob_l c0
  go_enter Tryz.func165,Tryz.ntmps165
  go_wp2_with (first
   |(go_at_call 123;refine(aX _ _ _ _ _ _ _ _ _ _ _).mono ?_;rintro e w' ⟨rfl,hb⟩;obtain⟨hc,hf,hs⟩:=ac hb;(try have hz0:=zA hb w.heap.size);(try have hz1:=zA hb (w.heap.size+1)))
   |(go_at_call 126;refine(ah _ _ _ _).mono ?_;rintro e' w' ⟨rfl,rfl⟩))
  clear hc hf hs
  go_loopw [25] (fun iv wr=>∃i:Nat,i≤len∧iv= .int .i64 i∧Hid (dT k l m xs i=true)∧Below ((w.alloc (.cells #[.int .i64 s,.int .i64 t,.int .i64 k,.int .i64 z,.int .i64 p,.int .i64 l,.int .i64 e,.bool b,.int .i64 v,.int .i64 r] 40)).alloc (.cells #[.int .i64 m,.slice a len cap] 136)).heap.size ((w.alloc (.cells #[.int .i64 s,.int .i64 t,.int .i64 k,.int .i64 z,.int .i64 p,.int .i64 l,.int .i64 e,.bool b,.int .i64 v,.int .i64 r] 40)).alloc (.cells #[.int .i64 m,.slice a len cap] 136)) wr) (fun iv _=>len - (intOf iv).toNat)
  case atStart=>exact⟨0,Nat.zero_le _,rfl,ab rfl,hb⟩
  case round=>
   obtain⟨i,hi,rfl,hN,hbw⟩:=hrel
   rename World=>wo
   have hb0:Below w.heap.size w wo:=ae (aJ (ai _ _) _) hbw
   have hz1:w.heap.size+1<wo.heap.size:=by have:=hbw.size;simp at this;omega
   have hz0:w.heap.size<wo.heap.size:=by omega
   have j0:wo.cell? ⟨w.heap.size,0,none⟩=some (.int .i64 s):=(hbw.cell (p:=⟨w.heap.size,0,none⟩) (jh)).trans (jj)
   have j1:wo.cell? ⟨w.heap.size,1,none⟩=some (.int .i64 t):=(hbw.cell (p:=⟨w.heap.size,1,none⟩) (jh)).trans (jj)
   have j2:wo.cell? ⟨w.heap.size,2,none⟩=some (.int .i64 k):=(hbw.cell (p:=⟨w.heap.size,2,none⟩) (jh)).trans (jj)
   have j3:wo.cell? ⟨w.heap.size,3,none⟩=some (.int .i64 z):=(hbw.cell (p:=⟨w.heap.size,3,none⟩) (jh)).trans (jj)
   have j4:wo.cell? ⟨w.heap.size,4,none⟩=some (.int .i64 p):=(hbw.cell (p:=⟨w.heap.size,4,none⟩) (jh)).trans (jj)
   have j5:wo.cell? ⟨w.heap.size,5,none⟩=some (.int .i64 l):=(hbw.cell (p:=⟨w.heap.size,5,none⟩) (jh)).trans (jj)
   have j6:wo.cell? ⟨w.heap.size,6,none⟩=some (.int .i64 e):=(hbw.cell (p:=⟨w.heap.size,6,none⟩) (jh)).trans (jj)
   have j7:wo.cell? ⟨w.heap.size,7,none⟩=some (.bool b):=(hbw.cell (p:=⟨w.heap.size,7,none⟩) (jh)).trans (jj)
   have j8:wo.cell? ⟨w.heap.size,8,none⟩=some (.int .i64 v):=(hbw.cell (p:=⟨w.heap.size,8,none⟩) (jh)).trans (jj)
   have j9:wo.cell? ⟨w.heap.size,9,none⟩=some (.int .i64 r):=(hbw.cell (p:=⟨w.heap.size,9,none⟩) (jh)).trans (jj)
   have s0:wo.cell? ⟨w.heap.size+1,0,none⟩=some (.int .i64 m):=(hbw.cell (p:=⟨w.heap.size+1,0,none⟩) (jh)).trans (jj)
   have s1:wo.cell? ⟨w.heap.size+1,1,none⟩=some (.slice a len cap):=(hbw.cell (p:=⟨w.heap.size+1,1,none⟩) (jh)).trans (jj)
   by_cases hlt:i<len
   ·obtain⟨hxl,hmx,hx⟩:=h
    obtain⟨g,o,rfl,hr⟩:=hx.resolve_left (by omega)
    obtain⟨x,hxk⟩:∃x,xs[i]? =some x:=⟨_,List.getElem?_eq_getElem (by omega)⟩
    have hg:g<w.heap.size:=hr.lt (by omega)
    have hX:=ab hxk
    have HR:=ab hr
    obtain⟨d0,d1,d2,d3,d4,d5,d6,d7,d8,d9,d10,d11,d12⟩:=(hr i _ hxk).below hb0 hg
    have hgo:g<wo.heap.size:=Nat.lt_of_lt_of_le hg hb0.size
    clear hx hxk hr
    by_cases h0:i=0
    ·have hZ:=ab h0
     have hpd:decide ((0:Int)< ↑i)=false:=decide_eq_false (by omega)
     have hpe:decide (0<i)=false:=decide_eq_false (by omega)
     clear h0
     cases d:x.okB l m
     ·have hq:Hid (cd s t k z p l e v r m xs=false):=ab ((aa hO).trans (cZ (by omega) (fO (aa hX) d)))
      have d':aO l m x.ky x.st x.en x.an x.asu x.ale x.amo x.fn x.fsu x.fle x.fmo x.td x.tm=false:=d
      clear d
      go_wp2
      refine wp_region_held_drew (S:=(fun W=>((W.cell? ⟨w.heap.size,0,none⟩=some (.int .i64 s)∧W.cell? ⟨w.heap.size,1,none⟩=some (.int .i64 t)∧W.cell? ⟨w.heap.size,2,none⟩=some (.int .i64 k)∧W.cell? ⟨w.heap.size,3,none⟩=some (.int .i64 z)∧W.cell? ⟨w.heap.size,4,none⟩=some (.int .i64 p)∧W.cell? ⟨w.heap.size,5,none⟩=some (.int .i64 l)∧W.cell? ⟨w.heap.size,6,none⟩=some (.int .i64 e)∧W.cell? ⟨w.heap.size,7,none⟩=some (.bool b)∧W.cell? ⟨w.heap.size,8,none⟩=some (.int .i64 v)∧W.cell? ⟨w.heap.size,9,none⟩=some (.int .i64 r)∧W.cell? ⟨w.heap.size+1,0,none⟩=some (.int .i64 m)∧W.cell? ⟨w.heap.size+1,1,none⟩=some (.slice (some ⟨g,o,none⟩) len cap)∧W.cell? ⟨wo.heap.size,0,none⟩=some (.int .i64 x.ky)∧W.cell? ⟨wo.heap.size,1,none⟩=some (.int .i64 x.st)∧W.cell? ⟨wo.heap.size,2,none⟩=some (.int .i64 x.en)∧W.cell? ⟨wo.heap.size,3,none⟩=some (.int .i64 x.an)∧W.cell? ⟨wo.heap.size,4,none⟩=some (.int .i64 x.asu)∧W.cell? ⟨wo.heap.size,5,none⟩=some (.int .i64 x.ale)∧W.cell? ⟨wo.heap.size,6,none⟩=some (.int .i64 x.amo)∧W.cell? ⟨wo.heap.size,7,none⟩=some (.int .i64 x.fn)∧W.cell? ⟨wo.heap.size,8,none⟩=some (.int .i64 x.fsu)∧W.cell? ⟨wo.heap.size,9,none⟩=some (.int .i64 x.fle)∧W.cell? ⟨wo.heap.size,10,none⟩=some (.int .i64 x.fmo)∧W.cell? ⟨wo.heap.size,11,none⟩=some (.int .i64 x.td)∧W.cell? ⟨wo.heap.size,12,none⟩=some (.bool x.tm))∧w.heap.size<W.heap.size∧w.heap.size+1<W.heap.size∧wo.heap.size<W.heap.size))) (jl) ?_ (fun hHeld=>?_)
      ·(try dsimp only);((first|((repeat(first|(with_reducible assumption)|(with_reducible refine az ?_ (jg))|(with_reducible refine az ?_ (aj (Below.refl _ _)))|(with_reducible refine az ?_ (ai _ _))));done)|(refine⟨⟨?_,?_,?_,?_,?_,?_,?_,?_,?_,?_,?_,?_,?_,?_,?_,?_,?_,?_,?_,?_,?_,?_,?_,?_,?_⟩,?_,?_,?_⟩<;>first|(go_keep;done)|(simp;done)|(simp;omega)|omega)))
      refine kV 0 ?_
      refine kV 1 ?_
      refine kV 2 ?_
      refine kV 3 ?_
      refine kV 4 ?_
      refine rD 5 (fun K hK=>?_)
      go_simp
      (go_at_call 187;refine(eb _ _ _ _ _ _ _ _ _ _ _ _ _ _ _ hl _).mono ?_;rintro e w' ⟨rfl,hb⟩;obtain⟨hc,hf,hs⟩:=ac hb)
      (try go_wp2_with fail)
      refine hK.out _ _ ?_ (fun je=>?_)
      ·(try dsimp only);((first|((repeat(first|(with_reducible assumption)|(with_reducible refine az ?_ (jg))|(with_reducible refine az ?_ (aj (Below.refl _ _)))|(with_reducible refine az ?_ (ai _ _))));done)|(refine⟨⟨?_,?_,?_,?_,?_,?_,?_,?_,?_,?_,?_,?_,?_,?_,?_,?_,?_,?_,?_,?_,?_,?_,?_,?_,?_⟩,?_,?_,?_⟩<;>first|(go_keep;done)|(simp;done)|(simp;omega)|omega)))
      clear hK K hHeld
      have hHeld:=je
      clear je
      try simp only[Act.put,tA,tZ,tS]
      refine kV 6 ?_
      refine kV 7 ?_
      refine kU 8 ?_
      try simp only[Act.put,tA,tZ,tS]
      refine kU 9 ?_
      try simp only[Act.put,tA,tZ,tS]
      refine kU 10 ?_
      try simp only[Act.put,tA,tZ,tS]
      refine kU 11 ?_
      try simp only[Act.put,tA,tZ,tS]
      refine kU 12 ?_
      try simp only[Act.put,tA,tZ,tS]
      refine kU 13 ?_
      try simp only[Act.put,tA,tZ,tS]
      refine kU 14 ?_
      try simp only[Act.put,tA,tZ,tS]
      refine kU 15 ?_
      try simp only[Act.put,tA,tZ,tS]
      refine kU 16 ?_
      try simp only[Act.put,tA,tZ,tS]
      refine kU 17 ?_
      try simp only[Act.put,tA,tZ,tS]
      refine kU 18 ?_
      try simp only[Act.put,tA,tZ,tS]
      refine kU 19 ?_
      try simp only[Act.put,tA,tZ,tS]
      refine kU 20 ?_
      try simp only[Act.put,tA,tZ,tS]
      refine kU 21 ?_
      try simp only[Act.put,tA,tZ,tS]
      refine kU 22 ?_
      try simp only[Act.put,tA,tZ,tS]
      refine kV 23 ?_
      refine wpAnyH_done (jl) ?_ _
      all_goals
       go_wp2
       go_ret
       exact⟨af (aa hq).symm,(ak)⟩
     ·have hN':Hid (dT k l m xs (i+1)=true):=ab (by rw[cO,aa hN,iV (aa hZ) (aa hX),d];rfl)
      have d':aO l m x.ky x.st x.en x.an x.asu x.ale x.amo x.fn x.fsu x.fle x.fmo x.td x.tm=true:=d
      clear d
      go_wp2
      refine wp_region_held_drew (S:=(fun W=>((W.cell? ⟨w.heap.size,0,none⟩=some (.int .i64 s)∧W.cell? ⟨w.heap.size,1,none⟩=some (.int .i64 t)∧W.cell? ⟨w.heap.size,2,none⟩=some (.int .i64 k)∧W.cell? ⟨w.heap.size,3,none⟩=some (.int .i64 z)∧W.cell? ⟨w.heap.size,4,none⟩=some (.int .i64 p)∧W.cell? ⟨w.heap.size,5,none⟩=some (.int .i64 l)∧W.cell? ⟨w.heap.size,6,none⟩=some (.int .i64 e)∧W.cell? ⟨w.heap.size,7,none⟩=some (.bool b)∧W.cell? ⟨w.heap.size,8,none⟩=some (.int .i64 v)∧W.cell? ⟨w.heap.size,9,none⟩=some (.int .i64 r)∧W.cell? ⟨w.heap.size+1,0,none⟩=some (.int .i64 m)∧W.cell? ⟨w.heap.size+1,1,none⟩=some (.slice (some ⟨g,o,none⟩) len cap)∧W.cell? ⟨wo.heap.size,0,none⟩=some (.int .i64 x.ky)∧W.cell? ⟨wo.heap.size,1,none⟩=some (.int .i64 x.st)∧W.cell? ⟨wo.heap.size,2,none⟩=some (.int .i64 x.en)∧W.cell? ⟨wo.heap.size,3,none⟩=some (.int .i64 x.an)∧W.cell? ⟨wo.heap.size,4,none⟩=some (.int .i64 x.asu)∧W.cell? ⟨wo.heap.size,5,none⟩=some (.int .i64 x.ale)∧W.cell? ⟨wo.heap.size,6,none⟩=some (.int .i64 x.amo)∧W.cell? ⟨wo.heap.size,7,none⟩=some (.int .i64 x.fn)∧W.cell? ⟨wo.heap.size,8,none⟩=some (.int .i64 x.fsu)∧W.cell? ⟨wo.heap.size,9,none⟩=some (.int .i64 x.fle)∧W.cell? ⟨wo.heap.size,10,none⟩=some (.int .i64 x.fmo)∧W.cell? ⟨wo.heap.size,11,none⟩=some (.int .i64 x.td)∧W.cell? ⟨wo.heap.size,12,none⟩=some (.bool x.tm))∧w.heap.size<W.heap.size∧w.heap.size+1<W.heap.size∧wo.heap.size<W.heap.size))) (jl) ?_ (fun hHeld=>?_)
      ·(try dsimp only);((first|((repeat(first|(with_reducible assumption)|(with_reducible refine az ?_ (jg))|(with_reducible refine az ?_ (aj (Below.refl _ _)))|(with_reducible refine az ?_ (ai _ _))));done)|(refine⟨⟨?_,?_,?_,?_,?_,?_,?_,?_,?_,?_,?_,?_,?_,?_,?_,?_,?_,?_,?_,?_,?_,?_,?_,?_,?_⟩,?_,?_,?_⟩<;>first|(go_keep;done)|(simp;done)|(simp;omega)|omega)))
      refine kV 0 ?_
      refine kV 1 ?_
      refine kV 2 ?_
      refine kV 3 ?_
      refine kV 4 ?_
      refine rD 5 (fun K hK=>?_)
      go_simp
      (go_at_call 187;refine(eb _ _ _ _ _ _ _ _ _ _ _ _ _ _ _ hl _).mono ?_;rintro e w' ⟨rfl,hb⟩;obtain⟨hc,hf,hs⟩:=ac hb)
      (try go_wp2_with fail)
      refine hK.out _ _ ?_ (fun je=>?_)
      ·(try dsimp only);((first|((repeat(first|(with_reducible assumption)|(with_reducible refine az ?_ (jg))|(with_reducible refine az ?_ (aj (Below.refl _ _)))|(with_reducible refine az ?_ (ai _ _))));done)|(refine⟨⟨?_,?_,?_,?_,?_,?_,?_,?_,?_,?_,?_,?_,?_,?_,?_,?_,?_,?_,?_,?_,?_,?_,?_,?_,?_⟩,?_,?_,?_⟩<;>first|(go_keep;done)|(simp;done)|(simp;omega)|omega)))
      clear hK K hHeld
      have hHeld:=je
      clear je
      try simp only[Act.put,tA,tZ,tS]
      refine kV 6 ?_
      refine kV 7 ?_
      refine kV 8 ?_
      refine kV 9 ?_
      refine kV 10 ?_
      refine kU 11 ?_
      try simp only[Act.put,tA,tZ,tS]
      refine kU 12 ?_
      try simp only[Act.put,tA,tZ,tS]
      refine kU 13 ?_
      try simp only[Act.put,tA,tZ,tS]
      refine kU 14 ?_
      try simp only[Act.put,tA,tZ,tS]
      refine kU 15 ?_
      try simp only[Act.put,tA,tZ,tS]
      refine kU 16 ?_
      try simp only[Act.put,tA,tZ,tS]
      refine kU 17 ?_
      try simp only[Act.put,tA,tZ,tS]
      refine kU 18 ?_
      try simp only[Act.put,tA,tZ,tS]
      refine kU 19 ?_
      try simp only[Act.put,tA,tZ,tS]
      refine kU 20 ?_
      try simp only[Act.put,tA,tZ,tS]
      refine kU 21 ?_
      try simp only[Act.put,tA,tZ,tS]
      refine kV 22 ?_
      refine kV 23 ?_
      refine wpAnyH_done (jl) ?_ _
      all_goals
       go_wp2
       go_roundw
       case rel=>exact⟨i+1,by omega,by go_num,hN',(ak)⟩
       case measure=>simp[intOf];omega
    ·obtain⟨i',he⟩:∃i',i=i'+1:=⟨i - 1,by omega⟩
     have hE:=ab he
     have hp0:0<i:=by omega
     have hpd:decide (0<i)=true:=decide_eq_true hp0
     have hp4:i'<len:=by omega
     have hp1:(0:Int)≤ ↑i':=by omega
     have hp2:(↑i':Int)< ↑len:=by omega
     have hp3:IntKind.i64.wrap ((↑i:Int) - 1)= ↑i':=by rw[IntKind.wrap_i64];omega
     obtain⟨y,hyk⟩:∃y,xs[i']? =some y:=⟨_,List.getElem?_eq_getElem (by omega)⟩
     have hY:=ab hyk
     obtain⟨f0,f1,f2,f3,f4,f5,f6,f7,f8,f9,f10,f11,f12⟩:=(aa HR i' _ hyk).below hb0 hg
     clear he hyk
     cases d:x.okB l m
     ·have hq:Hid (cd s t k z p l e v r m xs=false):=ab ((aa hO).trans (cZ (by omega) (fO (aa hX) d)))
      have d':aO l m x.ky x.st x.en x.an x.asu x.ale x.amo x.fn x.fsu x.fle x.fmo x.td x.tm=false:=d
      clear d
      go_wp2
      refine wp_region_held_drew (S:=(fun W=>((W.cell? ⟨w.heap.size,0,none⟩=some (.int .i64 s)∧W.cell? ⟨w.heap.size,1,none⟩=some (.int .i64 t)∧W.cell? ⟨w.heap.size,2,none⟩=some (.int .i64 k)∧W.cell? ⟨w.heap.size,3,none⟩=some (.int .i64 z)∧W.cell? ⟨w.heap.size,4,none⟩=some (.int .i64 p)∧W.cell? ⟨w.heap.size,5,none⟩=some (.int .i64 l)∧W.cell? ⟨w.heap.size,6,none⟩=some (.int .i64 e)∧W.cell? ⟨w.heap.size,7,none⟩=some (.bool b)∧W.cell? ⟨w.heap.size,8,none⟩=some (.int .i64 v)∧W.cell? ⟨w.heap.size,9,none⟩=some (.int .i64 r)∧W.cell? ⟨w.heap.size+1,0,none⟩=some (.int .i64 m)∧W.cell? ⟨w.heap.size+1,1,none⟩=some (.slice (some ⟨g,o,none⟩) len cap)∧W.cell? ⟨wo.heap.size,0,none⟩=some (.int .i64 x.ky)∧W.cell? ⟨wo.heap.size,1,none⟩=some (.int .i64 x.st)∧W.cell? ⟨wo.heap.size,2,none⟩=some (.int .i64 x.en)∧W.cell? ⟨wo.heap.size,3,none⟩=some (.int .i64 x.an)∧W.cell? ⟨wo.heap.size,4,none⟩=some (.int .i64 x.asu)∧W.cell? ⟨wo.heap.size,5,none⟩=some (.int .i64 x.ale)∧W.cell? ⟨wo.heap.size,6,none⟩=some (.int .i64 x.amo)∧W.cell? ⟨wo.heap.size,7,none⟩=some (.int .i64 x.fn)∧W.cell? ⟨wo.heap.size,8,none⟩=some (.int .i64 x.fsu)∧W.cell? ⟨wo.heap.size,9,none⟩=some (.int .i64 x.fle)∧W.cell? ⟨wo.heap.size,10,none⟩=some (.int .i64 x.fmo)∧W.cell? ⟨wo.heap.size,11,none⟩=some (.int .i64 x.td)∧W.cell? ⟨wo.heap.size,12,none⟩=some (.bool x.tm))∧w.heap.size<W.heap.size∧w.heap.size+1<W.heap.size∧wo.heap.size<W.heap.size))) (jl) ?_ (fun hHeld=>?_)
      ·(try dsimp only);((first|((repeat(first|(with_reducible assumption)|(with_reducible refine az ?_ (jg))|(with_reducible refine az ?_ (aj (Below.refl _ _)))|(with_reducible refine az ?_ (ai _ _))));done)|(refine⟨⟨?_,?_,?_,?_,?_,?_,?_,?_,?_,?_,?_,?_,?_,?_,?_,?_,?_,?_,?_,?_,?_,?_,?_,?_,?_⟩,?_,?_,?_⟩<;>first|(go_keep;done)|(simp;done)|(simp;omega)|omega)))
      refine kV 0 ?_
      refine kV 1 ?_
      refine kV 2 ?_
      refine kV 3 ?_
      refine kV 4 ?_
      refine rD 5 (fun K hK=>?_)
      go_simp
      (go_at_call 187;refine(eb _ _ _ _ _ _ _ _ _ _ _ _ _ _ _ hl _).mono ?_;rintro e w' ⟨rfl,hb⟩;obtain⟨hc,hf,hs⟩:=ac hb)
      (try go_wp2_with fail)
      refine hK.out _ _ ?_ (fun je=>?_)
      ·(try dsimp only);((first|((repeat(first|(with_reducible assumption)|(with_reducible refine az ?_ (jg))|(with_reducible refine az ?_ (aj (Below.refl _ _)))|(with_reducible refine az ?_ (ai _ _))));done)|(refine⟨⟨?_,?_,?_,?_,?_,?_,?_,?_,?_,?_,?_,?_,?_,?_,?_,?_,?_,?_,?_,?_,?_,?_,?_,?_,?_⟩,?_,?_,?_⟩<;>first|(go_keep;done)|(simp;done)|(simp;omega)|omega)))
      clear hK K hHeld
      have hHeld:=je
      clear je
      try simp only[Act.put,tA,tZ,tS]
      refine kV 6 ?_
      refine kV 7 ?_
      refine kU 8 ?_
      try simp only[Act.put,tA,tZ,tS]
      refine kU 9 ?_
      try simp only[Act.put,tA,tZ,tS]
      refine kU 10 ?_
      try simp only[Act.put,tA,tZ,tS]
      refine kU 11 ?_
      try simp only[Act.put,tA,tZ,tS]
      refine kU 12 ?_
      try simp only[Act.put,tA,tZ,tS]
      refine kU 13 ?_
      try simp only[Act.put,tA,tZ,tS]
      refine kU 14 ?_
      try simp only[Act.put,tA,tZ,tS]
      refine kU 15 ?_
      try simp only[Act.put,tA,tZ,tS]
      refine kU 16 ?_
      try simp only[Act.put,tA,tZ,tS]
      refine kU 17 ?_
      try simp only[Act.put,tA,tZ,tS]
      refine kU 18 ?_
      try simp only[Act.put,tA,tZ,tS]
      refine kU 19 ?_
      try simp only[Act.put,tA,tZ,tS]
      refine kU 20 ?_
      try simp only[Act.put,tA,tZ,tS]
      refine kU 21 ?_
      try simp only[Act.put,tA,tZ,tS]
      refine kU 22 ?_
      try simp only[Act.put,tA,tZ,tS]
      refine kV 23 ?_
      refine wpAnyH_done (jl) ?_ _
      all_goals
       go_wp2
       go_ret
       exact⟨af (aa hq).symm,(ak)⟩
     have d':aO l m x.ky x.st x.en x.an x.asu x.ale x.amo x.fn x.fsu x.fle x.fmo x.td x.tm=true:=d
     cases n:fc k y x
     ·have hq:Hid (cd s t k z p l e v r m xs=false):=ab ((aa hO).trans (cZ (i:=i) (by omega) (by rw[fN (aa hE) (aa hX) (aa hY),d,n];rfl)))
      have n':dg k x.ky x.st x.en y.ky y.st y.en=false:=n
      clear d n
      go_wp2
      go_region_held3 (fun W=>((W.cell? ⟨w.heap.size,0,none⟩=some (.int .i64 s)∧W.cell? ⟨w.heap.size,1,none⟩=some (.int .i64 t)∧W.cell? ⟨w.heap.size,2,none⟩=some (.int .i64 k)∧W.cell? ⟨w.heap.size,3,none⟩=some (.int .i64 z)∧W.cell? ⟨w.heap.size,4,none⟩=some (.int .i64 p)∧W.cell? ⟨w.heap.size,5,none⟩=some (.int .i64 l)∧W.cell? ⟨w.heap.size,6,none⟩=some (.int .i64 e)∧W.cell? ⟨w.heap.size,7,none⟩=some (.bool b)∧W.cell? ⟨w.heap.size,8,none⟩=some (.int .i64 v)∧W.cell? ⟨w.heap.size,9,none⟩=some (.int .i64 r)∧W.cell? ⟨w.heap.size+1,0,none⟩=some (.int .i64 m)∧W.cell? ⟨w.heap.size+1,1,none⟩=some (.slice (some ⟨g,o,none⟩) len cap)∧W.cell? ⟨wo.heap.size,0,none⟩=some (.int .i64 x.ky)∧W.cell? ⟨wo.heap.size,1,none⟩=some (.int .i64 x.st)∧W.cell? ⟨wo.heap.size,2,none⟩=some (.int .i64 x.en)∧W.cell? ⟨wo.heap.size,3,none⟩=some (.int .i64 x.an)∧W.cell? ⟨wo.heap.size,4,none⟩=some (.int .i64 x.asu)∧W.cell? ⟨wo.heap.size,5,none⟩=some (.int .i64 x.ale)∧W.cell? ⟨wo.heap.size,6,none⟩=some (.int .i64 x.amo)∧W.cell? ⟨wo.heap.size,7,none⟩=some (.int .i64 x.fn)∧W.cell? ⟨wo.heap.size,8,none⟩=some (.int .i64 x.fsu)∧W.cell? ⟨wo.heap.size,9,none⟩=some (.int .i64 x.fle)∧W.cell? ⟨wo.heap.size,10,none⟩=some (.int .i64 x.fmo)∧W.cell? ⟨wo.heap.size,11,none⟩=some (.int .i64 x.td)∧W.cell? ⟨wo.heap.size,12,none⟩=some (.bool x.tm)∧W.cell? ⟨g,o+i'*13,none⟩=some (.int .i64 y.ky)∧W.cell? ⟨g,o+i'*13+1,none⟩=some (.int .i64 y.st)∧W.cell? ⟨g,o+i'*13+2,none⟩=some (.int .i64 y.en)∧W.cell? ⟨g,o+i'*13+3,none⟩=some (.int .i64 y.an)∧W.cell? ⟨g,o+i'*13+4,none⟩=some (.int .i64 y.asu)∧W.cell? ⟨g,o+i'*13+5,none⟩=some (.int .i64 y.ale)∧W.cell? ⟨g,o+i'*13+6,none⟩=some (.int .i64 y.amo)∧W.cell? ⟨g,o+i'*13+7,none⟩=some (.int .i64 y.fn)∧W.cell? ⟨g,o+i'*13+8,none⟩=some (.int .i64 y.fsu)∧W.cell? ⟨g,o+i'*13+9,none⟩=some (.int .i64 y.fle)∧W.cell? ⟨g,o+i'*13+10,none⟩=some (.int .i64 y.fmo)∧W.cell? ⟨g,o+i'*13+11,none⟩=some (.int .i64 y.td)∧W.cell? ⟨g,o+i'*13+12,none⟩=some (.bool y.tm))∧w.heap.size<W.heap.size∧w.heap.size+1<W.heap.size∧wo.heap.size<W.heap.size∧g<W.heap.size)) ((first|((repeat(first|(with_reducible assumption)|(with_reducible refine bW ?_ (jg))|(with_reducible refine bW ?_ (aj (Below.refl _ _)))|(with_reducible refine bW ?_ (ai _ _))));done)|(refine⟨⟨?_,?_,?_,?_,?_,?_,?_,?_,?_,?_,?_,?_,?_,?_,?_,?_,?_,?_,?_,?_,?_,?_,?_,?_,?_,?_,?_,?_,?_,?_,?_,?_,?_,?_,?_,?_,?_,?_⟩,?_,?_,?_,?_⟩<;>first|(go_keep;done)|(simp;done)|(simp;omega)|omega)))
       (first
       |(go_at_call 187;refine(eb _ _ _ _ _ _ _ _ _ _ _ _ _ _ _ hl _).mono ?_;rintro e w' ⟨rfl,hb⟩;obtain⟨hc,hf,hs⟩:=ac hb)
       |(go_at_call 188;refine(gJ _ _ _ _ _ _ _ _ _ _ _ _ _ _ _ _ _ _ _ _ _ _ _ _ _ _ _ _).mono ?_;rintro e w' ⟨rfl,hb⟩;obtain⟨hc,hf,hs⟩:=ac hb))
      all_goals
       go_wp2
       go_ret
       exact⟨af (aa hq).symm,(ak)⟩
     ·have hN':Hid (dT k l m xs (i+1)=true):=ab (by rw[cO,aa hN,fN (aa hE) (aa hX) (aa hY),d,n];rfl)
      have n':dg k x.ky x.st x.en y.ky y.st y.en=true:=n
      clear d n
      go_wp2
      go_region_held3 (fun W=>((W.cell? ⟨w.heap.size,0,none⟩=some (.int .i64 s)∧W.cell? ⟨w.heap.size,1,none⟩=some (.int .i64 t)∧W.cell? ⟨w.heap.size,2,none⟩=some (.int .i64 k)∧W.cell? ⟨w.heap.size,3,none⟩=some (.int .i64 z)∧W.cell? ⟨w.heap.size,4,none⟩=some (.int .i64 p)∧W.cell? ⟨w.heap.size,5,none⟩=some (.int .i64 l)∧W.cell? ⟨w.heap.size,6,none⟩=some (.int .i64 e)∧W.cell? ⟨w.heap.size,7,none⟩=some (.bool b)∧W.cell? ⟨w.heap.size,8,none⟩=some (.int .i64 v)∧W.cell? ⟨w.heap.size,9,none⟩=some (.int .i64 r)∧W.cell? ⟨w.heap.size+1,0,none⟩=some (.int .i64 m)∧W.cell? ⟨w.heap.size+1,1,none⟩=some (.slice (some ⟨g,o,none⟩) len cap)∧W.cell? ⟨wo.heap.size,0,none⟩=some (.int .i64 x.ky)∧W.cell? ⟨wo.heap.size,1,none⟩=some (.int .i64 x.st)∧W.cell? ⟨wo.heap.size,2,none⟩=some (.int .i64 x.en)∧W.cell? ⟨wo.heap.size,3,none⟩=some (.int .i64 x.an)∧W.cell? ⟨wo.heap.size,4,none⟩=some (.int .i64 x.asu)∧W.cell? ⟨wo.heap.size,5,none⟩=some (.int .i64 x.ale)∧W.cell? ⟨wo.heap.size,6,none⟩=some (.int .i64 x.amo)∧W.cell? ⟨wo.heap.size,7,none⟩=some (.int .i64 x.fn)∧W.cell? ⟨wo.heap.size,8,none⟩=some (.int .i64 x.fsu)∧W.cell? ⟨wo.heap.size,9,none⟩=some (.int .i64 x.fle)∧W.cell? ⟨wo.heap.size,10,none⟩=some (.int .i64 x.fmo)∧W.cell? ⟨wo.heap.size,11,none⟩=some (.int .i64 x.td)∧W.cell? ⟨wo.heap.size,12,none⟩=some (.bool x.tm)∧W.cell? ⟨g,o+i'*13,none⟩=some (.int .i64 y.ky)∧W.cell? ⟨g,o+i'*13+1,none⟩=some (.int .i64 y.st)∧W.cell? ⟨g,o+i'*13+2,none⟩=some (.int .i64 y.en)∧W.cell? ⟨g,o+i'*13+3,none⟩=some (.int .i64 y.an)∧W.cell? ⟨g,o+i'*13+4,none⟩=some (.int .i64 y.asu)∧W.cell? ⟨g,o+i'*13+5,none⟩=some (.int .i64 y.ale)∧W.cell? ⟨g,o+i'*13+6,none⟩=some (.int .i64 y.amo)∧W.cell? ⟨g,o+i'*13+7,none⟩=some (.int .i64 y.fn)∧W.cell? ⟨g,o+i'*13+8,none⟩=some (.int .i64 y.fsu)∧W.cell? ⟨g,o+i'*13+9,none⟩=some (.int .i64 y.fle)∧W.cell? ⟨g,o+i'*13+10,none⟩=some (.int .i64 y.fmo)∧W.cell? ⟨g,o+i'*13+11,none⟩=some (.int .i64 y.td)∧W.cell? ⟨g,o+i'*13+12,none⟩=some (.bool y.tm))∧w.heap.size<W.heap.size∧w.heap.size+1<W.heap.size∧wo.heap.size<W.heap.size∧g<W.heap.size)) ((first|((repeat(first|(with_reducible assumption)|(with_reducible refine bW ?_ (jg))|(with_reducible refine bW ?_ (aj (Below.refl _ _)))|(with_reducible refine bW ?_ (ai _ _))));done)|(refine⟨⟨?_,?_,?_,?_,?_,?_,?_,?_,?_,?_,?_,?_,?_,?_,?_,?_,?_,?_,?_,?_,?_,?_,?_,?_,?_,?_,?_,?_,?_,?_,?_,?_,?_,?_,?_,?_,?_,?_⟩,?_,?_,?_,?_⟩<;>first|(go_keep;done)|(simp;done)|(simp;omega)|omega)))
       (first
       |(go_at_call 187;refine(eb _ _ _ _ _ _ _ _ _ _ _ _ _ _ _ hl _).mono ?_;rintro e w' ⟨rfl,hb⟩;obtain⟨hc,hf,hs⟩:=ac hb)
       |(go_at_call 188;refine(gJ _ _ _ _ _ _ _ _ _ _ _ _ _ _ _ _ _ _ _ _ _ _ _ _ _ _ _ _).mono ?_;rintro e w' ⟨rfl,hb⟩;obtain⟨hc,hf,hs⟩:=ac hb))
      all_goals
       go_wp2
       go_roundw
       case rel=>exact⟨i+1,by omega,by go_num,hN',(ak)⟩
       case measure=>simp[intOf];omega
   ·have hq:Hid (cd s t k z p l e v r m xs=true):=ab ((aa hO).trans (by have e9:=aa hN;rwa [show i=xs.length by omega]at e9))
    go_wp2
    go_ret
    exact⟨af (aa hq).symm,(ar)⟩
 ·have hq:Hid (cd s t k z p l e v r m xs=false):=ab (okOp_n (by omega))
  go_enter Tryz.func165,Tryz.ntmps165
  go_wp2_with (first
   |(go_at_call 123;refine(aX _ _ _ _ _ _ _ _ _ _ _).mono ?_;rintro e w' ⟨rfl,hb⟩;obtain⟨hc,hf,hs⟩:=ac hb;(try have hz0:=zA hb w.heap.size);(try have hz1:=zA hb (w.heap.size+1)))
   |(go_at_call 126;refine(ah _ _ _ _).mono ?_;rintro e' w' ⟨rfl,rfl⟩))
  go_ret
  exact⟨af (aa hq).symm,(ar)⟩
end Go.Proofs.YtealpjmannopeaaGreat
