/- Laid together: what the claim needs of the texts that were built one by one. -/
import Derived.Test.YtdmhihcipkhecaaGreatR6
import Derived.Test.YtdmhihcipkhecaaGreatR2
import Derived.Test.YtdmhihcipkhecaaGreatR0
import Derived.Lib.SmallJoins
import Derived.Deep.Onto
import Derived.OwnWalk
set_option linter.unusedVariables false
namespace Go.Proofs.YtdmhihcipkhecaaGreat
open Go.ChangeShapes Go.WideShapes Go.ChangeAt Go.RowKit
set_option linter.unusedSimpArgs false
theorem own_upB{W W':World}{B:Nat}{e:TypeId}{size n:Nat}{v:Value}{xs:List Value}(h:W.ownsRow B e size v n xs)(hb:∀b,v.ownBlock=some b→W'.heap[b]? =W.heap[b]?):W'.ownsRow B e size v n xs:=by
 rcases h with⟨hl,h|⟨g,cap,cur,rfl,hB,hblk,r⟩⟩
 ·exact⟨hl,Or.inl h⟩
 ·exact⟨hl,Or.inr ⟨g,cap,cur,rfl,hB,(hb g rfl).trans hblk,r⟩⟩
theorem newsOr{W:World}{a:Option Addr}{n:Nat}{xs:List aD}{q:Addr}(h:cE W a n xs)(ha:a=some q):∀j u,(bj xs)[j]? =some u→W.cell? (q.add j)=some u:=by
 intro j u hu
 obtain⟨h1,_,h3⟩:=h
 have hj:j<xs.length*13:=by rw[←gW];exact(List.getElem?_eq_some_iff.1 hu).1
 have hi:j / 13<xs.length:=by omega
 obtain⟨g,o,e,hat⟩:=h3.resolve_left (by omega)
 rw[ha]at e
 cases e
 have e:((⟨g,o,none⟩:Addr).add j)=⟨g,o+j,none⟩:=by
  unfold Addr.add
  split
  ·rename_i h0;rw[h0];rfl
  ·rfl
 rw[e]
 obtain⟨x,hx⟩:∃x,xs[j / 13]? =some x:=⟨_,List.getElem?_eq_getElem hi⟩
 obtain⟨f0,f1,f2,f3,f4,f5,f6,f7,f8,f9,f10,f11,f12⟩:=jF hx
 obtain⟨c0,c1,c2,c3,c4,c5,c6,c7,c8,c9,cV,c11,c12⟩:=hat (j / 13) x hx
 have hmod:j=j / 13*13∨j=j / 13*13+1∨j=j / 13*13+2∨j=j / 13*13+3∨j=j / 13*13+4∨j=j / 13*13+5∨j=j / 13*13+6∨j=j / 13*13+7∨j=j / 13*13+8∨j=j / 13*13+9∨j=j / 13*13+10∨j=j / 13*13+11∨j=j / 13*13+12:=by omega
 rcases hmod with hj|hj|hj|hj|hj|hj|hj|hj|hj|hj|hj|hj|hj
 ·rw[hj,f0]at hu;cases hu;rw[hj];exact c0
 ·rw[hj,f1]at hu;cases hu;rw[hj,←Nat.add_assoc];exact c1
 ·rw[hj,f2]at hu;cases hu;rw[hj,←Nat.add_assoc];exact c2
 ·rw[hj,f3]at hu;cases hu;rw[hj,←Nat.add_assoc];exact c3
 ·rw[hj,f4]at hu;cases hu;rw[hj,←Nat.add_assoc];exact c4
 ·rw[hj,f5]at hu;cases hu;rw[hj,←Nat.add_assoc];exact c5
 ·rw[hj,f6]at hu;cases hu;rw[hj,←Nat.add_assoc];exact c6
 ·rw[hj,f7]at hu;cases hu;rw[hj,←Nat.add_assoc];exact c7
 ·rw[hj,f8]at hu;cases hu;rw[hj,←Nat.add_assoc];exact c8
 ·rw[hj,f9]at hu;cases hu;rw[hj,←Nat.add_assoc];exact c9
 ·rw[hj,f10]at hu;cases hu;rw[hj,←Nat.add_assoc];exact cV
 ·rw[hj,f11]at hu;cases hu;rw[hj,←Nat.add_assoc];exact c11
 ·rw[hj,f12]at hu;cases hu;rw[hj,←Nat.add_assoc];exact c12
theorem dy{W:World}{B:Nat}{e:TypeId}{size n:Nat}{v:Value}{xs:List Value}(h:W.ownsRow B e size v n xs):∃a c,v= .slice a n c:=by
 rcases h.2 with⟨rfl,h0⟩|⟨g,cap,cur,rfl,_⟩
 ·exact⟨none,0,by rw[h0]⟩
 ·exact⟨_,_,rfl⟩
theorem own_geV{W:World}{B:Nat}{e:TypeId}{s n:Nat}{v:Value}{xs:List Value}(h:W.ownsRow B e s v n xs):∀q,v.ownBlock=some q→B≤q:=fun q hq=>(h.lt q hq).1
theorem blk_new{W:World}{g:Nat}{o:Obj}(hg:g=W.heap.size):(W.alloc o).heap[g]? =some o:=by
 subst hg
 exact heap_alloc_new _ _
theorem jm{P:Program}{o:Oper}{y:_}{a:Act}{w:World}{K:Act→World→Prop}{Q:Exit→Act→World→Prop}{E:Prop}
  (hg:o.guard=none) (s x:Operand) (t:TypeId) (hop:o.op=Op.call {callee:=Callee.builtin Builtin.append,args:=#[s,x],argTypes:=#[t,t]})
  (e:TypeId) (i:TypeInfo) (z:Value) (size bytes:Nat) (h1:P.underlying t=some (.slice e)) (h2:P.info? e=some i) (h3:i.zero=some z) (h4:i.size=size) (h5:i.bytes=bytes) (h6:z.cells.size=size) (h7:0<size)
  (g B:Nat) (hB:B≤g) (hs:a.eval s= .slice (some ⟨g,0,none⟩) 0 0) (hlit:w.heap[g]? =some (.cells #[] e (0,0)))
  (ao:Option Addr) (m c:Nat) (news:List Value) (hx:a.eval x= .slice ao m c) (hn:news.length=m*size) (hao:ao=none→m=0) (hc:∀q,ao=some q→∀j u,news[j]? =some u→w.cell? (q.add j)=some u) (b1:m≤maxLen) (b2:m*bytes≤140737488355328)
  (hK:∀v' w',w'.ownsRow B e size v' m news→Below w.heap.size w w'→(∀b,v'.ownBlock=some b→b=g∨w.heap.size≤b∧b<w'.heap.size)→K (a.put o.dst v') w'):
  if Region.wanted o y=true then Oper.wp P o a w K Q else E:=by
 have hw:Region.wanted o y=true:=by simp[Region.wanted,hg]
 rw[if_pos hw]
 have hgl:g<w.heap.size:=(Array.getElem?_eq_some_iff.1 hlit).1
 by_cases hm:m=0
 ·subst hm
  obtain rfl:news=[]:=List.eq_nil_of_length_eq_zero (by simpa using hn)
  have hrun:(Builtin.append_ #[t,t] o.type #[.slice (some ⟨g,0,none⟩) 0 0,.slice ao 0 c]).run P w= .ok (.slice (some ⟨g,0,none⟩) 0 0) w:=by
   cases ao<;>simp[Builtin.append_,run_underlying h1,sizeOf,typeInfo,h2,Builtin.lenOf,Builtin.firstCells,storeCells,loadCells,loadCellsFrom]
  unfold Oper.wp
  simp[execOp,hop,resolve,invoke,builtin,hs,hx,hrun,Result.andThen]
  exact hK _ _ ⟨by simp,Or.inr ⟨g,0,#[],rfl,hB,hlit,Nat.le_refl _,by unfold maxLen;omega,by simp,by simp⟩⟩ (Below.refl _ _) (fun b hb=>Or.inl (by simpa[Value.ownBlock]using hb.symm))
 ·cases ao with
  |none=>exact absurd (hao rfl) hm
  |some q=>
   obtain⟨v',w',hrun,r1,r2⟩:=run_append_arg_grows (P:=P) w t o.type e i z size bytes h1 h2 h3 h4 h5 h6 h7 ⟨g,0,none⟩ 0 0 [] (by simp) (fun j u hj=>by simp at hj) q m c news hn (hc q rfl) (by omega) (by omega) (by simpa using b2)
   rw[Nat.zero_add,List.nil_append]at r1
   have hb:Below w.heap.size w w':=(Below.refl _ w).grown r2 (Nat.le_refl _) (fun k hk=>by cases hk)
   unfold Oper.wp
   simp[execOp,hop,resolve,invoke,builtin,hs,hx,hrun,Result.andThen]
   exact hK _ _ (World.ownsRow.mono r1 (by omega)) hb (fun b hb'=>Or.inr (World.ownsRow.lt r1 b hb'))
theorem own_setC{W:World}{p:Addr}{u:Value}{B:Nat}{e:TypeId}{size n:Nat}{v:Value}{xs:List Value}(h:W.ownsRow B e size v n xs)(hp:p.block<B):(W.setCell p u).ownsRow B e size v n xs:=own_upB h (fun b hv=>Below.heap_setCell _ _ _ _ (fun e=>by have:=own_geV h b hv;omega))
set_option maxRecDepth 20000 in
set_option maxHeartbeats 4000000 in
theorem fh(m:Int)(a:Option Addr)(len cap:Nat)(xs:List aD)(w:World)(h:cE w a len xs)(hl:len≤1048576):Calls Tryz.prog 33 #[.agg #[.int .i64 m,.slice a len cap]] w fun e w'=>∃v,e= .returned (.agg #[.int .i64 m,v])∧w'.ownsRow (w.heap.size+2) 57 13 v len (bj xs)∧Below w.heap.size w w':=by
 obtain⟨i0,hi,hz0,hz1,hz2⟩:=info_parts Tryz.infoOr
 have hxl:=h.1
 have hnil:a=none→len=0:=fun e=>by
  rcases h.2.2 with h9|⟨g,o,e2,_⟩
  ·exact h9
  ·rw[e]at e2;cases e2
 have hb0:Below w.heap.size w (((w.alloc (.cells #[.int .i64 m,.slice a len cap] 27)).alloc (.cells #[.int .i64 0,.slice none 0 0] 27)).drew.alloc (.cells #[] 57)):=ag (aq (ag (ay _ _) _)) _
 have HG:=h.below hb0
 have hLit:(((w.alloc (.cells #[.int .i64 m,.slice a len cap] 27)).alloc (.cells #[.int .i64 0,.slice none 0 0] 27)).drew.alloc (.cells #[] 57)).heap[w.heap.size+1+1]? =some (.cells #[] 57 (0,0)):=blk_new (by simp)
 have hY0:(((w.alloc (.cells #[.int .i64 m,.slice a len cap] 27)).alloc (.cells #[.int .i64 0,.slice none 0 0] 27)).drew.alloc (.cells #[] 57)).heap[w.heap.size+1]? =some (.cells #[.int .i64 0,.slice none 0 0] 27 (0,0)):=((ay ((w.alloc (.cells #[.int .i64 m,.slice a len cap] 27)).alloc (.cells #[.int .i64 0,.slice none 0 0] 27)).drew (.cells #[] 57)).block _ (by simp)).trans (blk_new (by simp))
 go_enter Tryz.func33,Tryz.ntmps33
 go_wp2_with fail
 refine eu [] (fun W=>W.cell? ⟨w.heap.size,0,none⟩=some (.int .i64 m)∧W.cell? ⟨w.heap.size,1,none⟩=some (.slice a len cap)) (oW) ?_ (fun hHeld=>?_)
 ·(try dsimp only);exact⟨by first|(with_reducible assumption)|(simp[go_sem, *];done),by first|(with_reducible assumption)|(simp[go_sem, *];done)⟩
 refine bi (i:=0) (v:=?_) (oO) (oW) (oW) (oW) (oW) (oP) (Or.inl ⟨by rfl,?_⟩) (oU) ?_
 rotate_left
 ·(intro w9 hSw;(try dsimp only at hSw);go_simp<;>with_reducible rfl)
 try simp only[Act.put,tA,tZ,tS]
 refine bi (i:=1) (v:=?_) (oO) (oW) (oW) (oW) (oW) (oP) (Or.inl ⟨by rfl,?_⟩) (oU) ?_
 rotate_left
 ·(intro w9 hSw;(try dsimp only at hSw);go_simp<;>with_reducible rfl)
 try simp only[Act.put,tA,tZ,tS]
 refine bi (i:=3) (v:=?_) (oO) (oW) (oW) (oW) (oW) (oP) (Or.inl ⟨by rfl,?_⟩) (oU) ?_
 rotate_left
 ·(intro w9 hSw;(try dsimp only at hSw);go_simp<;>with_reducible rfl)
 try simp only[Act.put,tA,tZ,tS]
 refine bi (i:=4) (v:=?_) (oO) (oW) (oW) (oW) (oW) (oP) (Or.inl ⟨by rfl,?_⟩) (oU) ?_
 rotate_left
 ·(intro w9 hSw;(try dsimp only at hSw);go_simp<;>with_reducible rfl)
 try simp only[Act.put,tA,tZ,tS]
 refine br (rs:=[2]) (oW) (by simp) ?_
 refine aQ.cons (oO) (fun K hK=>?_) aQ.nil
 go_simp
 refine hK.out _ _ ?_ (fun nj=>?_)
 ·(try dsimp only);exact⟨by first|(with_reducible assumption)|(simp[go_sem, *];done),by first|(with_reducible assumption)|(simp[go_sem, *];done)⟩
 clear hK K hHeld
 have hHeld:=nj
 clear nj
 try simp only[Act.put,tA,tZ,tS]
 refine br (rs:=[5]) (oW) (by simp) ?_
 refine aQ.cons (oO) (fun K hK=>?_) aQ.nil
 (refine jm rfl _ _ 25 rfl 57 i0 _ 13 104 Tryz.underlying25 hi hz0 hz1 hz2 rfl (by decide) (w.heap.size+1+1) (w.heap.size+2) (by omega) rfl hLit _ len _ (bj xs) rfl (by rw[gW,hxl]) hnil (fun q hq=>newsOr HG hq) (by unfold maxLen;omega) (by omega) ?_;intro v' W' hown hbW hblk;obtain⟨va,vc,rfl⟩:=dy hown;have hY:=(hbW.block (w.heap.size+1) (by simp)).trans hY0;have gz:w.heap.size+1<W'.heap.size:=(by have h9:=hbW.size;(try simp at h9);omega);have g0:W'.cell? ⟨w.heap.size,0,none⟩=some (.int .i64 m):=(hbW.cell (p:=⟨w.heap.size,0,none⟩) (oV)).trans (oS);have g1:W'.cell? ⟨w.heap.size,1,none⟩=some (.slice a len cap):=(hbW.cell (p:=⟨w.heap.size,1,none⟩) (oV)).trans (oS);obtain⟨r0,r1⟩:=c2 hY;have f0:W'.frozen? ⟨w.heap.size+1,0,none⟩=false:=(by simp[World.frozen?,hY,go_sem]);have f1:W'.frozen? ⟨w.heap.size+1,1,none⟩=false:=(by simp[World.frozen?,hY,go_sem]);have Ho:=ae hown;have hbF:=ap hb0 hbW;clear hown hY)
 refine hK.out _ _ ?_ (fun nj=>?_)
 ·(try dsimp only);exact⟨by first|(with_reducible assumption)|(simp[go_sem, *];done),by first|(with_reducible assumption)|(simp[go_sem, *];done)⟩
 clear hK K hHeld
 have hHeld:=nj
 clear nj
 try simp only[Act.put,tA,tZ,tS]
 refine bi (i:=6) (v:=?_) (oO) (oW) (oW) (oW) (oW) (oP) (Or.inl ⟨by rfl,?_⟩) (oU) ?_
 rotate_left
 ·(intro w9 hSw;(try dsimp only at hSw);go_simp<;>with_reducible rfl)
 try simp only[Act.put,tA,tZ,tS]
 refine br (rs:=[7]) (oW) (by simp) ?_
 refine aQ.cons (oO) (fun K hK=>?_) aQ.nil
 go_simp
 refine hK.out _ _ ?_ (fun nj=>?_)
 ·(try dsimp only);exact⟨by first|(with_reducible assumption)|(simp[go_sem, *];done),by first|(with_reducible assumption)|(simp[go_sem, *];done)⟩
 clear hK K hHeld
 have hHeld:=nj
 clear nj
 try simp only[Act.put,tA,tZ,tS]
 refine et (oW) ?_ _
 go_wp2
 refine bodyPost_ret (v:= .agg #[.int .i64 m,.slice va len vc]) (by simp(maxDischargeDepth:=9) [results,Tryz.results33,go_sem, *]) rfl ⟨_,rfl,?_,?_⟩
 ·repeat(first|(with_reducible exact ab Ho)|(with_reducible refine own_setC ?_ (by simp)))
 ·repeat(first|(with_reducible exact hbF)|(with_reducible refine av ?_ (by simp) _))
theorem cZ{W:World}{B g:Nat}(ty k:Nat)(h:B≤W.heap.size)(hg:g=W.heap.size):(W.alloc (.cells #[] ty)).ownsRow B ty k (.slice (some ⟨g,0,none⟩) 0 0) 0 []:=by
 subst hg
 exact World.ownsRow_lit (base:=B) (size:=k) W #[] 0 h (Nat.zero_le _) (by simp)
end Go.Proofs.YtdmhihcipkhecaaGreat
