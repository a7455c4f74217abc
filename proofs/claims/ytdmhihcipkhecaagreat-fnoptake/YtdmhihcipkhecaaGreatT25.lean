/- Laid together: what the claim needs of the texts that were built one by one. -/
import Derived.Test.YtdmhihcipkhecaaGreatT24
import Derived.Test.YtdmhihcipkhecaaGreatT5
import Derived.Test.YtdmhihcipkhecaaGreatT10
import Derived.Maps.OwnSet
import Derived.Test.YtdmhihcipkhecaaGreatT0
set_option linter.unusedVariables false
namespace Go.Proofs.YtdmhihcipkhecaaGreat
open Go.ChangeShapes Go.WideShapes Go.ChangeAt Go.RowKit Go.Shelf Go.Maps
set_option linter.unusedSimpArgs false
attribute [local go_sem] Oper.semAt_some
def turnM(ty:TypeId):Bool:=ty==102||ty==120
def jP(W W':World):Prop:=W.heap.size≤W'.heap.size∧∀(k:Nat) (o:Obj),W.heap[k]? =some o→(o.isCells=false∨∃(cs:Array Value) (ty:TypeId),turnM ty=false∧o= .cells cs ty (0,0))→W'.heap[k]? =some o
theorem jP.trans{A B C:World}(h:jP A B)(k:jP B C):jP A C:=⟨Nat.le_trans h.1 k.1,fun i o hi ho=>k.2 i o (h.2 i o hi ho) ho⟩
theorem jP.bel{W W':World}(hb:Below W.heap.size W W'):jP W W':=⟨hb.size,fun k o hk _=>(hb.block k (Array.getElem?_eq_some_iff.1 hk).1).trans hk⟩
theorem jP.grown{W W':World}{row:Option Nat}(hg:W.grownBy W' row)(hr:∀r,row=some r→∃cs ty,W.heap[r]? =some (.cells cs ty (0,0))∧turnM ty=true):jP W W':=by
 refine⟨hg.size,fun k o hk ho=>(hg.block k (Array.getElem?_eq_some_iff.1 hk).1 (fun e=>?_)).trans hk⟩
 obtain⟨cs,ty,h1,h2⟩:=hr k e.symm
 rw[hk]at h1
 cases h1
 rcases ho with h9|⟨cs',ty',h8,h9⟩
 ·cases h9
 ·cases h9
  rw[h2]at h8
  cases h8
theorem jP.set{W:World}{p:Addr}(v:Value){cs:Array Value}{ty:TypeId}(h:W.heap[p.block]? =some (.cells cs ty (0,0)))(h1:turnM ty=true):jP W (W.setCell p v):=by
 refine⟨(KeepsWalks.setCell W p v).size,fun k o hk ho=>?_⟩
 have hne:k≠p.block:=by
  rintro rfl
  rw[hk]at h
  cases h
  rcases ho with h9|⟨cs',ty',h8,h9⟩
  ·cases h9
  ·cases h9
   rw[h1]at h8
   cases h8
 exact(Below.heap_setCell W p v k hne).trans hk
theorem jP.kpo{W W':World}(h:jP W W'):gB W W':=by
 refine⟨⟨h.1,fun k o hk ho=>h.2 k o hk (.inl (Obj.not_cells_of_walk ho))⟩,fun b cs ty ht hb=>h.2 b _ hb (.inr ⟨cs,ty,?_,rfl⟩)⟩
 rcases ht with rfl|rfl<;>decide
theorem jP.from{W W':World}(h:jP W W')(B:Nat):KeepsFrom B W W':=⟨h.1,fun k o _ hk ho=>h.2 k o hk (.inl ho)⟩
def ptG(g:Nat):Value:= .pointer (some ⟨g,0,none⟩)
def fc(W:World)(B:Nat)(v:Value)(gs:List Nat):Prop:=W.ownsRow B 102 1 v gs.length (gs.map ptG)
theorem Tryz.infoPt:(Tryz.prog.info? 102).map (fun i=>(i.zero,i.size,i.bytes))=some (some (.pointer none),1,8):=by kernel_rfl
theorem ownPt_snoc{W:World}{B g:Nat}{v:Value}{gs:List Nat}(h:W.ownsRow B 102 1 v (gs.length+1) (gs.map ptG++[ptG g])):fc W B v (gs++[g]):=by
 unfold fc
 rw[List.length_append,List.map_append]
 exact h
theorem cells_newPt(w:World)(v:Value)(ty:Nat):∀j u,([v]:List Value)[j]? =some u→(w.alloc (.cells #[v] ty)).cell? ((⟨w.heap.size,0,none⟩:Addr).add j)=some u:=by
 intro j u hu
 match j with
 |0=>
  simp at hu
  subst hu
  rw[show(⟨w.heap.size,0,none⟩:Addr).add 0=⟨w.heap.size,0,none⟩from(by simp[Addr.add])]
  exact cA (World.alloc_heap_new w (.cells #[v] ty)) 0
 |j+1=>simp at hu
theorem iV{a b c d:Int}(w:World){o:Bool}(h:Hid (bg a b c d=o)):Calls Tryz.prog 71 #[.agg #[.int .i64 a,.int .i64 b],.agg #[.int .i64 c,.int .i64 d]] w fun e w'=>e= .returned (.bool o)∧Below w.heap.size w w':=by
 have h9:=ab h
 subst h9
 exact cd a b c d w
theorem own_cellsT{W:World}{B n:Nat}{v:Value}{ys:List Value}(h:W.ownsRow B 102 1 v n ys)(r:Nat)(e:v.ownBlock=some r):∃cs ty,W.heap[r]? =some (.cells cs ty (0,0))∧turnM ty=true:=by
 rcases h.2 with⟨rfl,_⟩|⟨g,cap,cur,rfl,_,hgb,_⟩
 ·cases e
 ·have e9:g=r:=by simpa[Value.ownBlock]using e
  subst e9
  exact⟨_,_,hgb,by decide⟩
/-- A round of a session's walk. -/
def actM(w:World)(Bo mb:Nat)(ky st en:Int){es:List bz}(x:eB es):Act:= {tmps:=#[.pointer (some ⟨Bo,0,none⟩),.agg #[.int .i64 ky,.int .i64 st,.int .i64 en],undef,.pointer (some ⟨w.heap.size,0,none⟩),.slice none 0 0,undef,undef,.pointer (some ⟨w.heap.size+1,0,none⟩),undef,.pointer (some ⟨(ak x).1,0,none⟩),.pointer (some ⟨Bo,0,none⟩),.pointer (some ⟨Bo,0,none⟩),.pointer (some ⟨Bo,0,none⟩),.pointer (some ⟨Bo,2,none⟩),.int .i64 3,.bool false,undef,undef,undef,undef,undef,undef,undef,undef,undef,undef,undef,undef,.pointer (some ⟨Bo,0,none⟩),.pointer (some ⟨Bo,0,none⟩),.pointer (some ⟨Bo,11,none⟩),.map (some mb),(.func (.func 83) #[] #[.pointer (some ⟨w.heap.size+1+1,0,none⟩)]),.agg #[.int .i64 x.1.1.1,.int .i64 x.1.1.2.1,.int .i64 x.1.1.2.2],.pointer (some ⟨(ak x).1,0,none⟩),undef,undef,undef,undef,undef,undef,undef,undef,undef,undef,undef,undef,undef,undef,undef,undef,undef,undef,undef,undef,undef],defers:=[]}
def MetI(w:World)(nn:Nat)(ky st en:Int){es:List bz}(pre:List (eB es))(W:World):Prop:=∃rv,W.heap[w.heap.size+1]? =some (.cells #[rv] 120 (0,0))∧fc W w.heap.size rv (((pre.map ak).filter (fun e=>bw ky st en e.2)).map (fun e=>e.1))∧pre.length≤nn∧W.heap[w.heap.size]? =some (.cells #[.int .i64 ky,.int .i64 st,.int .i64 en] 87 (0,0))∧Below w.heap.size w W
theorem metI_own(w:World)(nn:Nat)(ky st en:Int){es:List bz}(B:Nat)(hB:w.heap.size≤B):OwnFrom B (MetI w nn ky st en (es:=es)):=fun s W W' row h hg hr=>by
 obtain⟨rv,h1,h2,h3,h4,h5⟩:=h
 have hr':=fun r e=>(hr r e).2
 exact⟨rv,dH h1 hg hr',aJ h2 hg hr',h3,dH h4 hg hr',h5.grown hg h5.size (fun k e=>by have:=(hr k e).1;omega)⟩
theorem flt_sn{p:bz→Bool}(l:List bz)(e:bz):(l++[e]).filter p=l.filter p++(if p e=true then [e]else []):=by
 rw[List.filter_append]
 simp only[List.filter_cons,List.filter_nil]
theorem b6.look2{w:World}{b n:Nat}{m:P3→Option Value}(h:b6 w b n m){z:Value}(hz:(zeroValue 102).run Tryz.prog w= .ok z w)(q:P3)(hq:gx q):
  (Instr.lookup 73 (.map (some b)) (.agg #[.int .i64 q.1,.int .i64 q.2.1,.int .i64 q.2.2]) true).run Tryz.prog w= .ok (.tuple #[(m q).getD z,.bool (m q).isSome]) w:=by
 obtain⟨D,h,hf⟩:=h
 obtain⟨kl,hkl⟩:=some3 q hq
 obtain⟨v,ps,h1,h2⟩:=World.ownsMap.look_ok h key3 Tryz.underlying73 hz (zd:= .held z) (zp:=[]) rfl hkl
 obtain⟨f1,f2⟩:=hf q hq kl hkl
 cases hm:m q with
 |none=>
  rw[f2 hm]at h1
  rw[atKey_of_not_has (f2 hm)]at h2
  simp[rdV]at h2
  rw[h2.1]at h1
  exact h1
 |some a=>
  rw[has_true_of_atKey (f1 a hm)]at h1
  rw[f1 a hm]at h2
  simp[rdV]at h2
  rw[h2.1]at h1
  exact h1
theorem own_litT{W:World}{B gg:Nat}(g:Nat)(h:B≤W.heap.size)(hg:gg=W.heap.size):fc (W.alloc (.cells #[.pointer (some ⟨g,0,none⟩)] 102)) B (.slice (some ⟨gg,0,none⟩) 1 1) [g]:=by
 subst hg
 exact⟨rfl,Or.inr ⟨W.heap.size,1,#[ptG g],rfl,h,World.alloc_heap_new W _,Nat.le_refl _,by unfold maxLen;omega,rfl,rfl⟩⟩
set_option maxRecDepth 100000 in
set_option maxHeartbeats 8000000 in
theorem metlook_any(Bo B mb nn:Nat)(s t k z q l e:Int)(b:Bool)(v r m:Int)(pv lv:Value)(es:List bz)(ky st en:Int)(w:World)(hO:w.heap[Bo]? =some (.cells #[.int .i64 s,.int .i64 t,.int .i64 k,.int .i64 z,.int .i64 q,.int .i64 l,.int .i64 e,.bool b,.int .i64 v,.int .i64 r,.int .i64 m,.map (some (mb)),pv,lv] 75 (0,0)))(hR:bD w B mb nn es)(hrise:eb es)(hok:∀e ∈ es,gx (aU e.2))(hnn:nn≤1000)(hesl:es.length≤nn)(hk:¬ k=3)(hky:gx (ky,st,en)):Calls Tryz.prog 78 #[.pointer (some ⟨Bo,0,none⟩),.agg #[.int .i64 ky,.int .i64 st,.int .i64 en]] w fun e' w'=>∃v',e'= .returned v'∧fc w' w.heap.size v' (((es.find? (fun e=>decide (aU e.2=(ky,st,en)))).toList).map (fun e=>e.1))∧Below w.heap.size w w':=by
 have zBo:Bo<w.heap.size:=(Array.getElem?_eq_some_iff.1 hO).1
 have c2:w.cell? ⟨Bo,2,none⟩=some (.int .i64 k):=cA hO 2
 have hkb:(k==3)=false:=by simp[hk]
 have hkn:(k != 3)=true:=by simp[hk]
 have hB1:Below w.heap.size w (w.alloc (.cells #[.int .i64 ky,.int .i64 st,.int .i64 en] 87)):=aq _ _
 have bO:(w.alloc (.cells #[.int .i64 ky,.int .i64 st,.int .i64 en] 87)).heap[Bo]? =some (.cells #[.int .i64 s,.int .i64 t,.int .i64 k,.int .i64 z,.int .i64 q,.int .i64 l,.int .i64 e,.bool b,.int .i64 v,.int .i64 r,.int .i64 m,.map (some (mb)),pv,lv] 75 (0,0)):=(Below.heap_alloc _ _ _ zBo).trans hO
 have bA:(w.alloc (.cells #[.int .i64 ky,.int .i64 st,.int .i64 en] 87)).heap[w.heap.size]? =some (.cells #[.int .i64 ky,.int .i64 st,.int .i64 en] 87 (0,0)):=World.alloc_heap_new w _
 have hmO:b6 (w.alloc (.cells #[.int .i64 ky,.int .i64 st,.int .i64 en] 87)) mb nn (fun q=>(cP es q).map Value.pointer):=hR.map.bel hB1
 have hbD:Below w.heap.size w (w.alloc (.cells #[.int .i64 ky,.int .i64 st,.int .i64 en] 87)).drew:=ap hB1
 cases hf:es.find? (fun e=>decide (aU e.2=(ky,st,en)))with
 |none=>
  have HL:Hid ((cP es (ky,st,en)).map Value.pointer=none):=ae (by unfold cP;rw[hf];rfl)
  have HF:=ae hf
  clear hf hk
  go_enter Tryz.func78,Tryz.ntmps78
  go_wp2_with fail
  refine wp_region_held_drew (S:=(fun W=>W.heap[Bo]? =some (.cells #[.int .i64 s,.int .i64 t,.int .i64 k,.int .i64 z,.int .i64 q,.int .i64 l,.int .i64 e,.bool b,.int .i64 v,.int .i64 r,.int .i64 m,.map (some (mb)),pv,lv] 75 (0,0))∧W.heap[w.heap.size]? =some (.cells #[.int .i64 ky,.int .i64 st,.int .i64 en] 87 (0,0))∧b6 W mb nn (fun q=>(cP es q).map Value.pointer))) (oc) ?_ (fun hHeld=>?_)
  ·((try dsimp only);exact⟨bO,bA,hmO⟩)
  refine kV 0 ?_
  refine kV 1 ?_
  refine kV 2 ?_
  refine kT 3 ?_ ?_ ?_
  rotate_left
  ·(intro w9 hSw;(try dsimp only at hSw);obtain⟨q0,q1,q2⟩:=hSw;have ax0:=cA q0 0;have ax1:=cA q0 1;have ax2:=cA q0 2;have ax3:=cA q0 3;have ax4:=cA q0 4;have ax5:=cA q0 5;have ax6:=cA q0 6;have ax7:=cA q0 7;have ax8:=cA q0 8;have ax9:=cA q0 9;have ax10:=cA q0 10;simp only[gA,gZ,gS]at ax0 ax1 ax2 ax3 ax4 ax5 ax6 ax7 ax8 ax9 ax10;have ax11:w9.cell? ⟨Bo,11,none⟩=some (.map (some (mb))):=(by simp[World.cell?,q0,go_sem]);have ax12:=cA q0 12;have ax13:=cA q0 13;simp only[gA,gZ,gS]at ax12 ax13;go_simp<;>with_reducible rfl)
  try simp only[Act.put,tA,tZ,tS]
  refine kT 4 ?_ ?_ ?_
  rotate_left
  ·(intro w9 hSw;(try dsimp only at hSw);obtain⟨q0,q1,q2⟩:=hSw;have bx0:=cA q1 0;have bx1:=cA q1 1;have bx2:=cA q1 2;simp only[gA,gZ,gS]at bx0 bx1 bx2;go_simp<;>with_reducible rfl)
  try simp only[Act.put,tA,tZ,tS]
  refine kT 5 ?_ ?_ ?_
  rotate_left
  ·(intro w9 hSw;(try dsimp only at hSw);obtain⟨q0,q1,q2⟩:=hSw;have hlk:=q2.look2 (zeroPtr _) (ky,st,en) hky;rw[ab HL]at hlk;dsimp only[Option.isSome,Option.getD]at hlk;go_simp<;>with_reducible rfl)
  try simp only[Act.put,tA,tZ,tS]
  refine kV 6 ?_
  refine kV 7 ?_
  refine kV 8 ?_
  refine rD 9 (fun K hK=>?_)
  go_simp
  clear hHeld
  refine hK.out _ _ ?_ (fun hHeld=>?_)
  ·((try dsimp only);exact⟨bO,bA,hmO⟩)
  clear hK K
  try simp only[Act.put,tA,tZ,tS]
  refine rD 10 (fun K hK=>?_)
  go_simp
  clear hHeld
  refine hK.out _ _ ?_ (fun hHeld=>?_)
  ·((try dsimp only);exact⟨bO,bA,hmO⟩)
  clear hK K
  try simp only[Act.put,tA,tZ,tS]
  refine wpAnyH_done (oc) ?_ _
  clear hHeld
  go_wp2
  exact bodyPost_ret (v:= .slice none 0 0) (by simp(maxDischargeDepth:=9) [results,Tryz.results78,go_sem, *]) rfl ⟨_,rfl,World.ownsRow_nil _ _ _ _,hbD⟩
 |some e0=>
  have HL:Hid ((cP es (ky,st,en)).map Value.pointer=some (.pointer (some ⟨e0.1,0,none⟩))):=ae (by unfold cP;rw[hf];rfl)
  clear hf hk
  go_enter Tryz.func78,Tryz.ntmps78
  go_wp2_with fail
  refine wp_region_held_drew (S:=(fun W=>W.heap[Bo]? =some (.cells #[.int .i64 s,.int .i64 t,.int .i64 k,.int .i64 z,.int .i64 q,.int .i64 l,.int .i64 e,.bool b,.int .i64 v,.int .i64 r,.int .i64 m,.map (some (mb)),pv,lv] 75 (0,0))∧W.heap[w.heap.size]? =some (.cells #[.int .i64 ky,.int .i64 st,.int .i64 en] 87 (0,0))∧b6 W mb nn (fun q=>(cP es q).map Value.pointer))) (oc) ?_ (fun hHeld=>?_)
  ·((try dsimp only);exact⟨bO,bA,hmO⟩)
  refine kV 0 ?_
  refine kV 1 ?_
  refine kV 2 ?_
  refine kT 3 ?_ ?_ ?_
  rotate_left
  ·(intro w9 hSw;(try dsimp only at hSw);obtain⟨q0,q1,q2⟩:=hSw;have ax0:=cA q0 0;have ax1:=cA q0 1;have ax2:=cA q0 2;have ax3:=cA q0 3;have ax4:=cA q0 4;have ax5:=cA q0 5;have ax6:=cA q0 6;have ax7:=cA q0 7;have ax8:=cA q0 8;have ax9:=cA q0 9;have ax10:=cA q0 10;simp only[gA,gZ,gS]at ax0 ax1 ax2 ax3 ax4 ax5 ax6 ax7 ax8 ax9 ax10;have ax11:w9.cell? ⟨Bo,11,none⟩=some (.map (some (mb))):=(by simp[World.cell?,q0,go_sem]);have ax12:=cA q0 12;have ax13:=cA q0 13;simp only[gA,gZ,gS]at ax12 ax13;go_simp<;>with_reducible rfl)
  try simp only[Act.put,tA,tZ,tS]
  refine kT 4 ?_ ?_ ?_
  rotate_left
  ·(intro w9 hSw;(try dsimp only at hSw);obtain⟨q0,q1,q2⟩:=hSw;have bx0:=cA q1 0;have bx1:=cA q1 1;have bx2:=cA q1 2;simp only[gA,gZ,gS]at bx0 bx1 bx2;go_simp<;>with_reducible rfl)
  try simp only[Act.put,tA,tZ,tS]
  refine kT 5 ?_ ?_ ?_
  rotate_left
  ·(intro w9 hSw;(try dsimp only at hSw);obtain⟨q0,q1,q2⟩:=hSw;have hlk:=q2.look2 (zeroPtr _) (ky,st,en) hky;rw[ab HL]at hlk;dsimp only[Option.isSome,Option.getD]at hlk;go_simp<;>with_reducible rfl)
  try simp only[Act.put,tA,tZ,tS]
  refine kV 6 ?_
  refine kV 7 ?_
  refine kV 8 ?_
  refine rD 9 (fun K hK=>?_)
  go_simp
  clear hHeld
  refine hK.out _ _ ?_ (fun hHeld=>?_)
  ·((try dsimp only);exact⟨bO,bA,hmO⟩)
  clear hK K
  try simp only[Act.put,tA,tZ,tS]
  refine rD 10 (fun K hK=>?_)
  go_simp
  clear hHeld
  refine hK.out _ _ ?_ (fun hHeld=>?_)
  ·((try dsimp only);exact⟨bO,bA,hmO⟩)
  clear hK K
  try simp only[Act.put,tA,tZ,tS]
  refine wpAnyH_done (oc) ?_ _
  clear hHeld
  go_wp2
  refine bodyPost_ret (v:= .slice (some ⟨w.heap.size+1,0,none⟩) 1 1) (by simp(maxDischargeDepth:=9) [results,Tryz.results78,go_sem, *]) rfl ⟨_,rfl,?_,ag hbD _⟩
  exact own_litT _ (by have:=hbD.size;exact this) (by simp)
set_option maxRecDepth 100000 in
set_option maxHeartbeats 8000000 in
theorem metses_any(Bo B mb nn:Nat)(s t k z q l e:Int)(b:Bool)(v r m:Int)(pv lv:Value)(es:List bz)(ky st en:Int)(w:World)(hO:w.heap[Bo]? =some (.cells #[.int .i64 s,.int .i64 t,.int .i64 k,.int .i64 z,.int .i64 q,.int .i64 l,.int .i64 e,.bool b,.int .i64 v,.int .i64 r,.int .i64 m,.map (some (mb)),pv,lv] 75 (0,0)))(hR:bD w B mb nn es)(hrise:eb es)(hok:∀e ∈ es,gx (aU e.2))(hnn:nn≤1000)(hesl:es.length≤nn)(hk:k=3):Calls Tryz.prog 78 #[.pointer (some ⟨Bo,0,none⟩),.agg #[.int .i64 ky,.int .i64 st,.int .i64 en]] w fun e' w'=>∃v',e'= .returned v'∧fc w' w.heap.size v' ((es.filter (fun e=>bw ky st en e.2)).map (fun e=>e.1))∧Below w.heap.size w w':=by
 subst hk
 obtain⟨i0,hi,hz0',hz1',hz2'⟩:=info_parts Tryz.infoPt
 have zBo:Bo<w.heap.size:=(Array.getElem?_eq_some_iff.1 hO).1
 have c2:w.cell? ⟨Bo,2,none⟩=some (.int .i64 3):=cA hO 2
 have c11:w.cell? ⟨Bo,11,none⟩=some (.map (some mb)):=cA hO 11
 refine(callsIn_wide (n:=20)).1 ?_
 refine callsIn_of_wp_marks Tryz.func78 rfl trivial ?_ rfl
 simp only[Tryz.ntmps78,List.size_toArray,List.length_cons,List.length_nil,Nat.reduceAdd,Nat.reduceSub,Array.replicate_succ,Array.replicate_zero,List.push_toArray,List.append_toArray,List.nil_append,List.cons_append]
 have hB0:Below w.heap.size w (((w.alloc (.cells #[.int .i64 ky,.int .i64 st,.int .i64 en] 87)).alloc (.cells #[.slice none 0 0] 120)).alloc (.cells #[.map (some mb)] 73)):=ag (ag (aq _ _) _) _
 have hm:(((w.alloc (.cells #[.int .i64 ky,.int .i64 st,.int .i64 en] 87)).alloc (.cells #[.slice none 0 0] 120)).alloc (.cells #[.map (some mb)] 73)).heap[w.heap.size+1+1]? =some (.cells #[.map (some mb)] 73 (0,0)):=by
  have:=World.alloc_heap_new ((w.alloc (.cells #[.int .i64 ky,.int .i64 st,.int .i64 en] 87)).alloc (.cells #[.slice none 0 0] 120)) (.cells #[.map (some mb)] 73)
  rw[World.size_alloc,World.size_alloc]at this
  exact this
 have hS0:(((w.alloc (.cells #[.int .i64 ky,.int .i64 st,.int .i64 en] 87)).alloc (.cells #[.slice none 0 0] 120)).alloc (.cells #[.map (some mb)] 73)).heap[w.heap.size+1]? =some (.cells #[.slice none 0 0] 120 (0,0)):=by
  refine(Below.heap_alloc _ _ _ (by simp)).trans ?_
  have:=World.alloc_heap_new (w.alloc (.cells #[.int .i64 ky,.int .i64 st,.int .i64 en] 87)) (.cells #[.slice none 0 0] 120)
  rw[World.size_alloc]at this
  exact this
 have hA0:(((w.alloc (.cells #[.int .i64 ky,.int .i64 st,.int .i64 en] 87)).alloc (.cells #[.slice none 0 0] 120)).alloc (.cells #[.map (some mb)] 73)).heap[w.heap.size]? =some (.cells #[.int .i64 ky,.int .i64 st,.int .i64 en] 87 (0,0)):=(Below.heap_alloc _ _ _ (oa)).trans ((Below.heap_alloc _ _ _ (by simp)).trans (World.alloc_heap_new w _))
 have hown:b6 (((w.alloc (.cells #[.int .i64 ky,.int .i64 st,.int .i64 en] 87)).alloc (.cells #[.slice none 0 0] 120)).alloc (.cells #[.map (some mb)] 73)) mb nn (fun q=>(gj es q).map evO):=by rw[lg];exact hR.map.bel hB0
 have hbx:∀e ∈ es,ew w e.1 e.2:=hR.box
 gi_wp2_with (refine⟨trivial,?_⟩;gi_at_call 61;refine(callsIn_wide.2 (fL mb _)).mono ?_;rintro e' w1 ⟨rfl,hw1⟩;subst hw1)
 clear c2 c11
 refine wpIn_rangeFunc_ownH rfl (by omega) (gf:=83) (lb:=#[.pointer (some ⟨w.heap.size+1+1,0,none⟩)]) (by simp[go_sem,Act.eval]) trivial (enters_of Tryz.func83 (oc) rfl)
  (fv _ (by omega) (w.heap.size+1+1) mb nn evO (gj es) none zeroEv (PXs es) (fun q _ a ha=>lh ha) _ (by omega) hm hown) gB.trans gB.put (Below.refl _ _) (fun _=>rfl)
  (MetI w nn ky st en (es:=es)) (fun _ _ _=>False) (metI_own w nn ky st en _ hB0.size) (fun _ _ _ _ _ hs _ _=>hs)
  ⟨_,hS0,World.ownsRow_nil _ _ _ _,Nat.zero_le _,hA0,hB0⟩
  (fun x a' W=>a'=actM w Bo mb ky st en x) (fun x a' _ W W' row hs _ _=>hs) ?assign ?body ?done ?stop
 case assign=>
  rintro lb0 pre x W K hI hK
  have HK:=hK (actM w Bo mb ky st en x) W (KeepsFrom.refl _ _) (gB.rfl' W) hI rfl
  clear hK
  have hev:=jl x
  unfold actM at HK
  rw[hev]
  gi_wp2
  exact HK
 case body=>
  rintro lb0 pre x a' W hlb _ ⟨rv,hS,hrow,hpn,bA,hB⟩ rfl hpl
  have hbe:=(hbx _ (dG x)).bel hB (hbx _ (dG x)).lt
  obtain⟨y,hy⟩:∃y,(ak x).2=y:=⟨_,rfl⟩
  rw[hy]at hbe
  have Hy:=ae hy
  have HBx:=ae hbe
  obtain⟨yky,yst,yen,yan,yasu,yale,yamo,yfn,yfsu,yfle,yfmo,ytd,ytm⟩:=y
  clear hbe hy
  by_cases k1:yky=ky
  ·obtain⟨tb,htb⟩:∃tb,bg yst yen st en=tb:=⟨_,rfl⟩
   have HT:=ae htb
   have kb:(yky==ky)=true:=by simp[k1]
   have ke:decide (yky=ky)=true:=by simp[k1]
   have Htou:Hid (bw ky st en (ak x).2=tb):=ae (by rw[ab Hy];unfold bw;rw[show decide (yky=ky)=true from ke,Bool.true_and];exact htb)
   clear k1 htb
   cases tb with
   |true=>
    obtain⟨gs,hgs⟩:∃gs,((pre.map ak).filter (fun e=>bw ky st en e.2)).map (fun e=>e.1)=gs:=⟨_,rfl⟩
    rw[hgs]at hrow
    have Hgs:=ae hgs
    have hgl:gs.length≤1000:=by
     rw[←hgs,List.length_map]
     exact Nat.le_trans (List.length_filter_le _ _) (nL)
    have HRow:=ae hrow
    have HS:=ae hS
    have HA:=ae bA
    clear hgs hrow hS hm hown hS0 hA0
    unfold actM
    gi_wp2
    refine bM (oc) (oc) (fun L a' W'=>∃V:Nat→Value,a'=({tmps:=#[.pointer (some ⟨Bo,0,none⟩),.agg #[.int .i64 ky,.int .i64 st,.int .i64 en],undef,.pointer (some ⟨w.heap.size,0,none⟩),.slice none 0 0,undef,undef,.pointer (some ⟨w.heap.size+1,0,none⟩),undef,.pointer (some ⟨(ak x).1,0,none⟩),.pointer (some ⟨Bo,0,none⟩),.pointer (some ⟨Bo,0,none⟩),.pointer (some ⟨Bo,0,none⟩),.pointer (some ⟨Bo,2,none⟩),.int .i64 3,.bool false,undef,undef,undef,undef,undef,undef,undef,undef,undef,undef,undef,undef,.pointer (some ⟨Bo,0,none⟩),.pointer (some ⟨Bo,0,none⟩),.pointer (some ⟨Bo,11,none⟩),.map (some mb),(.func (.func 83) #[] #[.pointer (some ⟨w.heap.size+1+1,0,none⟩)]),.agg #[.int .i64 x.1.1.1,.int .i64 x.1.1.2.1,.int .i64 x.1.1.2.2],.pointer (some ⟨(ak x).1,0,none⟩),V 0,V 1,V 2,V 3,V 4,V 5,V 6,V 7,V 8,V 9,V 10,V 11,V 12,V 13,V 14,V 15,undef,undef,undef,undef,undef],defers:=[]}:Act)∧((L 0=true→V 0= .pointer (some ⟨(ak x).1,0,none⟩))∧(L 1=true→V 1= .pointer (some ⟨(ak x).1,0,none⟩))∧(L 2=true→V 2= .pointer (some ⟨(ak x).1,0,none⟩))∧(L 3=true→V 3= .int .i64 yky)∧(L 4=true→V 4= .pointer (some ⟨w.heap.size,0,none⟩))∧(L 5=true→V 5= .int .i64 ky)∧(L 6=true→V 6= .bool true)∧(L 7=true→V 7= .bool true)∧(L 8=true→V 8= .pointer (some ⟨(ak x).1,0,none⟩))∧(L 9=true→V 9= .pointer (some ⟨(ak x).1,0,none⟩))∧(L 10=true→V 10= .pointer (some ⟨(ak x).1,1,none⟩))∧(L 11=true→V 11= .agg #[.int .i64 yst,.int .i64 yen])∧(L 12=true→V 12= .pointer (some ⟨w.heap.size,1,none⟩))∧(L 13=true→V 13= .agg #[.int .i64 st,.int .i64 en])∧(L 14=true→V 14= .bool true)∧(L 15=true→V 15= .bool true))∧Below W.heap.size W W') ?_ ?_ ?_
    ·exact⟨fun _=>undef,rfl,⟨(fun h9=>(by cases h9)),(fun h9=>(by cases h9)),(fun h9=>(by cases h9)),(fun h9=>(by cases h9)),(fun h9=>(by cases h9)),(fun h9=>(by cases h9)),(fun h9=>(by cases h9)),(fun h9=>(by cases h9)),(fun h9=>(by cases h9)),(fun h9=>(by cases h9)),(fun h9=>(by cases h9)),(fun h9=>(by cases h9)),(fun h9=>(by cases h9)),(fun h9=>(by cases h9)),(fun h9=>(by cases h9)),(fun h9=>(by cases h9))⟩,ap (Below.refl _ _)⟩
    ·refine⟨?_,?_,?_,?_,?_,?_,?_,?_,?_,?_,?_,?_,?_,?_,?_,?_,trivial⟩
     ·intro L a' W' hI hLj hE K' hK
      obtain⟨V,rfl,⟨mq,mr,mD,mE,mF,mH,mK,mQ,mT,mU,mt,mu,mw,mx,my,mA⟩,hbW⟩:=hI
      go_simp
      exact hK.out _ _ ⟨fun m9=>if m9=0 then .pointer (some ⟨(ak x).1,0,none⟩)else V m9,rfl,⟨fun _=>rfl,mO mr,mO mD,mO mE,mO mF,mO mH,mO mK,mO mQ,mO mT,mO mU,mO mt,mO mu,mO mw,mO mx,mO my,mO mA⟩,hbW⟩
     ·intro L a' W' hI hLj hE K' hK
      obtain⟨V,rfl,⟨mq,mr,mD,mE,mF,mH,mK,mQ,mT,mU,mt,mu,mw,mx,my,mA⟩,hbW⟩:=hI
      have lQ:=mq (hE ⟨0,.data⟩ (by simp) rfl)
      rw[lQ]
      go_simp
      exact hK.out _ _ ⟨fun m9=>if m9=1 then .pointer (some ⟨(ak x).1,0,none⟩)else V m9,(by simp[Act.put,lQ]),⟨mO mq,fun _=>rfl,mO mD,mO mE,mO mF,mO mH,mO mK,mO mQ,mO mT,mO mU,mO mt,mO mu,mO mw,mO mx,mO my,mO mA⟩,hbW⟩
     ·intro L a' W' hI hLj hE K' hK
      obtain⟨V,rfl,⟨mq,mr,mD,mE,mF,mH,mK,mQ,mT,mU,mt,mu,mw,mx,my,mA⟩,hbW⟩:=hI
      have lR:=mr (hE ⟨1,.data⟩ (by simp) rfl)
      rw[lR]
      go_simp
      exact hK.out _ _ ⟨fun m9=>if m9=2 then .pointer (some ⟨(ak x).1,0,none⟩)else V m9,(by simp[Act.put,lR]),⟨mO mq,mO mr,fun _=>rfl,mO mE,mO mF,mO mH,mO mK,mO mQ,mO mT,mO mU,mO mt,mO mu,mO mw,mO mx,mO my,mO mA⟩,hbW⟩
     ·intro L a' W' hI hLj hE K' hK
      obtain⟨V,rfl,⟨mq,mr,mD,mE,mF,mH,mK,mQ,mT,mU,mt,mu,mw,mx,my,mA⟩,hbW⟩:=hI
      have lZ:=mD (hE ⟨2,.data⟩ (by simp) rfl)
      have bxW:=(ab HBx).bel hbW (ab HBx).lt
      have k0:W'.cell? ⟨(ak x).1,0,none⟩=some (.int .i64 yky):=cA bxW 0
      rw[lZ]
      go_simp
      exact hK.out _ _ ⟨fun m9=>if m9=3 then .int .i64 yky else V m9,(by simp[Act.put,lZ]),⟨mO mq,mO mr,mO mD,fun _=>rfl,mO mF,mO mH,mO mK,mO mQ,mO mT,mO mU,mO mt,mO mu,mO mw,mO mx,mO my,mO mA⟩,hbW⟩
     ·intro L a' W' hI hLj hE K' hK
      obtain⟨V,rfl,⟨mq,mr,mD,mE,mF,mH,mK,mQ,mT,mU,mt,mu,mw,mx,my,mA⟩,hbW⟩:=hI
      go_simp
      exact hK.out _ _ ⟨fun m9=>if m9=4 then .pointer (some ⟨w.heap.size,0,none⟩)else V m9,rfl,⟨mO mq,mO mr,mO mD,mO mE,fun _=>rfl,mO mH,mO mK,mO mQ,mO mT,mO mU,mO mt,mO mu,mO mw,mO mx,mO my,mO mA⟩,hbW⟩
     ·intro L a' W' hI hLj hE K' hK
      obtain⟨V,rfl,⟨mq,mr,mD,mE,mF,mH,mK,mQ,mT,mU,mt,mu,mw,mx,my,mA⟩,hbW⟩:=hI
      have mc:=mF (hE ⟨4,.data⟩ (by simp) rfl)
      have bAW:=(hbW.block (w.heap.size) (Array.getElem?_eq_some_iff.1 bA).1).trans bA
      have k0:W'.cell? ⟨w.heap.size,0,none⟩=some (.int .i64 ky):=cA bAW 0
      rw[mc]
      go_simp
      exact hK.out _ _ ⟨fun m9=>if m9=5 then .int .i64 ky else V m9,(by simp[Act.put,mc]),⟨mO mq,mO mr,mO mD,mO mE,mO mF,fun _=>rfl,mO mK,mO mQ,mO mT,mO mU,mO mt,mO mu,mO mw,mO mx,mO my,mO mA⟩,hbW⟩
     ·intro L a' W' hI hLj hE K' hK
      obtain⟨V,rfl,⟨mq,mr,mD,mE,mF,mH,mK,mQ,mT,mU,mt,mu,mw,mx,my,mA⟩,hbW⟩:=hI
      have ma:=mE (hE ⟨3,.data⟩ (by simp) rfl)
      have me:=mH (hE ⟨5,.data⟩ (by simp) rfl)
      rw[ma]
      rw[me]
      go_simp
      exact hK.out _ _ ⟨fun m9=>if m9=6 then .bool true else V m9,(by simp[Act.put,ma,me]),⟨mO mq,mO mr,mO mD,mO mE,mO mF,mO mH,fun _=>rfl,mO mQ,mO mT,mO mU,mO mt,mO mu,mO mw,mO mx,mO my,mO mA⟩,hbW⟩
     ·intro L a' W' hI hLj hE K' hK
      obtain⟨V,rfl,⟨mq,mr,mD,mE,mF,mH,mK,mQ,mT,mU,mt,mu,mw,mx,my,mA⟩,hbW⟩:=hI
      have mf:=mK (hE ⟨6,.data⟩ (by simp) rfl)
      rw[mf]
      go_simp
      exact hK.out _ _ ⟨fun m9=>if m9=7 then .bool true else V m9,(by simp[Act.put,mf]),⟨mO mq,mO mr,mO mD,mO mE,mO mF,mO mH,mO mK,fun _=>rfl,mO mT,mO mU,mO mt,mO mu,mO mw,mO mx,mO my,mO mA⟩,hbW⟩
     ·intro L a' W' hI hLj hE K' hK
      obtain⟨V,rfl,⟨mq,mr,mD,mE,mF,mH,mK,mQ,mT,mU,mt,mu,mw,mx,my,mA⟩,hbW⟩:=hI
      have mg:=mQ (hE ⟨7,.guard⟩ (by simp) rfl)
      rw[mg]
      rw[show Region.wanted _ _=true from rfl]
      go_simp
      exact hK.out _ _ ⟨fun m9=>if m9=8 then .pointer (some ⟨(ak x).1,0,none⟩)else V m9,(by simp[Act.put,mg]),⟨mO mq,mO mr,mO mD,mO mE,mO mF,mO mH,mO mK,mO mQ,fun _=>rfl,mO mU,mO mt,mO mu,mO mw,mO mx,mO my,mO mA⟩,hbW⟩
     ·intro L a' W' hI hLj hE K' hK
      obtain⟨V,rfl,⟨mq,mr,mD,mE,mF,mH,mK,mQ,mT,mU,mt,mu,mw,mx,my,mA⟩,hbW⟩:=hI
      have mh:=mT (hE ⟨8,.data⟩ (by simp) rfl)
      have mg:=mQ (hE ⟨7,.guard⟩ (by simp) rfl)
      rw[mh]
      rw[mg]
      rw[show Region.wanted _ _=true from rfl]
      go_simp
      exact hK.out _ _ ⟨fun m9=>if m9=9 then .pointer (some ⟨(ak x).1,0,none⟩)else V m9,(by simp[Act.put,mh,mg]),⟨mO mq,mO mr,mO mD,mO mE,mO mF,mO mH,mO mK,mO mQ,mO mT,fun _=>rfl,mO mt,mO mu,mO mw,mO mx,mO my,mO mA⟩,hbW⟩
     ·intro L a' W' hI hLj hE K' hK
      obtain⟨V,rfl,⟨mq,mr,mD,mE,mF,mH,mK,mQ,mT,mU,mt,mu,mw,mx,my,mA⟩,hbW⟩:=hI
      have mi:=mU (hE ⟨9,.data⟩ (by simp) rfl)
      have mg:=mQ (hE ⟨7,.guard⟩ (by simp) rfl)
      rw[mi]
      rw[mg]
      rw[show Region.wanted _ _=true from rfl]
      go_simp
      exact hK.out _ _ ⟨fun m9=>if m9=10 then .pointer (some ⟨(ak x).1,1,none⟩)else V m9,(by simp[Act.put,mi,mg]),⟨mO mq,mO mr,mO mD,mO mE,mO mF,mO mH,mO mK,mO mQ,mO mT,mO mU,fun _=>rfl,mO mu,mO mw,mO mx,mO my,mO mA⟩,hbW⟩
     ·intro L a' W' hI hLj hE K' hK
      obtain⟨V,rfl,⟨mq,mr,mD,mE,mF,mH,mK,mQ,mT,mU,mt,mu,mw,mx,my,mA⟩,hbW⟩:=hI
      have lS:=mt (hE ⟨10,.data⟩ (by simp) rfl)
      have mg:=mQ (hE ⟨7,.guard⟩ (by simp) rfl)
      have bxW:=(ab HBx).bel hbW (ab HBx).lt
      have k1:W'.cell? ⟨(ak x).1,1,none⟩=some (.int .i64 yst):=cA bxW 1
      have k2:W'.cell? ⟨(ak x).1,2,none⟩=some (.int .i64 yen):=cA bxW 2
      rw[lS]
      rw[mg]
      rw[show Region.wanted _ _=true from rfl]
      go_simp
      exact hK.out _ _ ⟨fun m9=>if m9=11 then .agg #[.int .i64 yst,.int .i64 yen]else V m9,(by simp[Act.put,lS,mg]),⟨mO mq,mO mr,mO mD,mO mE,mO mF,mO mH,mO mK,mO mQ,mO mT,mO mU,mO mt,fun _=>rfl,mO mw,mO mx,mO my,mO mA⟩,hbW⟩
     ·intro L a' W' hI hLj hE K' hK
      obtain⟨V,rfl,⟨mq,mr,mD,mE,mF,mH,mK,mQ,mT,mU,mt,mu,mw,mx,my,mA⟩,hbW⟩:=hI
      have mg:=mQ (hE ⟨7,.guard⟩ (by simp) rfl)
      rw[mg]
      rw[show Region.wanted _ _=true from rfl]
      go_simp
      exact hK.out _ _ ⟨fun m9=>if m9=12 then .pointer (some ⟨w.heap.size,1,none⟩)else V m9,(by simp[Act.put,mg]),⟨mO mq,mO mr,mO mD,mO mE,mO mF,mO mH,mO mK,mO mQ,mO mT,mO mU,mO mt,mO mu,fun _=>rfl,mO mx,mO my,mO mA⟩,hbW⟩
     ·intro L a' W' hI hLj hE K' hK
      obtain⟨V,rfl,⟨mq,mr,mD,mE,mF,mH,mK,mQ,mT,mU,mt,mu,mw,mx,my,mA⟩,hbW⟩:=hI
      have lU:=mw (hE ⟨12,.data⟩ (by simp) rfl)
      have mg:=mQ (hE ⟨7,.guard⟩ (by simp) rfl)
      have bAW:=(hbW.block (w.heap.size) (Array.getElem?_eq_some_iff.1 bA).1).trans bA
      have k1:W'.cell? ⟨w.heap.size,1,none⟩=some (.int .i64 st):=cA bAW 1
      have k2:W'.cell? ⟨w.heap.size,2,none⟩=some (.int .i64 en):=cA bAW 2
      rw[lU]
      rw[mg]
      rw[show Region.wanted _ _=true from rfl]
      go_simp
      exact hK.out _ _ ⟨fun m9=>if m9=13 then .agg #[.int .i64 st,.int .i64 en]else V m9,(by simp[Act.put,lU,mg]),⟨mO mq,mO mr,mO mD,mO mE,mO mF,mO mH,mO mK,mO mQ,mO mT,mO mU,mO mt,mO mu,mO mw,fun _=>rfl,mO my,mO mA⟩,hbW⟩
     ·intro L a' W' hI hLj hE K' hK
      obtain⟨V,rfl,⟨mq,mr,mD,mE,mF,mH,mK,mQ,mT,mU,mt,mu,mw,mx,my,mA⟩,hbW⟩:=hI
      have lT:=mu (hE ⟨11,.data⟩ (by simp) rfl)
      have lV:=mx (hE ⟨13,.data⟩ (by simp) rfl)
      have mg:=mQ (hE ⟨7,.guard⟩ (by simp) rfl)
      rw[lT]
      rw[lV]
      rw[mg]
      rw[show Region.wanted _ _=true from rfl]
      go_simp
      (first|(gi_at_call 71)|(refine⟨trivial,?_⟩;gi_at_call 71)|(refine⟨trivial,fun _=>(by omega),?_⟩;gi_at_call 71))
      refine(callsIn_wide.2 (iV _ HT)).mono ?_
      rintro e9 Wt ⟨rfl,hbt⟩
      (try gi_wp2_with fail)
      exact hK.out _ _ ⟨fun m9=>if m9=14 then .bool true else V m9,(by simp[Act.put,lT,lV,mg]),⟨mO mq,mO mr,mO mD,mO mE,mO mF,mO mH,mO mK,mO mQ,mO mT,mO mU,mO mt,mO mu,mO mw,mO mx,fun _=>rfl,mO mA⟩,am hbW hbt⟩
     ·intro L a' W' hI hLj hE K' hK
      obtain⟨V,rfl,⟨mq,mr,mD,mE,mF,mH,mK,mQ,mT,mU,mt,mu,mw,mx,my,mA⟩,hbW⟩:=hI
      have mg:=mQ (hE ⟨7,.data⟩ (by simp) rfl)
      have lW:=my (hE ⟨14,.data⟩ (by simp) rfl)
      rw[mg]
      rw[lW]
      go_simp
      exact hK.out _ _ ⟨fun m9=>if m9=15 then .bool true else V m9,(by simp[Act.put,mg,lW]),⟨mO mq,mO mr,mO mD,mO mE,mO mF,mO mH,mO mK,mO mQ,mO mT,mO mU,mO mt,mO mu,mO mw,mO mx,mO my,fun _=>rfl⟩,hbW⟩
    intro L a' W' hI hall
    obtain⟨V,rfl,⟨mq,mr,mD,mE,mF,mH,mK,mQ,mT,mU,mt,mu,mw,mx,my,mA⟩,hbW⟩:=hI
    have lQ:=mq (hall 0 (by decide))
    have lR:=mr (hall 1 (by decide))
    have lZ:=mD (hall 2 (by decide))
    have ma:=mE (hall 3 (by decide))
    have mc:=mF (hall 4 (by decide))
    have me:=mH (hall 5 (by decide))
    have mf:=mK (hall 6 (by decide))
    have mg:=mQ (hall 7 (by decide))
    have mh:=mT (hall 8 (by decide))
    have mi:=mU (hall 9 (by decide))
    have lS:=mt (hall 10 (by decide))
    have lT:=mu (hall 11 (by decide))
    have lU:=mw (hall 12 (by decide))
    have lV:=mx (hall 13 (by decide))
    have lW:=my (hall 14 (by decide))
    have lX:=mA (hall 15 (by decide))
    rw[lQ,lR,lZ,ma,mc,me,mf,mg,mh,mi,lS,lT,lU,lV,lW,lX]
    clear lQ mq lR mr lZ mD ma mE mc mF me mH mf mK mg mQ mh mT mi mU lS mt lT mu lU mw lV mx lW my lX mA hall
    have bS1:=(hbW.block (w.heap.size+1) (Array.getElem?_eq_some_iff.1 (ab HS)).1).trans (ab HS)
    have bA1:=(hbW.block (w.heap.size) (Array.getElem?_eq_some_iff.1 (ab HA)).1).trans (ab HA)
    have HR1:Hid (fc W' w.heap.size rv gs):=ae (aJ (ab HRow) (aB hbW) (fun _ e9=>by cases e9))
    have cv0:W'.cell? ⟨w.heap.size+1,0,none⟩=some rv:=cA bS1 0
    have zS1:w.heap.size+1<W'.heap.size:=(Array.getElem?_eq_some_iff.1 bS1).1
    have HS1:=ae bS1
    have HA1:=ae bA1
    have hB1:Below w.heap.size w W':=am hB hbW
    have zB1:=hB1.size
    clear bS1 bA1 bA
    gi_wp2_with (gi_at_builtin;go_loud (refine wpListIn_append_own _ rfl _ _ 120 rfl w.heap.size 102 i0 _ 1 8 Tryz.underlying120 hi hz0' hz1' hz2' rfl (by decide) rv gs.length (gs.map ptG) rfl (show(W'.alloc (.cells #[.pointer (some ⟨(ak x).1,0,none⟩)] 102)).ownsRow w.heap.size 102 1 rv gs.length (gs.map ptG)from World.ownsRow.alloc (ab HR1) _) ⟨W'.heap.size,0,none⟩ 1 1 [.pointer (some ⟨(ak x).1,0,none⟩)] rfl rfl (cells_newPt W' (.pointer (some ⟨(ak x).1,0,none⟩)) 102) (nT) (by unfold maxLen;omega) (by omega) (oa) ?_;intro v' w2 hown' ml _;obtain⟨g',cap',rfl⟩:=ownsRow_succ hown';have hn1:rv.ownBlock≠some (w.heap.size+1):=af (ab HR1) (ab HS1) (by decide);have hn2:rv.ownBlock≠some (w.heap.size):=af (ab HR1) (ab HA1) (by decide);have bS2:=(ml.block (w.heap.size+1) (oa) (fun e9=>hn1 e9.symm)).trans ((Below.heap_alloc _ _ _ zS1).trans (ab HS1));have bA2:=(ml.block (w.heap.size) (oa) (fun e9=>hn2 e9.symm)).trans ((Below.heap_alloc _ _ _ (by omega)).trans (ab HA1));have cv2:w2.cell? ⟨w.heap.size+1,0,none⟩=some rv:=cA bS2 0;have fv2:w2.frozen? ⟨w.heap.size+1,0,none⟩=false:=(by simp[World.frozen?,bS2]);have HO2:=ae hown';have HG2:=ae ml;have HS2:=ae bS2;have HA2:=ae bA2;clear hown' ml bS2 bA2))
    have hkp:jP W (w2.setCell ⟨w.heap.size+1,0,none⟩ (.slice (some ⟨g',0,none⟩) (gs.length+1) cap')):=(((jP.bel hbW).trans (jP.bel (aq W' _))).trans (jP.grown (ab HG2) (fun r9 e9=>own_cellsT (World.ownsRow.alloc (ab HR1) _) r9 e9))).trans (jP.set _ (ab HS2) (by decide))
    have hb2:Below w.heap.size w w2:=(ag hB1 _).grown (ab HG2) (oa) (fun k9 e9=>aE (ab HR1) k9 e9)
    refine⟨hkp.from _,hkp.kpo,.slice (some ⟨g',0,none⟩) (gs.length+1) cap',Joins.block_setCell (ab HS2) _,?_,by rw[List.length_append];simp;omega,(Below.heap_setCell _ _ _ _ (by show _≠w.heap.size+1;omega)).trans (ab HA2),av hb2 (by show w.heap.size≤w.heap.size+1;omega) _⟩
    have h9:=al (u:= .slice (some ⟨g',0,none⟩) (gs.length+1) cap') (p:=⟨w.heap.size+1,0,none⟩) (ab HO2) (af (ab HO2) (ab HS2) (by decide))
    rw[List.map_append,List.map_cons,List.map_nil,flt_sn,if_pos (ab Htou),List.map_append,ab Hgs]
    exact ownPt_snoc h9
   |false=>
    have HI1:Hid (∀W1,Below W.heap.size W W1→MetI w nn ky st en (es:=es) (pre++[x]) W1):=ae (fun W1 hb1=>⟨rv,(hb1.block (w.heap.size+1) (Array.getElem?_eq_some_iff.1 hS).1).trans hS,by
     rw[List.map_append,List.map_cons,List.map_nil,flt_sn,if_neg (by rw[ab Htou];simp),List.append_nil]
     exact aJ hrow (aB hb1) (fun _ e9=>by cases e9),by rw[List.length_append];simp;omega,(hb1.block (w.heap.size) (Array.getElem?_eq_some_iff.1 bA).1).trans bA,am hB hb1⟩)
    clear hrow hS hm hown hS0 hA0
    unfold actM
    gi_wp2
    refine bM (oc) (oc) (fun L a' W'=>∃V:Nat→Value,a'=({tmps:=#[.pointer (some ⟨Bo,0,none⟩),.agg #[.int .i64 ky,.int .i64 st,.int .i64 en],undef,.pointer (some ⟨w.heap.size,0,none⟩),.slice none 0 0,undef,undef,.pointer (some ⟨w.heap.size+1,0,none⟩),undef,.pointer (some ⟨(ak x).1,0,none⟩),.pointer (some ⟨Bo,0,none⟩),.pointer (some ⟨Bo,0,none⟩),.pointer (some ⟨Bo,0,none⟩),.pointer (some ⟨Bo,2,none⟩),.int .i64 3,.bool false,undef,undef,undef,undef,undef,undef,undef,undef,undef,undef,undef,undef,.pointer (some ⟨Bo,0,none⟩),.pointer (some ⟨Bo,0,none⟩),.pointer (some ⟨Bo,11,none⟩),.map (some mb),(.func (.func 83) #[] #[.pointer (some ⟨w.heap.size+1+1,0,none⟩)]),.agg #[.int .i64 x.1.1.1,.int .i64 x.1.1.2.1,.int .i64 x.1.1.2.2],.pointer (some ⟨(ak x).1,0,none⟩),V 0,V 1,V 2,V 3,V 4,V 5,V 6,V 7,V 8,V 9,V 10,V 11,V 12,V 13,V 14,V 15,undef,undef,undef,undef,undef],defers:=[]}:Act)∧((L 0=true→V 0= .pointer (some ⟨(ak x).1,0,none⟩))∧(L 1=true→V 1= .pointer (some ⟨(ak x).1,0,none⟩))∧(L 2=true→V 2= .pointer (some ⟨(ak x).1,0,none⟩))∧(L 3=true→V 3= .int .i64 yky)∧(L 4=true→V 4= .pointer (some ⟨w.heap.size,0,none⟩))∧(L 5=true→V 5= .int .i64 ky)∧(L 6=true→V 6= .bool true)∧(L 7=true→V 7= .bool true)∧(L 8=true→V 8= .pointer (some ⟨(ak x).1,0,none⟩))∧(L 9=true→V 9= .pointer (some ⟨(ak x).1,0,none⟩))∧(L 10=true→V 10= .pointer (some ⟨(ak x).1,1,none⟩))∧(L 11=true→V 11= .agg #[.int .i64 yst,.int .i64 yen])∧(L 12=true→V 12= .pointer (some ⟨w.heap.size,1,none⟩))∧(L 13=true→V 13= .agg #[.int .i64 st,.int .i64 en])∧(L 14=true→V 14= .bool false)∧(L 15=true→V 15= .bool false))∧Below W.heap.size W W') ?_ ?_ ?_
    ·exact⟨fun _=>undef,rfl,⟨(fun h9=>(by cases h9)),(fun h9=>(by cases h9)),(fun h9=>(by cases h9)),(fun h9=>(by cases h9)),(fun h9=>(by cases h9)),(fun h9=>(by cases h9)),(fun h9=>(by cases h9)),(fun h9=>(by cases h9)),(fun h9=>(by cases h9)),(fun h9=>(by cases h9)),(fun h9=>(by cases h9)),(fun h9=>(by cases h9)),(fun h9=>(by cases h9)),(fun h9=>(by cases h9)),(fun h9=>(by cases h9)),(fun h9=>(by cases h9))⟩,ap (Below.refl _ _)⟩
    ·refine⟨?_,?_,?_,?_,?_,?_,?_,?_,?_,?_,?_,?_,?_,?_,?_,?_,trivial⟩
     ·intro L a' W' hI hLj hE K' hK
      obtain⟨V,rfl,⟨mq,mr,mD,mE,mF,mH,mK,mQ,mT,mU,mt,mu,mw,mx,my,mA⟩,hbW⟩:=hI
      go_simp
      exact hK.out _ _ ⟨fun m9=>if m9=0 then .pointer (some ⟨(ak x).1,0,none⟩)else V m9,rfl,⟨fun _=>rfl,mO mr,mO mD,mO mE,mO mF,mO mH,mO mK,mO mQ,mO mT,mO mU,mO mt,mO mu,mO mw,mO mx,mO my,mO mA⟩,hbW⟩
     ·intro L a' W' hI hLj hE K' hK
      obtain⟨V,rfl,⟨mq,mr,mD,mE,mF,mH,mK,mQ,mT,mU,mt,mu,mw,mx,my,mA⟩,hbW⟩:=hI
      have lQ:=mq (hE ⟨0,.data⟩ (by simp) rfl)
      rw[lQ]
      go_simp
      exact hK.out _ _ ⟨fun m9=>if m9=1 then .pointer (some ⟨(ak x).1,0,none⟩)else V m9,(by simp[Act.put,lQ]),⟨mO mq,fun _=>rfl,mO mD,mO mE,mO mF,mO mH,mO mK,mO mQ,mO mT,mO mU,mO mt,mO mu,mO mw,mO mx,mO my,mO mA⟩,hbW⟩
     ·intro L a' W' hI hLj hE K' hK
      obtain⟨V,rfl,⟨mq,mr,mD,mE,mF,mH,mK,mQ,mT,mU,mt,mu,mw,mx,my,mA⟩,hbW⟩:=hI
      have lR:=mr (hE ⟨1,.data⟩ (by simp) rfl)
      rw[lR]
      go_simp
      exact hK.out _ _ ⟨fun m9=>if m9=2 then .pointer (some ⟨(ak x).1,0,none⟩)else V m9,(by simp[Act.put,lR]),⟨mO mq,mO mr,fun _=>rfl,mO mE,mO mF,mO mH,mO mK,mO mQ,mO mT,mO mU,mO mt,mO mu,mO mw,mO mx,mO my,mO mA⟩,hbW⟩
     ·intro L a' W' hI hLj hE K' hK
      obtain⟨V,rfl,⟨mq,mr,mD,mE,mF,mH,mK,mQ,mT,mU,mt,mu,mw,mx,my,mA⟩,hbW⟩:=hI
      have lZ:=mD (hE ⟨2,.data⟩ (by simp) rfl)
      have bxW:=(ab HBx).bel hbW (ab HBx).lt
      have k0:W'.cell? ⟨(ak x).1,0,none⟩=some (.int .i64 yky):=cA bxW 0
      rw[lZ]
      go_simp
      exact hK.out _ _ ⟨fun m9=>if m9=3 then .int .i64 yky else V m9,(by simp[Act.put,lZ]),⟨mO mq,mO mr,mO mD,fun _=>rfl,mO mF,mO mH,mO mK,mO mQ,mO mT,mO mU,mO mt,mO mu,mO mw,mO mx,mO my,mO mA⟩,hbW⟩
     ·intro L a' W' hI hLj hE K' hK
      obtain⟨V,rfl,⟨mq,mr,mD,mE,mF,mH,mK,mQ,mT,mU,mt,mu,mw,mx,my,mA⟩,hbW⟩:=hI
      go_simp
      exact hK.out _ _ ⟨fun m9=>if m9=4 then .pointer (some ⟨w.heap.size,0,none⟩)else V m9,rfl,⟨mO mq,mO mr,mO mD,mO mE,fun _=>rfl,mO mH,mO mK,mO mQ,mO mT,mO mU,mO mt,mO mu,mO mw,mO mx,mO my,mO mA⟩,hbW⟩
     ·intro L a' W' hI hLj hE K' hK
      obtain⟨V,rfl,⟨mq,mr,mD,mE,mF,mH,mK,mQ,mT,mU,mt,mu,mw,mx,my,mA⟩,hbW⟩:=hI
      have mc:=mF (hE ⟨4,.data⟩ (by simp) rfl)
      have bAW:=(hbW.block (w.heap.size) (Array.getElem?_eq_some_iff.1 bA).1).trans bA
      have k0:W'.cell? ⟨w.heap.size,0,none⟩=some (.int .i64 ky):=cA bAW 0
      rw[mc]
      go_simp
      exact hK.out _ _ ⟨fun m9=>if m9=5 then .int .i64 ky else V m9,(by simp[Act.put,mc]),⟨mO mq,mO mr,mO mD,mO mE,mO mF,fun _=>rfl,mO mK,mO mQ,mO mT,mO mU,mO mt,mO mu,mO mw,mO mx,mO my,mO mA⟩,hbW⟩
     ·intro L a' W' hI hLj hE K' hK
      obtain⟨V,rfl,⟨mq,mr,mD,mE,mF,mH,mK,mQ,mT,mU,mt,mu,mw,mx,my,mA⟩,hbW⟩:=hI
      have ma:=mE (hE ⟨3,.data⟩ (by simp) rfl)
      have me:=mH (hE ⟨5,.data⟩ (by simp) rfl)
      rw[ma]
      rw[me]
      go_simp
      exact hK.out _ _ ⟨fun m9=>if m9=6 then .bool true else V m9,(by simp[Act.put,ma,me]),⟨mO mq,mO mr,mO mD,mO mE,mO mF,mO mH,fun _=>rfl,mO mQ,mO mT,mO mU,mO mt,mO mu,mO mw,mO mx,mO my,mO mA⟩,hbW⟩
     ·intro L a' W' hI hLj hE K' hK
      obtain⟨V,rfl,⟨mq,mr,mD,mE,mF,mH,mK,mQ,mT,mU,mt,mu,mw,mx,my,mA⟩,hbW⟩:=hI
      have mf:=mK (hE ⟨6,.data⟩ (by simp) rfl)
      rw[mf]
      go_simp
      exact hK.out _ _ ⟨fun m9=>if m9=7 then .bool true else V m9,(by simp[Act.put,mf]),⟨mO mq,mO mr,mO mD,mO mE,mO mF,mO mH,mO mK,fun _=>rfl,mO mT,mO mU,mO mt,mO mu,mO mw,mO mx,mO my,mO mA⟩,hbW⟩
     ·intro L a' W' hI hLj hE K' hK
      obtain⟨V,rfl,⟨mq,mr,mD,mE,mF,mH,mK,mQ,mT,mU,mt,mu,mw,mx,my,mA⟩,hbW⟩:=hI
      have mg:=mQ (hE ⟨7,.guard⟩ (by simp) rfl)
      rw[mg]
      rw[show Region.wanted _ _=true from rfl]
      go_simp
      exact hK.out _ _ ⟨fun m9=>if m9=8 then .pointer (some ⟨(ak x).1,0,none⟩)else V m9,(by simp[Act.put,mg]),⟨mO mq,mO mr,mO mD,mO mE,mO mF,mO mH,mO mK,mO mQ,fun _=>rfl,mO mU,mO mt,mO mu,mO mw,mO mx,mO my,mO mA⟩,hbW⟩
     ·intro L a' W' hI hLj hE K' hK
      obtain⟨V,rfl,⟨mq,mr,mD,mE,mF,mH,mK,mQ,mT,mU,mt,mu,mw,mx,my,mA⟩,hbW⟩:=hI
      have mh:=mT (hE ⟨8,.data⟩ (by simp) rfl)
      have mg:=mQ (hE ⟨7,.guard⟩ (by simp) rfl)
      rw[mh]
      rw[mg]
      rw[show Region.wanted _ _=true from rfl]
      go_simp
      exact hK.out _ _ ⟨fun m9=>if m9=9 then .pointer (some ⟨(ak x).1,0,none⟩)else V m9,(by simp[Act.put,mh,mg]),⟨mO mq,mO mr,mO mD,mO mE,mO mF,mO mH,mO mK,mO mQ,mO mT,fun _=>rfl,mO mt,mO mu,mO mw,mO mx,mO my,mO mA⟩,hbW⟩
     ·intro L a' W' hI hLj hE K' hK
      obtain⟨V,rfl,⟨mq,mr,mD,mE,mF,mH,mK,mQ,mT,mU,mt,mu,mw,mx,my,mA⟩,hbW⟩:=hI
      have mi:=mU (hE ⟨9,.data⟩ (by simp) rfl)
      have mg:=mQ (hE ⟨7,.guard⟩ (by simp) rfl)
      rw[mi]
      rw[mg]
      rw[show Region.wanted _ _=true from rfl]
      go_simp
      exact hK.out _ _ ⟨fun m9=>if m9=10 then .pointer (some ⟨(ak x).1,1,none⟩)else V m9,(by simp[Act.put,mi,mg]),⟨mO mq,mO mr,mO mD,mO mE,mO mF,mO mH,mO mK,mO mQ,mO mT,mO mU,fun _=>rfl,mO mu,mO mw,mO mx,mO my,mO mA⟩,hbW⟩
     ·intro L a' W' hI hLj hE K' hK
      obtain⟨V,rfl,⟨mq,mr,mD,mE,mF,mH,mK,mQ,mT,mU,mt,mu,mw,mx,my,mA⟩,hbW⟩:=hI
      have lS:=mt (hE ⟨10,.data⟩ (by simp) rfl)
      have mg:=mQ (hE ⟨7,.guard⟩ (by simp) rfl)
      have bxW:=(ab HBx).bel hbW (ab HBx).lt
      have k1:W'.cell? ⟨(ak x).1,1,none⟩=some (.int .i64 yst):=cA bxW 1
      have k2:W'.cell? ⟨(ak x).1,2,none⟩=some (.int .i64 yen):=cA bxW 2
      rw[lS]
      rw[mg]
      rw[show Region.wanted _ _=true from rfl]
      go_simp
      exact hK.out _ _ ⟨fun m9=>if m9=11 then .agg #[.int .i64 yst,.int .i64 yen]else V m9,(by simp[Act.put,lS,mg]),⟨mO mq,mO mr,mO mD,mO mE,mO mF,mO mH,mO mK,mO mQ,mO mT,mO mU,mO mt,fun _=>rfl,mO mw,mO mx,mO my,mO mA⟩,hbW⟩
     ·intro L a' W' hI hLj hE K' hK
      obtain⟨V,rfl,⟨mq,mr,mD,mE,mF,mH,mK,mQ,mT,mU,mt,mu,mw,mx,my,mA⟩,hbW⟩:=hI
      have mg:=mQ (hE ⟨7,.guard⟩ (by simp) rfl)
      rw[mg]
      rw[show Region.wanted _ _=true from rfl]
      go_simp
      exact hK.out _ _ ⟨fun m9=>if m9=12 then .pointer (some ⟨w.heap.size,1,none⟩)else V m9,(by simp[Act.put,mg]),⟨mO mq,mO mr,mO mD,mO mE,mO mF,mO mH,mO mK,mO mQ,mO mT,mO mU,mO mt,mO mu,fun _=>rfl,mO mx,mO my,mO mA⟩,hbW⟩
     ·intro L a' W' hI hLj hE K' hK
      obtain⟨V,rfl,⟨mq,mr,mD,mE,mF,mH,mK,mQ,mT,mU,mt,mu,mw,mx,my,mA⟩,hbW⟩:=hI
      have lU:=mw (hE ⟨12,.data⟩ (by simp) rfl)
      have mg:=mQ (hE ⟨7,.guard⟩ (by simp) rfl)
      have bAW:=(hbW.block (w.heap.size) (Array.getElem?_eq_some_iff.1 bA).1).trans bA
      have k1:W'.cell? ⟨w.heap.size,1,none⟩=some (.int .i64 st):=cA bAW 1
      have k2:W'.cell? ⟨w.heap.size,2,none⟩=some (.int .i64 en):=cA bAW 2
      rw[lU]
      rw[mg]
      rw[show Region.wanted _ _=true from rfl]
      go_simp
      exact hK.out _ _ ⟨fun m9=>if m9=13 then .agg #[.int .i64 st,.int .i64 en]else V m9,(by simp[Act.put,lU,mg]),⟨mO mq,mO mr,mO mD,mO mE,mO mF,mO mH,mO mK,mO mQ,mO mT,mO mU,mO mt,mO mu,mO mw,fun _=>rfl,mO my,mO mA⟩,hbW⟩
     ·intro L a' W' hI hLj hE K' hK
      obtain⟨V,rfl,⟨mq,mr,mD,mE,mF,mH,mK,mQ,mT,mU,mt,mu,mw,mx,my,mA⟩,hbW⟩:=hI
      have lT:=mu (hE ⟨11,.data⟩ (by simp) rfl)
      have lV:=mx (hE ⟨13,.data⟩ (by simp) rfl)
      have mg:=mQ (hE ⟨7,.guard⟩ (by simp) rfl)
      rw[lT]
      rw[lV]
      rw[mg]
      rw[show Region.wanted _ _=true from rfl]
      go_simp
      (first|(gi_at_call 71)|(refine⟨trivial,?_⟩;gi_at_call 71)|(refine⟨trivial,fun _=>(by omega),?_⟩;gi_at_call 71))
      refine(callsIn_wide.2 (iV _ HT)).mono ?_
      rintro e9 Wt ⟨rfl,hbt⟩
      (try gi_wp2_with fail)
      exact hK.out _ _ ⟨fun m9=>if m9=14 then .bool false else V m9,(by simp[Act.put,lT,lV,mg]),⟨mO mq,mO mr,mO mD,mO mE,mO mF,mO mH,mO mK,mO mQ,mO mT,mO mU,mO mt,mO mu,mO mw,mO mx,fun _=>rfl,mO mA⟩,am hbW hbt⟩
     ·intro L a' W' hI hLj hE K' hK
      obtain⟨V,rfl,⟨mq,mr,mD,mE,mF,mH,mK,mQ,mT,mU,mt,mu,mw,mx,my,mA⟩,hbW⟩:=hI
      have mg:=mQ (hE ⟨7,.data⟩ (by simp) rfl)
      have lW:=my (hE ⟨14,.data⟩ (by simp) rfl)
      rw[mg]
      rw[lW]
      go_simp
      exact hK.out _ _ ⟨fun m9=>if m9=15 then .bool false else V m9,(by simp[Act.put,mg,lW]),⟨mO mq,mO mr,mO mD,mO mE,mO mF,mO mH,mO mK,mO mQ,mO mT,mO mU,mO mt,mO mu,mO mw,mO mx,mO my,fun _=>rfl⟩,hbW⟩
    intro L a' W' hI hall
    obtain⟨V,rfl,⟨mq,mr,mD,mE,mF,mH,mK,mQ,mT,mU,mt,mu,mw,mx,my,mA⟩,hbW⟩:=hI
    have lQ:=mq (hall 0 (by decide))
    have lR:=mr (hall 1 (by decide))
    have lZ:=mD (hall 2 (by decide))
    have ma:=mE (hall 3 (by decide))
    have mc:=mF (hall 4 (by decide))
    have me:=mH (hall 5 (by decide))
    have mf:=mK (hall 6 (by decide))
    have mg:=mQ (hall 7 (by decide))
    have mh:=mT (hall 8 (by decide))
    have mi:=mU (hall 9 (by decide))
    have lS:=mt (hall 10 (by decide))
    have lT:=mu (hall 11 (by decide))
    have lU:=mw (hall 12 (by decide))
    have lV:=mx (hall 13 (by decide))
    have lW:=my (hall 14 (by decide))
    have lX:=mA (hall 15 (by decide))
    rw[lQ,lR,lZ,ma,mc,me,mf,mg,mh,mi,lS,lT,lU,lV,lW,lX]
    clear lQ mq lR mr lZ mD ma mE mc mF me mH mf mK mg mQ mh mT mi mU lS mt lT mu lU mw lV mx lW my lX mA hall
    gi_wp2
    exact⟨(jP.bel hbW).from _,(jP.bel hbW).kpo,ab HI1 _ hbW⟩
  ·have kb:(yky==ky)=false:=by simp[k1]
   have ke:decide (yky=ky)=false:=by simp[k1]
   have Htou:Hid (bw ky st en (ak x).2=false):=ae (by rw[ab Hy];unfold bw;rw[show decide (yky=ky)=false from ke,Bool.false_and])
   clear k1
   have HI1:Hid (∀W1,Below W.heap.size W W1→MetI w nn ky st en (es:=es) (pre++[x]) W1):=ae (fun W1 hb1=>⟨rv,(hb1.block (w.heap.size+1) (Array.getElem?_eq_some_iff.1 hS).1).trans hS,by
    rw[List.map_append,List.map_cons,List.map_nil,flt_sn,if_neg (by rw[ab Htou];simp),List.append_nil]
    exact aJ hrow (aB hb1) (fun _ e9=>by cases e9),by rw[List.length_append];simp;omega,(hb1.block (w.heap.size) (Array.getElem?_eq_some_iff.1 bA).1).trans bA,am hB hb1⟩)
   clear hrow hS hm hown hS0 hA0
   unfold actM
   gi_wp2
   refine bM (oc) (oc) (fun L a' W'=>∃V:Nat→Value,a'=({tmps:=#[.pointer (some ⟨Bo,0,none⟩),.agg #[.int .i64 ky,.int .i64 st,.int .i64 en],undef,.pointer (some ⟨w.heap.size,0,none⟩),.slice none 0 0,undef,undef,.pointer (some ⟨w.heap.size+1,0,none⟩),undef,.pointer (some ⟨(ak x).1,0,none⟩),.pointer (some ⟨Bo,0,none⟩),.pointer (some ⟨Bo,0,none⟩),.pointer (some ⟨Bo,0,none⟩),.pointer (some ⟨Bo,2,none⟩),.int .i64 3,.bool false,undef,undef,undef,undef,undef,undef,undef,undef,undef,undef,undef,undef,.pointer (some ⟨Bo,0,none⟩),.pointer (some ⟨Bo,0,none⟩),.pointer (some ⟨Bo,11,none⟩),.map (some mb),(.func (.func 83) #[] #[.pointer (some ⟨w.heap.size+1+1,0,none⟩)]),.agg #[.int .i64 x.1.1.1,.int .i64 x.1.1.2.1,.int .i64 x.1.1.2.2],.pointer (some ⟨(ak x).1,0,none⟩),V 0,V 1,V 2,V 3,V 4,V 5,V 6,V 7,V 8,V 9,V 10,V 11,V 12,V 13,V 14,V 15,undef,undef,undef,undef,undef],defers:=[]}:Act)∧((L 0=true→V 0= .pointer (some ⟨(ak x).1,0,none⟩))∧(L 1=true→V 1= .pointer (some ⟨(ak x).1,0,none⟩))∧(L 2=true→V 2= .pointer (some ⟨(ak x).1,0,none⟩))∧(L 3=true→V 3= .int .i64 yky)∧(L 4=true→V 4= .pointer (some ⟨w.heap.size,0,none⟩))∧(L 5=true→V 5= .int .i64 ky)∧(L 6=true→V 6= .bool false)∧(L 7=true→V 7= .bool false)∧(L 8=true→V 8=undef)∧(L 9=true→V 9=undef)∧(L 10=true→V 10=undef)∧(L 11=true→V 11=undef)∧(L 12=true→V 12=undef)∧(L 13=true→V 13=undef)∧(L 14=true→V 14=undef)∧(L 15=true→V 15= .bool false))∧Below W.heap.size W W') ?_ ?_ ?_
   ·exact⟨fun _=>undef,rfl,⟨(fun h9=>(by cases h9)),(fun h9=>(by cases h9)),(fun h9=>(by cases h9)),(fun h9=>(by cases h9)),(fun h9=>(by cases h9)),(fun h9=>(by cases h9)),(fun h9=>(by cases h9)),(fun h9=>(by cases h9)),(fun h9=>(by cases h9)),(fun h9=>(by cases h9)),(fun h9=>(by cases h9)),(fun h9=>(by cases h9)),(fun h9=>(by cases h9)),(fun h9=>(by cases h9)),(fun h9=>(by cases h9)),(fun h9=>(by cases h9))⟩,ap (Below.refl _ _)⟩
   ·refine⟨?_,?_,?_,?_,?_,?_,?_,?_,?_,?_,?_,?_,?_,?_,?_,?_,trivial⟩
    ·intro L a' W' hI hLj hE K' hK
     obtain⟨V,rfl,⟨mq,mr,mD,mE,mF,mH,mK,mQ,mT,mU,mt,mu,mw,mx,my,mA⟩,hbW⟩:=hI
     go_simp
     exact hK.out _ _ ⟨fun m9=>if m9=0 then .pointer (some ⟨(ak x).1,0,none⟩)else V m9,rfl,⟨fun _=>rfl,mO mr,mO mD,mO mE,mO mF,mO mH,mO mK,mO mQ,mO mT,mO mU,mO mt,mO mu,mO mw,mO mx,mO my,mO mA⟩,hbW⟩
    ·intro L a' W' hI hLj hE K' hK
     obtain⟨V,rfl,⟨mq,mr,mD,mE,mF,mH,mK,mQ,mT,mU,mt,mu,mw,mx,my,mA⟩,hbW⟩:=hI
     have lQ:=mq (hE ⟨0,.data⟩ (by simp) rfl)
     rw[lQ]
     go_simp
     exact hK.out _ _ ⟨fun m9=>if m9=1 then .pointer (some ⟨(ak x).1,0,none⟩)else V m9,(by simp[Act.put,lQ]),⟨mO mq,fun _=>rfl,mO mD,mO mE,mO mF,mO mH,mO mK,mO mQ,mO mT,mO mU,mO mt,mO mu,mO mw,mO mx,mO my,mO mA⟩,hbW⟩
    ·intro L a' W' hI hLj hE K' hK
     obtain⟨V,rfl,⟨mq,mr,mD,mE,mF,mH,mK,mQ,mT,mU,mt,mu,mw,mx,my,mA⟩,hbW⟩:=hI
     have lR:=mr (hE ⟨1,.data⟩ (by simp) rfl)
     rw[lR]
     go_simp
     exact hK.out _ _ ⟨fun m9=>if m9=2 then .pointer (some ⟨(ak x).1,0,none⟩)else V m9,(by simp[Act.put,lR]),⟨mO mq,mO mr,fun _=>rfl,mO mE,mO mF,mO mH,mO mK,mO mQ,mO mT,mO mU,mO mt,mO mu,mO mw,mO mx,mO my,mO mA⟩,hbW⟩
    ·intro L a' W' hI hLj hE K' hK
     obtain⟨V,rfl,⟨mq,mr,mD,mE,mF,mH,mK,mQ,mT,mU,mt,mu,mw,mx,my,mA⟩,hbW⟩:=hI
     have lZ:=mD (hE ⟨2,.data⟩ (by simp) rfl)
     have bxW:=(ab HBx).bel hbW (ab HBx).lt
     have k0:W'.cell? ⟨(ak x).1,0,none⟩=some (.int .i64 yky):=cA bxW 0
     rw[lZ]
     go_simp
     exact hK.out _ _ ⟨fun m9=>if m9=3 then .int .i64 yky else V m9,(by simp[Act.put,lZ]),⟨mO mq,mO mr,mO mD,fun _=>rfl,mO mF,mO mH,mO mK,mO mQ,mO mT,mO mU,mO mt,mO mu,mO mw,mO mx,mO my,mO mA⟩,hbW⟩
    ·intro L a' W' hI hLj hE K' hK
     obtain⟨V,rfl,⟨mq,mr,mD,mE,mF,mH,mK,mQ,mT,mU,mt,mu,mw,mx,my,mA⟩,hbW⟩:=hI
     go_simp
     exact hK.out _ _ ⟨fun m9=>if m9=4 then .pointer (some ⟨w.heap.size,0,none⟩)else V m9,rfl,⟨mO mq,mO mr,mO mD,mO mE,fun _=>rfl,mO mH,mO mK,mO mQ,mO mT,mO mU,mO mt,mO mu,mO mw,mO mx,mO my,mO mA⟩,hbW⟩
    ·intro L a' W' hI hLj hE K' hK
     obtain⟨V,rfl,⟨mq,mr,mD,mE,mF,mH,mK,mQ,mT,mU,mt,mu,mw,mx,my,mA⟩,hbW⟩:=hI
     have mc:=mF (hE ⟨4,.data⟩ (by simp) rfl)
     have bAW:=(hbW.block (w.heap.size) (Array.getElem?_eq_some_iff.1 bA).1).trans bA
     have k0:W'.cell? ⟨w.heap.size,0,none⟩=some (.int .i64 ky):=cA bAW 0
     rw[mc]
     go_simp
     exact hK.out _ _ ⟨fun m9=>if m9=5 then .int .i64 ky else V m9,(by simp[Act.put,mc]),⟨mO mq,mO mr,mO mD,mO mE,mO mF,fun _=>rfl,mO mK,mO mQ,mO mT,mO mU,mO mt,mO mu,mO mw,mO mx,mO my,mO mA⟩,hbW⟩
    ·intro L a' W' hI hLj hE K' hK
     obtain⟨V,rfl,⟨mq,mr,mD,mE,mF,mH,mK,mQ,mT,mU,mt,mu,mw,mx,my,mA⟩,hbW⟩:=hI
     have ma:=mE (hE ⟨3,.data⟩ (by simp) rfl)
     have me:=mH (hE ⟨5,.data⟩ (by simp) rfl)
     rw[ma]
     rw[me]
     go_simp
     exact hK.out _ _ ⟨fun m9=>if m9=6 then .bool false else V m9,(by simp[Act.put,ma,me]),⟨mO mq,mO mr,mO mD,mO mE,mO mF,mO mH,fun _=>rfl,mO mQ,mO mT,mO mU,mO mt,mO mu,mO mw,mO mx,mO my,mO mA⟩,hbW⟩
    ·intro L a' W' hI hLj hE K' hK
     obtain⟨V,rfl,⟨mq,mr,mD,mE,mF,mH,mK,mQ,mT,mU,mt,mu,mw,mx,my,mA⟩,hbW⟩:=hI
     have mf:=mK (hE ⟨6,.data⟩ (by simp) rfl)
     rw[mf]
     go_simp
     exact hK.out _ _ ⟨fun m9=>if m9=7 then .bool false else V m9,(by simp[Act.put,mf]),⟨mO mq,mO mr,mO mD,mO mE,mO mF,mO mH,mO mK,fun _=>rfl,mO mT,mO mU,mO mt,mO mu,mO mw,mO mx,mO my,mO mA⟩,hbW⟩
    ·intro L a' W' hI hLj hE K' hK
     obtain⟨V,rfl,⟨mq,mr,mD,mE,mF,mH,mK,mQ,mT,mU,mt,mu,mw,mx,my,mA⟩,hbW⟩:=hI
     have mg:=mQ (hE ⟨7,.guard⟩ (by simp) rfl)
     rw[mg]
     rw[show Region.wanted _ _=false from rfl]
     refine⟨fun _ _=>trivial,hK.out _ _ ⟨fun m9=>if m9=8 then undef else V m9,(by simp[Act.put,mg]),⟨mO mq,mO mr,mO mD,mO mE,mO mF,mO mH,mO mK,mO mQ,fun _=>rfl,mO mU,mO mt,mO mu,mO mw,mO mx,mO my,mO mA⟩,hbW⟩⟩
    ·intro L a' W' hI hLj hE K' hK
     obtain⟨V,rfl,⟨mq,mr,mD,mE,mF,mH,mK,mQ,mT,mU,mt,mu,mw,mx,my,mA⟩,hbW⟩:=hI
     have mh:=mT (hE ⟨8,.data⟩ (by simp) rfl)
     have mg:=mQ (hE ⟨7,.guard⟩ (by simp) rfl)
     rw[mh]
     rw[mg]
     rw[show Region.wanted _ _=false from rfl]
     refine⟨fun _ _=>trivial,hK.out _ _ ⟨fun m9=>if m9=9 then undef else V m9,(by simp[Act.put,mh,mg]),⟨mO mq,mO mr,mO mD,mO mE,mO mF,mO mH,mO mK,mO mQ,mO mT,fun _=>rfl,mO mt,mO mu,mO mw,mO mx,mO my,mO mA⟩,hbW⟩⟩
    ·intro L a' W' hI hLj hE K' hK
     obtain⟨V,rfl,⟨mq,mr,mD,mE,mF,mH,mK,mQ,mT,mU,mt,mu,mw,mx,my,mA⟩,hbW⟩:=hI
     have mi:=mU (hE ⟨9,.data⟩ (by simp) rfl)
     have mg:=mQ (hE ⟨7,.guard⟩ (by simp) rfl)
     rw[mi]
     rw[mg]
     rw[show Region.wanted _ _=false from rfl]
     refine⟨fun _ _=>trivial,hK.out _ _ ⟨fun m9=>if m9=10 then undef else V m9,(by simp[Act.put,mi,mg]),⟨mO mq,mO mr,mO mD,mO mE,mO mF,mO mH,mO mK,mO mQ,mO mT,mO mU,fun _=>rfl,mO mu,mO mw,mO mx,mO my,mO mA⟩,hbW⟩⟩
    ·intro L a' W' hI hLj hE K' hK
     obtain⟨V,rfl,⟨mq,mr,mD,mE,mF,mH,mK,mQ,mT,mU,mt,mu,mw,mx,my,mA⟩,hbW⟩:=hI
     have lS:=mt (hE ⟨10,.data⟩ (by simp) rfl)
     have mg:=mQ (hE ⟨7,.guard⟩ (by simp) rfl)
     have bxW:=(ab HBx).bel hbW (ab HBx).lt
     have k1:W'.cell? ⟨(ak x).1,1,none⟩=some (.int .i64 yst):=cA bxW 1
     have k2:W'.cell? ⟨(ak x).1,2,none⟩=some (.int .i64 yen):=cA bxW 2
     rw[lS]
     rw[mg]
     rw[show Region.wanted _ _=false from rfl]
     refine⟨fun _ _=>trivial,hK.out _ _ ⟨fun m9=>if m9=11 then undef else V m9,(by simp[Act.put,lS,mg]),⟨mO mq,mO mr,mO mD,mO mE,mO mF,mO mH,mO mK,mO mQ,mO mT,mO mU,mO mt,fun _=>rfl,mO mw,mO mx,mO my,mO mA⟩,hbW⟩⟩
    ·intro L a' W' hI hLj hE K' hK
     obtain⟨V,rfl,⟨mq,mr,mD,mE,mF,mH,mK,mQ,mT,mU,mt,mu,mw,mx,my,mA⟩,hbW⟩:=hI
     have mg:=mQ (hE ⟨7,.guard⟩ (by simp) rfl)
     rw[mg]
     rw[show Region.wanted _ _=false from rfl]
     refine⟨fun _ _=>trivial,hK.out _ _ ⟨fun m9=>if m9=12 then undef else V m9,(by simp[Act.put,mg]),⟨mO mq,mO mr,mO mD,mO mE,mO mF,mO mH,mO mK,mO mQ,mO mT,mO mU,mO mt,mO mu,fun _=>rfl,mO mx,mO my,mO mA⟩,hbW⟩⟩
    ·intro L a' W' hI hLj hE K' hK
     obtain⟨V,rfl,⟨mq,mr,mD,mE,mF,mH,mK,mQ,mT,mU,mt,mu,mw,mx,my,mA⟩,hbW⟩:=hI
     have lU:=mw (hE ⟨12,.data⟩ (by simp) rfl)
     have mg:=mQ (hE ⟨7,.guard⟩ (by simp) rfl)
     have bAW:=(hbW.block (w.heap.size) (Array.getElem?_eq_some_iff.1 bA).1).trans bA
     have k1:W'.cell? ⟨w.heap.size,1,none⟩=some (.int .i64 st):=cA bAW 1
     have k2:W'.cell? ⟨w.heap.size,2,none⟩=some (.int .i64 en):=cA bAW 2
     rw[lU]
     rw[mg]
     rw[show Region.wanted _ _=false from rfl]
     refine⟨fun _ _=>trivial,hK.out _ _ ⟨fun m9=>if m9=13 then undef else V m9,(by simp[Act.put,lU,mg]),⟨mO mq,mO mr,mO mD,mO mE,mO mF,mO mH,mO mK,mO mQ,mO mT,mO mU,mO mt,mO mu,mO mw,fun _=>rfl,mO my,mO mA⟩,hbW⟩⟩
    ·intro L a' W' hI hLj hE K' hK
     obtain⟨V,rfl,⟨mq,mr,mD,mE,mF,mH,mK,mQ,mT,mU,mt,mu,mw,mx,my,mA⟩,hbW⟩:=hI
     have lT:=mu (hE ⟨11,.data⟩ (by simp) rfl)
     have lV:=mx (hE ⟨13,.data⟩ (by simp) rfl)
     have mg:=mQ (hE ⟨7,.guard⟩ (by simp) rfl)
     rw[lT]
     rw[lV]
     rw[mg]
     rw[show Region.wanted _ _=false from rfl]
     refine⟨fun _ _=>trivial,hK.out _ _ ⟨fun m9=>if m9=14 then undef else V m9,(by simp[Act.put,lT,lV,mg]),⟨mO mq,mO mr,mO mD,mO mE,mO mF,mO mH,mO mK,mO mQ,mO mT,mO mU,mO mt,mO mu,mO mw,mO mx,fun _=>rfl,mO mA⟩,hbW⟩⟩
    ·intro L a' W' hI hLj hE K' hK
     obtain⟨V,rfl,⟨mq,mr,mD,mE,mF,mH,mK,mQ,mT,mU,mt,mu,mw,mx,my,mA⟩,hbW⟩:=hI
     have mg:=mQ (hE ⟨7,.data⟩ (by simp) rfl)
     have lW:=my (hE ⟨14,.data⟩ (by simp) rfl)
     rw[mg]
     rw[lW]
     go_simp
     exact hK.out _ _ ⟨fun m9=>if m9=15 then .bool false else V m9,(by simp[Act.put,mg,lW]),⟨mO mq,mO mr,mO mD,mO mE,mO mF,mO mH,mO mK,mO mQ,mO mT,mO mU,mO mt,mO mu,mO mw,mO mx,mO my,fun _=>rfl⟩,hbW⟩
   intro L a' W' hI hall
   obtain⟨V,rfl,⟨mq,mr,mD,mE,mF,mH,mK,mQ,mT,mU,mt,mu,mw,mx,my,mA⟩,hbW⟩:=hI
   have lQ:=mq (hall 0 (by decide))
   have lR:=mr (hall 1 (by decide))
   have lZ:=mD (hall 2 (by decide))
   have ma:=mE (hall 3 (by decide))
   have mc:=mF (hall 4 (by decide))
   have me:=mH (hall 5 (by decide))
   have mf:=mK (hall 6 (by decide))
   have mg:=mQ (hall 7 (by decide))
   have mh:=mT (hall 8 (by decide))
   have mi:=mU (hall 9 (by decide))
   have lS:=mt (hall 10 (by decide))
   have lT:=mu (hall 11 (by decide))
   have lU:=mw (hall 12 (by decide))
   have lV:=mx (hall 13 (by decide))
   have lW:=my (hall 14 (by decide))
   have lX:=mA (hall 15 (by decide))
   rw[lQ,lR,lZ,ma,mc,me,mf,mg,mh,mi,lS,lT,lU,lV,lW,lX]
   clear lQ mq lR mr lZ mD ma mE mc mF me mH mf mK mg mQ mh mT mi mU lS mt lT mu lU mw lV mx lW my lX mA hall
   gi_wp2
   exact⟨(jP.bel hbW).from _,(jP.bel hbW).kpo,ab HI1 _ hbW⟩
 case done=>
  rintro D ys W hD hys ⟨rv,hS,hrow,hpn,bA,hB⟩ hK
  have hyE:=inO hrise hok hys
  rw[hyE]at hrow
  have cv:W.cell? ⟨w.heap.size+1,0,none⟩=some rv:=cA hS 0
  have HR1:=ae hrow
  clear hrow
  gi_wp2
  refine⟨by simp,.inl ⟨_,_,rfl,run_takeDeferred hK,?_⟩⟩
  exact⟨_,results_tmp rfl _ _ _,rv,rfl,ownsRow_putObj (ab HR1) _ hK rfl,hB.trans (belowK_b (w:=w) (Nat.le_refl _) W D _ _ (by simp at hD;omega) hK rfl rfl)⟩
 case stop=>
  rintro D c pre W _ _ hx _
  exact hx.elim
end Go.Proofs.YtdmhihcipkhecaaGreat
