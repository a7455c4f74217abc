/- Laid together: what the claim needs of the texts that were built one by one. -/
import Derived.Test.YtealpjmannopeaaGreatX19
import Derived.Test.YtealpjmannopeaaGreatX1
import Derived.Test.YtealpjmannopeaaGreatX2
import Derived.Maps.AppendAt
import Derived.Test.YtealpjmannopeaaGreatX0
import Derived.Test.YtealpjmannopeaaGreatX14
import Derived.RangeFuncNested
import Derived.RangeFuncBound
import Derived.RangeFuncCalls
import Derived.RangeFuncLeaves
import Derived.RangeFuncBox
import Derived.Shelf.Abstract
import Derived.Shelf.RegionOpen
import Derived.WalkKit
import Derived.OwnWalkIn
import Derived.TacticsInMore
import Derived.LoopNIn
import Derived.LoopIn
import Derived.OwnWalk
import Derived.Test.YtealpjmannopeaaGreatX15
set_option linter.unusedVariables false
namespace Go.Proofs.YtealpjmannopeaaGreat
open Go.ChangeShapes Go.WideShapes Go.ChangeAt Go.RowKit Go.Deep
set_option linter.unusedSimpArgs false
/-- A slice that is nil may be put behind one that the call owns: nothing turns. -/
theorem app_nil{P:Program}{w:World}{base:Nat}{t ty e:TypeId}{i:TypeInfo}{size n c:Nat}{v:Value}{xs:List Value}(ht:P.underlying t=some (.slice e))(hi:P.info? e=some i)(hown:w.ownsRow base e size v n xs):(Builtin.append_ #[t,t] ty #[v,.slice none 0 c]).run P w= .ok v w:=by
 obtain⟨_,⟨rfl,rfl⟩|⟨g,cap,cur,rfl,_,_,hnc,_⟩⟩:=hown
 ·simp[Builtin.append_,run_underlying ht,sizeOf,typeInfo,hi,Builtin.lenOf,Builtin.firstCells]
 ·simp[Builtin.append_,run_underlying ht,sizeOf,typeInfo,hi,Builtin.lenOf,Builtin.firstCells,hnc,storeCells]
/-- Rows, nil or not, are put behind those that the call owns. -/
theorem wp_app{P:Program}{w:World}{ops:Array Oper}{rest:List Oper}{o:Oper}{a:Act}{Q:Exit→Act→World→Prop}(hgd:o.guard=none)(s x:Operand)(t:TypeId)(ho:o.op= .call {callee:= .builtin .append,args:=#[s,x],argTypes:=#[t,t]})(base:Nat)(e:TypeId)(i:TypeInfo)(z:Value)(size bytes:Nat)(ht:P.underlying t=some (.slice e))(hi:P.info? e=some i)(hz:i.zero=some z)(hsize:i.size=size)(hby:i.bytes=bytes)(hzs:z.cells.size=size)(hsz:0<size)(v:Value)(n:Nat)(xs:List Value)(hs:a.eval s=v)(hown:w.ownsRow base e size v n xs)(ad:Option Addr)(m c:Nat)(news:List Value)(hx:a.eval x= .slice ad m c)(hl:news.length=m*size)(hnil:ad=none→m=0)(hnews:∀q,ad=some q→∀j u,news[j]? =some u→w.cell? (q.add j)=some u)(h1:∀u ∈ news,u.oneCell'=true)(h63:n+m≤maxLen)(hbytes:(n+m)*bytes≤140737488355328)(hbase:base≤w.heap.size)
  (h:∀v' w',w'.ownsRow base e size v' (n+m) (xs++news)→w.grownBy w' v.ownBlock→wpList P ops Q rest (a.put o.dst v') w'):wpList P ops Q (o :: rest) a w:=by
 cases ad with
 |none=>
  obtain rfl:=hnil rfl
  have hnn:news=[]:=List.eq_nil_of_length_eq_zero (by omega)
  subst hnn
  refine wpList_plain hgd fun _ hK=>?_
  have hr:=app_nil (P:=P) (w:=w) (t:=t) (ty:=o.type) (c:=c) ht hi hown
  have h9:=h v w (by rw[List.append_nil];exact hown) ⟨rfl,rfl,rfl,Nat.le_refl _,fun _ _ _=>rfl⟩
  unfold Oper.wp execOp
  simp only[ho,resolve,invoke,builtin,Sem.run_bind,Sem.run_pure,Result.andThen_ok,List.map_toArray,List.map_cons,List.map_nil,hs,hx,hr]
  exact hK _ _ h9
 |some q=>
  refine wpList_plain hgd fun _ hK=>?_
  obtain⟨v',w',hr,h2,h3,_,h4⟩:=run_append_own_at (P:=P) w base t o.type e i z size bytes ht hi hz hsize hby hzs hsz v n xs hown q m c news hl (hnews q rfl) h1 h63 hbytes hbase
  unfold Oper.wp execOp
  simp only[ho,resolve,invoke,builtin,Sem.run_bind,Sem.run_pure,Result.andThen_ok,List.map_toArray,List.map_cons,List.map_nil,hs,hx,hr]
  exact hK _ _ (h v' w' h2 h3)
theorem own_upF{W W':World}{B:Nat}{e:TypeId}{size n:Nat}{v:Value}{xs:List Value}(h:W.ownsRow B e size v n xs)(hb:∀b,v.ownBlock=some b→W'.heap[b]? =W.heap[b]?):W'.ownsRow B e size v n xs:=by
 rcases h with⟨hl,h|⟨g,cap,cur,rfl,hB,hblk,r⟩⟩
 ·exact⟨hl,Or.inl h⟩
 ·exact⟨hl,Or.inr ⟨g,cap,cur,rfl,hB,(hb g rfl).trans hblk,r⟩⟩
theorem jx{W:World}{B size n:Nat}{e:TypeId}{v:Value}{ys:List Value}(h:W.ownsRow B e size v n ys):∀b,v.ownBlock=some b→B≤b∧b<W.heap.size:=by
 intro b hb
 obtain⟨_,⟨rfl,_⟩|⟨g,cap,cur,rfl,hB,hblk,_⟩⟩:=h
 ·cases hb
 ·cases hb
  exact⟨hB,(Array.getElem?_eq_some_iff.1 hblk).1⟩
theorem fw{W:World}{B B' size n:Nat}{e:TypeId}{v:Value}{ys:List Value}(h:W.ownsRow B e size v n ys)(hB:B'≤B):W.ownsRow B' e size v n ys:=by
 rcases h with⟨hl,h|⟨g,cap,cur,rfl,hg,r⟩⟩
 ·exact⟨hl,Or.inl h⟩
 ·exact⟨hl,Or.inr ⟨g,cap,cur,rfl,Nat.le_trans hB hg,r⟩⟩
theorem gc{W W':World}{B:Nat}{e:TypeId}{size n:Nat}{v:Value}{xs:List Value}(h:W.ownsRow B e size v n xs)(hb:Below W.heap.size W W'):W'.ownsRow B e size v n xs:=own_upF h (fun b e9=>hb.block b (jx h b e9).2)
theorem addrF(g o j:Nat):((⟨g,o,none⟩:Addr).add j)=⟨g,o+j,none⟩:=by
 unfold Addr.add
 split
 ·rename_i h0;rw[h0];rfl
 ·rfl
theorem oneFIw(xs:List bF):∀u ∈ bk xs,u.oneCell'=true:=by
 intro u hu
 simp only[bk,List.mem_flatMap]at hu
 obtain⟨x,_,hx⟩:=hu
 simp[bF.cells]at hx
 rcases hx with rfl|rfl|rfl|rfl|rfl<;>rfl
theorem appFIw{W:World}{B:Nat}{v:Value}{xs ys:List bF}(h:W.ownsRow B 101 5 v (xs.length+ys.length) (bk xs++bk ys)):eh W B v (xs++ys):=by
 unfold eh
 rw[List.length_append,show bk (xs++ys)=bk xs++bk ys from by simp[bk]]
 exact h
theorem newsFIw{W:World}{a:Option Addr}{n:Nat}{xs:List bF}(h:bG W a n xs)(q:Addr)(ha:a=some q):∀j u,(bk xs)[j]? =some u→W.cell? (q.add j)=some u:=by
 intro j u hu
 obtain⟨h1,_,h3⟩:=h
 have hj:j<xs.length*5:=by rw[←fL];exact(List.getElem?_eq_some_iff.1 hu).1
 have hi:j / 5<xs.length:=by omega
 obtain⟨g,o,e,hat⟩:=h3.resolve_left (by omega)
 rw[ha]at e
 cases e
 rw[addrF]
 obtain⟨x,hx⟩:∃x,xs[j / 5]? =some x:=⟨_,List.getElem?_eq_getElem hi⟩
 obtain⟨f0,f1,f2,f3,f4⟩:=gR hx
 obtain⟨c0,c1,c2,c3,c4⟩:=hat (j / 5) x hx
 have hmod:j=j / 5*5∨j=j / 5*5+1∨j=j / 5*5+2∨j=j / 5*5+3∨j=j / 5*5+4:=by omega
 rcases hmod with hj|hj|hj|hj|hj
 ·rw[hj,f0]at hu;cases hu;rw[hj];exact c0
 ·rw[hj,f1]at hu;cases hu;rw[hj,←Nat.add_assoc];exact c1
 ·rw[hj,f2]at hu;cases hu;rw[hj,←Nat.add_assoc];exact c2
 ·rw[hj,f3]at hu;cases hu;rw[hj,←Nat.add_assoc];exact c3
 ·rw[hj,f4]at hu;cases hu;rw[hj,←Nat.add_assoc];exact c4
end Go.Proofs.YtealpjmannopeaaGreat
namespace Go.Proofs.YtealpjmannopeaaGreat
open Go.ChangeShapes Go.WideShapes Go.ChangeAt Go.RowKit
/-- Whether an item may follow in a log behind a mark; the mark behind it. -/
def cG(q t k v n m:Int):Bool:=if q=1 then bP t k v n else if q=2 then aS t k v n&&decide (m<t)else false
def dT(q t m:Int):Int:=if q=2 then hiI m t else m
theorem iw(q t k v n m:Int)(w:World):Calls Tryz.prog 163 #[cm q t k v n,.int .i64 m] w fun e w'=>e= .returned (.bool (cG q t k v n m))∧Below w.heap.size w w':=by
 by_cases h1:q=1
 ·subst h1
  rw[jm]
  have rR:=taRR
  have mR:=taRM
  have hq:Hid (cG 1 t k v n m=bP t k v n):=ab rfl
  go_enter Tryz.func163,Tryz.ntmps163
  go_wp2_with (go_at_call 185;refine(iV _ _ _ _ _ _).mono ?_;rintro e w' ⟨rfl,hb⟩)
  go_ret
  exact⟨af (aa hq).symm,(aL)⟩
 by_cases h2:q=2
 ·subst h2
  rw[jn]
  have rM:=taMR
  have mM:=taMM
  cases ho:aS t k v n
  ·have hq:Hid (cG 2 t k v n m=false):=ab (by show(aS t k v n&&decide (m<t))=false;rw[ho];rfl)
   go_enter Tryz.func163,Tryz.ntmps163
   go_wp2_with (first
    |(go_at_call 186;refine(fO _ _ _ _ _ _).mono ?_;rintro e w' ⟨rfl,hb⟩;obtain⟨hc,hf,hs⟩:=ac hb;(try have hz0:=zA hb w.heap.size)))
   go_ret
   exact⟨af (aa hq).symm,(aL)⟩
  ·have hq:Hid (cG 2 t k v n m=decide (m<t)):=ab (by show(aS t k v n&&decide (m<t))=_;rw[ho];rfl)
   go_enter Tryz.func163,Tryz.ntmps163
   go_wp2_with (first
    |(go_at_call 186;refine(fO _ _ _ _ _ _).mono ?_;rintro e w' ⟨rfl,hb⟩;obtain⟨hc,hf,hs⟩:=ac hb;(try have hz0:=zA hb w.heap.size)))
   go_ret
   exact⟨af (aa hq).symm,(aL)⟩
 have hq:Hid (cG q t k v n m=false):=ab (by unfold cG;rw[if_neg h1,if_neg h2])
 by_cases h3:q=3
 ·subst h3
  rw[jo]
  have rW:=taWR
  have mW:=taWM
  go_enter Tryz.func163,Tryz.ntmps163
  go_wp2
  go_ret
  exact⟨af (aa hq).symm,(aL)⟩
 ·rw[jp h1 h2 h3]
  have rN:=taNR
  have mN:=taNM
  clear h1 h2 h3
  go_enter Tryz.func163,Tryz.ntmps163
  go_wp2
  go_ret
  exact⟨af (aa hq).symm,(aL)⟩
theorem lbehind_any(q t k v n m:Int)(w:World):Calls Tryz.prog 164 #[cm q t k v n,.int .i64 m] w fun e w'=>e= .returned (.int .i64 (dT q t m))∧Below w.heap.size w w':=by
 by_cases h2:q=2
 ·subst h2
  rw[jn]
  have rM:=taMR
  have mM:=taMM
  by_cases h4:m<t
  ·have hq:Hid (dT 2 t m=t):=ab (hiI_d h4)
   go_enter Tryz.func164,Tryz.ntmps164
   go_wp2
   go_ret
   exact⟨db (aa hq).symm,(aL)⟩
  ·have hq:Hid (dT 2 t m=m):=ab (hiI_b h4)
   go_enter Tryz.func164,Tryz.ntmps164
   go_wp2
   go_ret
   exact⟨db (aa hq).symm,(aL)⟩
 have hq:Hid (dT q t m=m):=ab (if_neg h2)
 by_cases h1:q=1
 ·subst h1
  rw[jm]
  have rR:=taRR
  have mR:=taRM
  go_enter Tryz.func164,Tryz.ntmps164
  go_wp2
  go_ret
  exact⟨db (aa hq).symm,(aL)⟩
 by_cases h3:q=3
 ·subst h3
  rw[jo]
  have rW:=taWR
  have mW:=taWM
  go_enter Tryz.func164,Tryz.ntmps164
  go_wp2
  go_ret
  exact⟨db (aa hq).symm,(aL)⟩
 ·rw[jp h1 h2 h3]
  have rN:=taNR
  have mN:=taNM
  clear h1 h2 h3
  go_enter Tryz.func164,Tryz.ntmps164
  go_wp2
  go_ret
  exact⟨db (aa hq).symm,(aL)⟩
end Go.Proofs.YtealpjmannopeaaGreat
namespace Go.Proofs.YtealpjmannopeaaGreat
open Go.RowKit Go.Shelf
attribute [local go_sem] Oper.semAt_some
theorem cd{W W':World}(h:Below W.heap.size W W'):W.grownBy W' none:=⟨h.os,h.tape,h.output,h.size,fun k hk _=>h.block k hk⟩
theorem gt{xs:List It}{k:Nat}{x:It}(h:xs[k]? =some x):xs.take (k+1)=xs.take k++[x]:=by
 obtain⟨hk,rfl⟩:=List.getElem?_eq_some_iff.1 h
 exact List.take_succ_eq_append_getElem hk
set_option maxRecDepth 100000 in
set_option maxHeartbeats 2000000 in
theorem parts1_in(n:Nat)(hn:2≤n)(l Bs n₀ len cap:Nat)(a:Option Addr)(xs:List It)(J Jx:List It→World→Prop)
  (hY:∀pre x W,J pre W→pre.length<len→YieldAt Fence.wide (n - 1) Tryz.prog l #[cm x.q x.t x.k x.v x.n] W fun e W'=>
   (e= .returned (.bool true)∧J (pre++[x]) W'∧Below n₀ W W')∨(e= .returned (.bool false)∧Jx (pre++[x]) W'))
  (W:World) (hJ:AbidesFrom W.heap.size J) (hnW:n₀≤W.heap.size) (hBs:W.cell? ⟨Bs,0,none⟩=some (.slice a len cap)) (hI:Its W a len xs) (hlow:∀g o,0<len→a=some ⟨g,o,none⟩→g<n₀) (h0:J [] W):
  CallsIn Fence.wide n Tryz.prog 139 #[.func (.yield l) #[] #[],.pointer (some ⟨Bs,0,none⟩)] W fun e W'=>(∃v,e= .returned v)∧
   ((∃ys,ys=xs∧J ys W')∨(∃pre,pre <+: xs∧Jx pre W')):=by
 have hm:=hI.2.1
 unfold maxLen at hm
 refine callsIn_of_wp Tryz.func139 rfl trivial ?_ rfl
 simp only[Tryz.ntmps139,List.size_toArray,List.length_cons,List.length_nil,Nat.reduceAdd,Nat.reduceSub,Array.replicate_succ,Array.replicate_zero,List.push_toArray,List.append_toArray,List.nil_append,List.cons_append]
 gi_wp2
 gi_loopw [7] (fun i wr=>∃k:Nat,k≤len∧i= .int .i64 k∧J (xs.take k) wr∧Below n₀ W wr)
  (fun i _=>len - (intOf i).toNat)
 case atStart=>exact⟨0,Nat.zero_le _,rfl,by simpa using h0,Below.refl _ _⟩
 case round=>
  obtain⟨k,hk,rfl,hJs,hnx⟩:=hrel
  by_cases hlt:k<len
  ·obtain⟨hxl,_,hx⟩:=hI
   obtain⟨g,o,rfl,hr⟩:=hx.resolve_left (by omega)
   obtain⟨x,hxk⟩:∃x,xs[k]? =some x:=⟨_,List.getElem?_eq_getElem (by omega)⟩
   have hX:=ab hxk
   have hg:g<n₀:=hlow g o (by omega) rfl
   obtain⟨c0,c1,c2,c3,c4⟩:=(hr k _ hxk).below hnx hg
   clear hx hxk
   gi_wp2_with (refine⟨trivial,fun _=>(by omega),?_⟩;gi_at_call 140;refine(callsIn_wide.2 (cJ _ _ _ _ _ _)).mono ?_;rintro e w' ⟨rfl,hb⟩;obtain⟨fn,tmps,assign,body,hy,hR⟩:=hY (xs.take k) x w' (hJ _ wr w' none hJs (cd (ae (ai wr _) hb)) (fun r e=>by cases e)) (jJ))
   refine⟨fun _=>(by omega),hR.mono ?_⟩
   rintro e W3 (⟨rfl,hJ3,hk3⟩|⟨rfl,hJx3⟩)
   ·gi_wp2
    go_roundw
    case rel=>exact⟨k+1,by omega,by go_num,by rw[gt (aa hX)];exact hJ3,(hnx.trans ((ae (ai wr _) hb).mono (Nat.le_trans hnW hnx.size))).trans hk3⟩
    case measure=>simp[intOf];omega
   ·gi_wp2
    refine bodyPost_ret (results_none rfl _ _ _) rfl ?_
    exact⟨⟨_,rfl⟩,.inr ⟨_,by rw[←gt (aa hX)];exact List.take_prefix _ _,hJx3⟩⟩
  ·gi_wp2
   go_end0
   exact⟨⟨_,rfl⟩,.inl ⟨_,by rw[List.take_of_length_le (by have:=hI.1;omega)],hJs⟩⟩
set_option maxHeartbeats 1000000 in
theorem gd(a:Option Addr)(len cap:Nat)(w:World):Calls Tryz.prog 95 #[.slice a len cap] w fun e w'=>e= .returned (.func (.func 139) #[] #[.pointer (some ⟨w.heap.size,0,none⟩)])∧w'=w.alloc (.cells #[.slice a len cap] 62):=by
 go_enter Tryz.func95,Tryz.ntmps95
 go_wp2
 go_ret
 exact⟨rfl,rfl⟩
theorem gB(n:Nat)(hn:2≤n)(Bs n₀ len cap:Nat)(a:Option Addr)(xs:List It)(w:World)(hBs:Bs<w.heap.size)(hn₀:n₀≤w.heap.size)
  (hc:w.cell? ⟨Bs,0,none⟩=some (.slice a len cap)) (hI:Its w a len xs) (hlow:∀g o,0<len→a=some ⟨g,o,none⟩→g<n₀):
  SeqStopsK Fence.wide n Tryz.prog 139 #[.pointer (some ⟨Bs,0,none⟩)] (fun x:It=>#[cm x.q x.t x.k x.v x.n]) (Below n₀) (fun ys=>ys=xs) (fun pre=>pre <+: xs) len w:=fun l J Jx W hW hJ _ hY h0=>by
 have hc':=(hW.cell (p:=⟨Bs,0,none⟩) hBs).trans hc
 exact parts1_in n hn l Bs n₀ len cap a xs J Jx hY W hJ (Nat.le_trans hn₀ hW.size) hc' (hI.below hW) hlow h0
attribute [local go_sem] Oper.semAt_some
theorem eo{W W':World}(h:Below W.heap.size W W'):KeepsOthers W W':=KeepsOthers.of_grownBy (cd h) (fun _ _ e=>by cases e)
/-- The mark behind items, if each may follow. -/
def dU(x:It)(m:Int):Option Int:=if cG x.q x.t x.k x.v x.n m=true then some (dT x.q x.t m)else none
def ee:List It→Int→Option Int
 | [],m=>some m
 |x :: r,m=>(dU x m).bind (ee r)
theorem gC(p r:List It)(m:Int):ee (p++r) m=(ee p m).bind (ee r):=by
 induction p generalizing m with
 |nil=>rfl
 |cons x p ih=>
  show(dU x m).bind (ee (p++r))=((dU x m).bind (ee p)).bind (ee r)
  cases dU x m with
  |none=>rfl
  |some m'=>exact ih m'
theorem runM_snoc(p:List It)(x:It)(m:Int):ee (p++[x]) m=(ee p m).bind (dU x):=by
 rw[gC]
 cases ee p m with
 |none=>rfl
 |some m'=>
  show(dU x m').bind (ee [])=dU x m'
  cases dU x m'<;>rfl
theorem runM_none{p xs:List It}(h:p <+: xs)(hn:ee p 0=none):ee xs 0=none:=by
 obtain⟨r,rfl⟩:=h
 rw[gC,hn];rfl
theorem stepM_go(x:It)(m:Int)(r:List It)(ih:∀m,cO r m=(ee r m).isSome):cO (x :: r) m=((dU x m).bind (ee r)).isSome:=by
 obtain⟨q,t,k,v,n⟩:=x
 show(cN q t k v n&& !(q==3)&&(if q=2 then decide (m<t)&&cO r t else cO r m))=_
 unfold dU
 dsimp only
 by_cases h1:q=1
 ·subst h1
  rw[jj,show cG 1 t k v n m=bP t k v n from rfl,show dT 1 t m=m from rfl]
  cases bP t k v n
  ·rfl
  ·simpa using ih m
 by_cases h2:q=2
 ·subst h2
  rw[jk,show cG 2 t k v n m=(aS t k v n&&decide (m<t))from rfl]
  cases aS t k v n
  ·rfl
  ·by_cases h4:m<t
   ·rw[show dT 2 t m=t from hiI_d h4,decide_eq_true h4]
    simpa using ih t
   ·rw[decide_eq_false h4];rfl
 rw[if_neg h2,show cG q t k v n m=false from by unfold cG;rw[if_neg h1,if_neg h2]]
 by_cases h3:q=3
 ·subst h3
  simp
 ·rw[jl h1 h2 h3];rfl
theorem logGo_run(xs:List It)(m:Int):cO xs m=(ee xs m).isSome:=by
 induction xs generalizing m with
 |nil=>rfl
 |cons x r ih=>exact stepM_go x m r ih
theorem gD{xs:List It}(h:aP (xs.length:Int) 1 40=false):bu xs=false:=by unfold bu;rw[h];rfl
theorem okLog_last{xs:List It}{y:It}{n:Nat}(h:aP (xs.length:Int) 1 40=true)(hl:xs.length=n+1)(hy:xs[n]? =some y):bu xs=(y.endB&&(ee xs 0).isSome):=by
 have hlast:xs.getLast? =some y:=by rw[List.getLast?_eq_getElem?];simpa[hl]using hy
 unfold bu
 rw[hlast,h,logGo_run];rfl
set_option maxRecDepth 100000 in
set_option maxHeartbeats 2000000 in
theorem gE(a:Option Addr)(len cap:Nat)(xs:List It)(w:World)(h:Its w a len xs):Calls Tryz.prog 128 #[.slice a len cap] w fun e w'=>e= .returned (.bool (bu xs))∧Below w.heap.size w w':=by
 have hm:=h.2.1
 have hxl:=h.1
 unfold maxLen at hm
 by_cases h1:(len:Int)<1
 ·have hq:Hid (bu xs=false):=ab (gD (dX (by omega)))
  go_enter Tryz.func128,Tryz.ntmps128
  go_wp2
  refine bodyPost_ret (v:= .bool false) (by simp[results,Tryz.results128,go_sem]) rfl ⟨af (aa hq).symm,?_⟩
  exact(aL)
 by_cases h2:(40:Int)<(len:Int)
 ·have hq:Hid (bu xs=false):=ab (gD (dX (by omega)))
  go_enter Tryz.func128,Tryz.ntmps128
  go_wp2
  refine bodyPost_ret (v:= .bool false) (by simp[results,Tryz.results128,go_sem]) rfl ⟨af (aa hq).symm,?_⟩
  exact(aL)
 refine(callsIn_wide (n:=6)).1 ?_
 refine callsIn_of_wp_marks Tryz.func128 rfl trivial ?_ rfl
 simp only[Tryz.ntmps128,List.size_toArray,List.length_cons,List.length_nil,Nat.reduceAdd,Nat.reduceSub,Array.replicate_succ,Array.replicate_zero,List.push_toArray,List.append_toArray,List.nil_append,List.cons_append]
 obtain⟨n,rfl⟩:∃n,len=n+1:=⟨len - 1,by omega⟩
 obtain⟨g,o,rfl,hr⟩:=h.2.2.resolve_left (by omega)
 obtain⟨y,hy⟩:∃y,xs[n]? =some y:=⟨_,List.getElem?_eq_getElem (by omega)⟩
 have hg:g<w.heap.size:=hr.lt (by omega)
 have hlow:∀g' o',0<n+1→(some ⟨g,o,none⟩:Option Addr)=some ⟨g',o',none⟩→g'<w.heap.size:=by
  intro g' o' _ e
  simp at e
  omega
 have HL:=ab (okLog_last (gj (by omega) (by omega)) hxl hy)
 obtain⟨q,t,k,v,nn⟩:=y
 have hyc:=(hr n _ hy).get
 gi_wp2_with (refine⟨trivial,?_⟩;gi_at_call 95;refine(callsIn_wide.2 (gd _ _ _ _)).mono ?_;rintro e w' ⟨rfl,rfl⟩)
 have bR:=Boxed.new w 4 (.bool false)
 have bM:=Boxed.new (w.alloc (.cells #[.bool false] 4)) 3 (.int .i64 0)
 have bN:=Boxed.new ((w.alloc (.cells #[.bool false] 4)).alloc (.cells #[.int .i64 0] 3)) 62 (.slice (some ⟨g,o,none⟩) (n+1) cap)
 rw[World.size_alloc]at bM
 rw[World.size_alloc,World.size_alloc]at bN
 have hB0:Below w.heap.size w (((w.alloc (.cells #[.bool false] 4)).alloc (.cells #[.int .i64 0] 3)).alloc (.cells #[.slice (some ⟨g,o,none⟩) (n+1) cap] 62)):=aB (aB (ai _ _) _) _
 refine wpIn_rangeFunc_ownG rfl (by omega) (gf:=139) (lb:=#[.pointer (some ⟨w.heap.size+1+1,0,none⟩)]) rfl trivial (enters_of Tryz.func139 (jK) rfl)
  (gB _ (by omega) (w.heap.size+1+1) w.heap.size (n+1) cap _ xs _ (by simp) (jJ) bN.cell (h.below hB0) hlow) belowK_t (belowK_b (jJ)) (Below.refl _ _) (fun _=>rfl)
  (fun pre W=>(∃mk,ee pre 0=some mk∧(W.cell? ⟨w.heap.size,0,none⟩=some (.bool false)∧W.frozen? ⟨w.heap.size,0,none⟩=false)∧W.cell? ⟨w.heap.size+1,0,none⟩=some (.int .i64 mk)∧W.frozen? ⟨w.heap.size+1,0,none⟩=false)∧Below w.heap.size w W)
  (fun c pre W=>(c= .ret∧ee pre 0=none∧W.cell? ⟨w.heap.size,0,none⟩=some (.bool false))∧Below w.heap.size w W)
  (OwnFrom.and (Own.from (fun s A B row hs hg hr=>by obtain⟨mk,e1,⟨e2,e3⟩,e4,e5⟩:=hs;exact⟨mk,e1,⟨cell_kept e2 hg hr,(frozen_kept e2 hg hr).trans e3⟩,cell_kept e4 hg hr,(frozen_kept e4 hg hr).trans e5⟩) _) (ownFrom_below (Nat.le_refl _) (jJ)))
  (fun c=>OwnFrom.and (Own.from (fun s A B row hs hg hr=>⟨hs.1,hs.2.1,cell_kept hs.2.2 hg hr⟩) _) (ownFrom_below (Nat.le_refl _) (jJ)))
  ⟨⟨0,rfl,⟨((bR.alloc _).alloc _).cell,((bR.alloc _).alloc _).frozen⟩,(bM.alloc _).cell,(bM.alloc _).frozen⟩,hB0⟩
  (fun x=> {tmps:=#[.slice (some ⟨g,o,none⟩) (n+1) cap,undef,.pointer (some ⟨w.heap.size,0,none⟩),.pointer (some ⟨w.heap.size+1,0,none⟩),cm x.q x.t x.k x.v x.n,.slice (some ⟨g,o,none⟩) (n+1) cap,.int .i64 ((n:Int)+1),.bool (decide ((n:Int)+1<1)),.bool (decide ((n:Int)+1<1)),.slice (some ⟨g,o,none⟩) (n+1) cap,.int .i64 ((n:Int)+1),.bool (decide (40<(n:Int)+1)),.bool (decide ((n:Int)+1<1)||decide (40<(n:Int)+1)),.slice (some ⟨g,o,none⟩) (n+1) cap,.func (.func 139) #[] #[.pointer (some ⟨w.heap.size+1+1,0,none⟩)],cm x.q x.t x.k x.v x.n,undef,undef,undef,undef,undef,undef,undef,undef,undef,undef,undef,undef,undef,undef,undef],defers:=[]}) ?assign ?body ?done ?stop
 case assign=>
  intro l x W K hK
  gi_wp2
  exact hK
 case body=>
  rintro l pre x W ⟨⟨mk,hrun,⟨hcr,hfr⟩,hcm,hfm⟩,hB⟩ _
  have hz0:=aA hcr
  have hz1:=aA hcm
  have hst:=ab (runM_snoc pre x 0)
  have hRun:=ab hrun
  clear hrun
  cases hf:cG x.q x.t x.k x.v x.n mk
  ·have hn:=ab (show ee (pre++[x]) 0=none by rw[aa hst,aa hRun];show dU x mk=none;unfold dU;rw[hf];rfl)
   gi_wp2_with (first
    |(refine⟨trivial,?_⟩;gi_at_call 163;refine(CallsIn.inRound l (callsIn_wide.2 (iw _ _ _ _ _ _ _))).mono ?_;rintro e w1 ⟨rfl,hb1⟩;obtain⟨hc1,hf1,hs1⟩:=ac hb1))
   exact⟨((eo hb1).trans (KeepsOthers.setCell _ _ _)).from _,⟨rfl,aa hn,World.cell?_setCell_same' _ _ _ (by rw[hc1 _ _ hz0,hcr];rfl)⟩,(hB.trans (hb1.mono hB.size)).setCell (p:=⟨w.heap.size,0,none⟩) (Nat.le_refl _) _⟩
  ·have hn:=ab (show ee (pre++[x]) 0=some (dT x.q x.t mk) by rw[aa hst,aa hRun];show dU x mk=_;unfold dU;rw[hf];rfl)
   gi_wp2_with (first
    |(refine⟨trivial,?_⟩;gi_at_call 163;refine(CallsIn.inRound l (callsIn_wide.2 (iw _ _ _ _ _ _ _))).mono ?_;rintro e w1 ⟨rfl,hb1⟩;obtain⟨hc1,hf1,hs1⟩:=ac hb1)
    |(refine⟨trivial,?_⟩;gi_at_call 164;refine(CallsIn.inRound l (callsIn_wide.2 (lbehind_any _ _ _ _ _ _ _))).mono ?_;rintro e w2 ⟨rfl,hb2⟩;obtain⟨hc2,hf2,hs2⟩:=ac hb2))
   have hb3:=ae hb1 hb2
   obtain⟨hc3,hf3,_⟩:=ac hb3
   refine⟨((eo hb3).trans (KeepsOthers.setCell _ _ _)).from _,(hb3.mono hB.size).setCell (p:=⟨w.heap.size+1,0,none⟩) (by simp) _,⟨_,aa hn,⟨?_,?_⟩,World.cell?_setCell_same' _ _ _ (by rw[hc3 _ _ hz1,hcm];rfl),?_⟩,(hB.trans (hb3.mono hB.size)).setCell (p:=⟨w.heap.size+1,0,none⟩) (by simp) _⟩
   ·rw[aH (by simp),hc3 _ _ hz0];exact hcr
   ·rw[World.frozen?_setCell,hf3 _ _ hz0];exact hfr
   ·rw[World.frozen?_setCell,hf3 _ _ hz1];exact hfm
 case done=>
  rintro D ys W hD hys ⟨⟨mk,hrun,⟨hcr,hfr⟩,hcm,hfm⟩,hB⟩ hK
  obtain rfl:=hys.symm
  obtain⟨c0,c1,c2,c3,c4⟩:=((hr n _ hy).below hB hg).get
  clear hyc
  by_cases e0:q=2
  case neg=>
   have hq:Hid (bu xs=false):=ab (by rw[aa HL,hrun];simp[It.endB,e0])
   gi_wp2
   have hK':=(KeepsOthers.setCell W ⟨w.heap.size,0,none⟩ (.bool false)).same D _ hK rfl
   refine⟨by simp,.inl ⟨_,_,rfl,run_takeDeferred hK',?_⟩⟩
   have hc5:=cell_kept (World.cell?_setCell_same' W ⟨w.heap.size,0,none⟩ (.bool false) (by rw[hcr];rfl)) (grownBy_putObj' _ D (.deferred none)) (fun r e=>by cases e;exact⟨_,hK',rfl⟩)
   refine⟨.bool false,?_,af (aa hq).symm,(hB.setCell (p:=⟨w.heap.size,0,none⟩) (Nat.le_refl _) _).trans (belowK_b (w:=w) (Nat.le_refl _) _ D _ _ (by simp at hD;omega) hK' rfl rfl)⟩
   simp[results,Tryz.f128,go_sem,hc5]
  by_cases e1:t=1000
  case neg=>
   have hq:Hid (bu xs=false):=ab (by rw[aa HL,hrun];simp[It.endB,e0,e1])
   gi_wp2
   have hK':=(KeepsOthers.setCell W ⟨w.heap.size,0,none⟩ (.bool false)).same D _ hK rfl
   refine⟨by simp,.inl ⟨_,_,rfl,run_takeDeferred hK',?_⟩⟩
   have hc5:=cell_kept (World.cell?_setCell_same' W ⟨w.heap.size,0,none⟩ (.bool false) (by rw[hcr];rfl)) (grownBy_putObj' _ D (.deferred none)) (fun r e=>by cases e;exact⟨_,hK',rfl⟩)
   refine⟨.bool false,?_,af (aa hq).symm,(hB.setCell (p:=⟨w.heap.size,0,none⟩) (Nat.le_refl _) _).trans (belowK_b (w:=w) (Nat.le_refl _) _ D _ _ (by simp at hD;omega) hK' rfl rfl)⟩
   simp[results,Tryz.f128,go_sem,hc5]
  by_cases e2:k=0
  case neg=>
   have hq:Hid (bu xs=false):=ab (by rw[aa HL,hrun];simp[It.endB,e0,e1,e2])
   gi_wp2
   have hK':=(KeepsOthers.setCell W ⟨w.heap.size,0,none⟩ (.bool false)).same D _ hK rfl
   refine⟨by simp,.inl ⟨_,_,rfl,run_takeDeferred hK',?_⟩⟩
   have hc5:=cell_kept (World.cell?_setCell_same' W ⟨w.heap.size,0,none⟩ (.bool false) (by rw[hcr];rfl)) (grownBy_putObj' _ D (.deferred none)) (fun r e=>by cases e;exact⟨_,hK',rfl⟩)
   refine⟨.bool false,?_,af (aa hq).symm,(hB.setCell (p:=⟨w.heap.size,0,none⟩) (Nat.le_refl _) _).trans (belowK_b (w:=w) (Nat.le_refl _) _ D _ _ (by simp at hD;omega) hK' rfl rfl)⟩
   simp[results,Tryz.f128,go_sem,hc5]
  by_cases e3:v=0
  case neg=>
   have hq:Hid (bu xs=false):=ab (by rw[aa HL,hrun];simp[It.endB,e0,e1,e2,e3])
   gi_wp2
   have hK':=(KeepsOthers.setCell W ⟨w.heap.size,0,none⟩ (.bool false)).same D _ hK rfl
   refine⟨by simp,.inl ⟨_,_,rfl,run_takeDeferred hK',?_⟩⟩
   have hc5:=cell_kept (World.cell?_setCell_same' W ⟨w.heap.size,0,none⟩ (.bool false) (by rw[hcr];rfl)) (grownBy_putObj' _ D (.deferred none)) (fun r e=>by cases e;exact⟨_,hK',rfl⟩)
   refine⟨.bool false,?_,af (aa hq).symm,(hB.setCell (p:=⟨w.heap.size,0,none⟩) (Nat.le_refl _) _).trans (belowK_b (w:=w) (Nat.le_refl _) _ D _ _ (by simp at hD;omega) hK' rfl rfl)⟩
   simp[results,Tryz.f128,go_sem,hc5]
  by_cases e4:nn=0
  case neg=>
   have hq:Hid (bu xs=false):=ab (by rw[aa HL,hrun];simp[It.endB,e0,e1,e2,e3,e4])
   gi_wp2
   have hK':=(KeepsOthers.setCell W ⟨w.heap.size,0,none⟩ (.bool false)).same D _ hK rfl
   refine⟨by simp,.inl ⟨_,_,rfl,run_takeDeferred hK',?_⟩⟩
   have hc5:=cell_kept (World.cell?_setCell_same' W ⟨w.heap.size,0,none⟩ (.bool false) (by rw[hcr];rfl)) (grownBy_putObj' _ D (.deferred none)) (fun r e=>by cases e;exact⟨_,hK',rfl⟩)
   refine⟨.bool false,?_,af (aa hq).symm,(hB.setCell (p:=⟨w.heap.size,0,none⟩) (Nat.le_refl _) _).trans (belowK_b (w:=w) (Nat.le_refl _) _ D _ _ (by simp at hD;omega) hK' rfl rfl)⟩
   simp[results,Tryz.f128,go_sem,hc5]
  have hq:Hid (bu xs=true):=ab (by rw[aa HL,hrun];simp[It.endB,e0,e1,e2,e3,e4])
  gi_wp2
  have hK':=(KeepsOthers.setCell W ⟨w.heap.size,0,none⟩ (.bool true)).same D _ hK rfl
  refine⟨by simp,.inl ⟨_,_,rfl,run_takeDeferred hK',?_⟩⟩
  have hc5:=cell_kept (World.cell?_setCell_same' W ⟨w.heap.size,0,none⟩ (.bool true) (by rw[hcr];rfl)) (grownBy_putObj' _ D (.deferred none)) (fun r e=>by cases e;exact⟨_,hK',rfl⟩)
  refine⟨.bool true,?_,af (aa hq).symm,(hB.setCell (p:=⟨w.heap.size,0,none⟩) (Nat.le_refl _) _).trans (belowK_b (w:=w) (Nat.le_refl _) _ D _ _ (by simp at hD;omega) hK' rfl rfl)⟩
  simp[results,Tryz.f128,go_sem,hc5]
 case stop=>
  rintro D c pre W hD hpre ⟨⟨rfl,hrun,hcr⟩,hB⟩ hK
  have hq:Hid (bu xs=false):=ab (by rw[aa HL,runM_none hpre hrun];simp)
  gi_wp2
  refine⟨by simp,.inl ⟨_,_,rfl,run_takeDeferred hK,?_⟩⟩
  have hc5:=cell_kept hcr (grownBy_putObj' _ D (.deferred none)) (fun r e=>by cases e;exact⟨_,hK,rfl⟩)
  refine⟨.bool false,?_,af (aa hq).symm,hB.trans (belowK_b (w:=w) (Nat.le_refl _) W D _ _ (by simp at hD;omega) hK rfl rfl)⟩
  simp[results,Tryz.f128,go_sem,hc5]
end Go.Proofs.YtealpjmannopeaaGreat
namespace Go.Proofs.YtealpjmannopeaaGreat
open Go.ChangeShapes Go.WideShapes Go.ChangeAt Go.RowKit
/-- The cells of items. -/
def It.cells(x:It):List Value:=[.int .i64 x.q,.int .i64 x.t,.int .i64 x.k,.int .i64 x.v,.int .i64 x.n]
def jy(xs:List It):List Value:=xs.flatMap It.cells
theorem i1(xs:List It)(x:It):jy (xs++[x])=jy xs++x.cells:=by simp[jy]
/-- A slice of the call's own holds items. -/
def dK(W:World)(B:Nat)(v:Value)(ys:List It):Prop:=W.ownsRow B 101 5 v ys.length (jy ys)
theorem own_ge{W:World}{B:Nat}{v:Value}{ys:List It}(h:dK W B v ys):∀k,v.ownBlock=some k→B≤k:=by
 intro k hk
 rcases h.2 with⟨rfl,_⟩|⟨g,cap,cur,rfl,hg,_⟩
 ·cases hk
 ·simp[Value.ownBlock]at hk;omega
/-- The records that are not too small. -/
def dL(least:Int)(x:It):Bool:=x.q==1&&decide (least≤x.v)
def cP(least:Int)(xs:List It):List It:=xs.filter (dL least)
theorem gu(least:Int)(xs:List It)(x:It):cP least (xs++[x])=if dL least x=true then cP least xs++[x]else cP least xs:=by
 unfold cP
 rw[List.filter_append]
 cases h:dL least x<;>simp[h]
theorem i4{least:Int}{xs:List It}{k:Nat}{x:It}(h:xs[k]? =some x):cP least (xs.take (k+1))=if dL least x=true then cP least (xs.take k)++[x]else cP least (xs.take k):=by
 rw[gt h,gu]
theorem recs_len(least:Int)(xs:List It)(k:Nat):(cP least (xs.take k)).length≤k:=Nat.le_trans (List.length_filter_le _ _) (List.length_take_le _ _)
/-- One item more. -/
theorem own_step{least:Int}{xs:List It}{k:Nat}{x:It}{w1:World}{B:Nat}{v':Value}(h:xs[k]? =some x)(hr:dL least x=true)
  (ho:w1.ownsRow B 101 5 v' ((cP least (xs.take k)).length+1) (jy (cP least (xs.take k))++x.cells)):dK w1 B v' (cP least (xs.take (k+1))):=by
 unfold dK
 rw[i4 h,if_pos hr,i1]
 simpa using ho
theorem own_skip{least:Int}{xs:List It}{k:Nat}{x:It}{w1:World}{B:Nat}{v:Value}(h:xs[k]? =some x)(hr:dL least x=false)(ho:dK w1 B v (cP least (xs.take k))):dK w1 B v (cP least (xs.take (k+1))):=by
 rw[i4 h,if_neg (by simp[hr])];exact ho
theorem iy(w:World)(q t k v n:Int)(ty:Nat):∀j u,([.int .i64 q,.int .i64 t,.int .i64 k,.int .i64 v,.int .i64 n]:List Value)[j]? =some u→(w.alloc (.cells #[.int .i64 q,.int .i64 t,.int .i64 k,.int .i64 v,.int .i64 n] ty)).cell? ((⟨w.heap.size,0,none⟩:Addr).add j)=some u:=by
 intro j u hj
 have e:((⟨w.heap.size,0,none⟩:Addr).add j)=⟨w.heap.size,j,none⟩:=by
  unfold Addr.add
  split
  ·rename_i h0;rw[h0]
  ·simp
 rw[e]
 simpa[go_sem]using hj
set_option maxHeartbeats 1000000 in
theorem jz(a:Option Addr)(len cap:Nat)(least:Int)(xs:List It)(w:World)(h:Its w a len xs)(hl:len≤1048576):Calls Tryz.prog 51 #[.slice a len cap,.int .i64 least] w fun e w'=>∃v,e= .returned v∧dK w' w.heap.size v (cP least xs)∧Below w.heap.size w w':=by
 obtain⟨i0,hi,hz0,hz1,hz2⟩:=info_parts Tryz.infoItm
 go_enter Tryz.func51,Tryz.ntmps51
 go_wp2
 go_loopw [5,6] (fun v i wr=>∃k:Nat,k≤len∧i= .int .i64 k∧dK wr w.heap.size v (cP least (xs.take k))∧Below w.heap.size w wr) (fun _ i _=>len - (intOf i).toNat)
 case atStart=>exact⟨0,Nat.zero_le _,rfl,World.ownsRow_lit (base:=w.heap.size) (size:=5) w #[] 0 (Nat.le_refl _) (Nat.zero_le _) rfl,ai _ _⟩
 case round=>
  obtain⟨k,hk,rfl,hO,hbw⟩:=hrel
  by_cases hlt:k<len
  ·obtain⟨hxl,_,hx⟩:=h
   obtain⟨g,o,rfl,hr⟩:=hx.resolve_left (by omega)
   obtain⟨x,hxk⟩:∃x,xs[k]? =some x:=⟨_,List.getElem?_eq_getElem (by omega)⟩
   have hg:g<w.heap.size:=hr.lt (by omega)
   have hX:=ab hxk
   obtain⟨q,t,kk,v,nn⟩:=x
   obtain⟨d0,d1,d2,d3,d4⟩:=((hr k _ hxk).below hbw hg).get
   have hrl:=recs_len least xs k
   have hsk:=fun hf=>ab (own_skip (B:=w.heap.size) hxk (least:=least) hf hO)
   clear hx hxk
   by_cases h1:q=1
   ·by_cases h2:least≤v
    ·have hrec:Hid (dL least ⟨q,t,kk,v,nn⟩=true):=ab (by simp[dL,h1,h2])
     have hst:=fun(w1:World) (v':Value)=>own_step (w1:=w1) (v':=v') (B:=w.heap.size) (aa hX) (aa hrec)
     subst h1
     clear hsk
     have HO:=ab hO
     have Hst:=ab hst
     have hge:=ab (own_ge hO)
     clear hst hO
     go_wp2_with (first
      |(at_builtin;refine wpList_append_own _ rfl _ _ 62 rfl w.heap.size 101 i0 _ 5 40 Tryz.underlying62 hi hz0 hz1 hz2 rfl (by decide) u5 _ _ rfl (World.ownsRow.alloc (aa HO) _) ⟨wr.heap.size,0,none⟩ 1 1 [.int .i64 1,.int .i64 t,.int .i64 kk,.int .i64 v,.int .i64 nn] rfl rfl (iy wr 1 t kk v nn _) (by simp[Value.oneCell']) (by unfold maxLen;omega) (by omega) (by have:=hbw.size;simp;omega) ?_;intro v' w1 hown' jC _))
     go_roundw
     case rel=>exact⟨k+1,by omega,by go_num,aa Hst w1 v' hown',(aB hbw _).grown jC (aB hbw _).size (aa hge)⟩
     case measure=>simp[intOf];omega
    ·have hs:=aa (hsk (by simp[dL,h2]))
     subst h1
     have HS:=ab hs
     clear hs hsk hO
     go_wp2
     go_roundw
     case rel=>exact⟨k+1,by omega,by go_num,aa HS,hbw⟩
     case measure=>simp[intOf];omega
   ·have hs:=aa (hsk (by simp[dL,h1]))
    have HS:=ab hs
    have g1:(q==1)=false:=by simpa using h1
    clear hs hsk hO h1
    go_wp2
    go_roundw
    case rel=>exact⟨k+1,by omega,by go_num,aa HS,hbw⟩
    case measure=>simp[intOf];omega
  ·have hO':dK wr w.heap.size u5 (cP least xs):=by rw[List.take_of_length_le (by have:=h.1;omega)]at hO;exact hO
   have HO:=ab hO'
   clear hO hO'
   go_wp2
   go_ret
   exact⟨_,rfl,aa HO,hbw⟩
end Go.Proofs.YtealpjmannopeaaGreat
namespace Go.Proofs.YtealpjmannopeaaGreat
open Go.RowKit Go.Shelf
attribute [local go_sem] Oper.semAt_some
theorem recs_hit{least:Int}{pre:List It}{x:It}(h:dL least x=true):cP least (pre++[x])=cP least pre++[x]:=by rw[gu,if_pos h]
theorem i5{least:Int}{pre:List It}{x:It}(h:dL least x=false):cP least (pre++[x])=cP least pre:=by rw[gu,if_neg (by simp[h])]
theorem recs_le(least:Int)(pre:List It):(cP least pre).length≤pre.length:=List.length_filter_le _ _
theorem fp{W W':World}{B:Nat}{e:TypeId}{size n:Nat}{v:Value}{xs:List Value}(h:W.ownsRow B e size v n xs)(hb:Below W.heap.size W W'):W'.ownsRow B e size v n xs:=by
 refine h.kept (cd hb) ?_
 cases v.ownBlock with
 |none=>exact .inl rfl
 |some g=>exact .inr (by simp)
set_option maxRecDepth 100000 in
set_option maxHeartbeats 2000000 in
theorem jA(a:Option Addr)(len cap:Nat)(least:Int)(xs:List It)(w:World)(h:Its w a len xs)(hl:len≤1048576):Calls Tryz.prog 52 #[.slice a len cap,.int .i64 least] w fun e w'=>∃v,e= .returned v∧dK w' w.heap.size v (cP least xs)∧Below w.heap.size w w':=by
 obtain⟨i0,hi,hz0',hz1',hz2'⟩:=info_parts Tryz.infoItm
 have hm:=h.2.1
 have hxl:=h.1
 unfold maxLen at hm
 have hlow:∀g' o',0<len→a=some ⟨g',o',none⟩→g'<w.heap.size:=by
  intro g' o' hp e
  obtain⟨g,o,ha,hr⟩:=h.2.2.resolve_left (by omega)
  have hg:=hr.lt (by omega)
  rw[ha]at e
  simp at e
  omega
 refine(callsIn_wide (n:=6)).1 ?_
 refine callsIn_of_wp_marks Tryz.func52 rfl trivial ?_ rfl
 simp only[Tryz.ntmps52,List.size_toArray,List.length_cons,List.length_nil,Nat.reduceAdd,Nat.reduceSub,Array.replicate_succ,Array.replicate_zero,List.push_toArray,List.append_toArray,List.nil_append,List.cons_append]
 gi_wp2_with (refine⟨trivial,?_⟩;gi_at_call 95;refine(callsIn_wide.2 (gd _ _ _ _)).mono ?_;rintro e w' ⟨rfl,rfl⟩)
 have bL:=Boxed.new w 3 (.int .i64 least)
 have bR:=Boxed.new (w.alloc (.cells #[.int .i64 least] 3)) 62 (.slice none 0 0)
 have bN:=Boxed.new ((w.alloc (.cells #[.int .i64 least] 3)).alloc (.cells #[.slice none 0 0] 62)) 62 (.slice a len cap)
 rw[World.size_alloc]at bR
 rw[World.size_alloc,World.size_alloc]at bN
 have hB0:Below w.heap.size w (((w.alloc (.cells #[.int .i64 least] 3)).alloc (.cells #[.slice none 0 0] 62)).alloc (.cells #[.slice a len cap] 62)):=aB (aB (ai _ _) _) _
 refine wpIn_rangeFunc_ownG rfl (by omega) (gf:=139) (lb:=#[.pointer (some ⟨w.heap.size+1+1,0,none⟩)]) rfl trivial (enters_of Tryz.func139 (jK) rfl)
  (gB _ (by omega) (w.heap.size+1+1) w.heap.size len cap _ xs _ (by simp) (jJ) bN.cell (h.below hB0) hlow) belowK_t (belowK_b (jJ)) (Below.refl _ _) (fun _=>rfl)
  (fun pre W=>(∃v,Boxed W (w.heap.size+1) 62 v∧W.ownsRow w.heap.size 101 5 v (cP least pre).length (jy (cP least pre))∧True)∧Boxed W w.heap.size 3 (.int .i64 least)∧Below w.heap.size w W)
  (fun _ _ _=>False)
  (OwnFrom.and (Own.from (holdsRow_own w.heap.size (w.heap.size+1) 62 101 5 (fun pre=>(cP least pre).length) (fun pre=>jy (cP least pre)) (fun _ _=>True)) _) (OwnFrom.and (Own.from (boxed_own _ _ _) _) (ownFrom_below (Nat.le_refl _) (jJ))))
  (fun _ _ _ _ _ hs _ _=>hs)
  ⟨⟨_,bR.alloc _,World.ownsRow_nil _ _ _ _,trivial⟩,(bL.alloc _).alloc _,hB0⟩
  (fun x=> {tmps:=#[.slice a len cap,.int .i64 least,undef,.pointer (some ⟨w.heap.size,0,none⟩),.slice none 0 0,.pointer (some ⟨w.heap.size+1,0,none⟩),cm x.q x.t x.k x.v x.n,undef,undef,.slice a len cap,.func (.func 139) #[] #[.pointer (some ⟨w.heap.size+1+1,0,none⟩)],cm x.q x.t x.k x.v x.n,undef,undef,undef,undef,undef,undef,undef,undef,undef,undef,undef,undef,undef,undef,undef,undef,undef],defers:=[]}) ?assign ?body ?done ?stop
 case assign=>
  intro l x W K hK
  gi_wp2
  exact hK
 case body=>
  rintro l pre x W ⟨⟨rv,hv,hrow,_⟩,hbl,hB⟩ hpl
  have hcl:=hbl.cell
  have HBL:=ab hbl
  have hz0:=hbl.lt
  clear hbl
  have hz1:=hv.lt
  have hrl:=recs_le least pre
  have hcv:=hv.cell
  have hfv:=hv.frozen
  have HR:=ab hrow
  have HV:=ab hv
  clear h hlow hB0 bL bR bN hrow hv
  obtain⟨q,t,k,v,n⟩:=x
  dsimp only
  by_cases h1:q=1
  ·by_cases h2:least≤v
   ·have hn:=ab (recs_hit (least:=least) (pre:=pre) (x:=⟨q,t,k,v,n⟩) (by simp[dL,h1,h2]))
    subst h1
    have hr1:=jq t k v n
    gi_wp2_with (first
     |(refine⟨trivial,?_⟩;gi_at_call 96;refine(CallsIn.inRound l (callsIn_wide.2 (dH _ _ _ _ _ _))).mono ?_;rintro e w1 ⟨rfl,hb1⟩;obtain⟨hc1,hf1,hs1⟩:=ac hb1;have hy0:w.heap.size<w1.heap.size:=Nat.lt_of_lt_of_le hz0 hb1.size;have hy1:w.heap.size+1<w1.heap.size:=Nat.lt_of_lt_of_le hz1 hb1.size;have HR2:=ab ((fp (aa HR) hb1).alloc (.cells #[.int .i64 1,.int .i64 t,.int .i64 k,.int .i64 v,.int .i64 n] 101));have HV2:=ab (((aa HV).kept (cd hb1) (by simp)).alloc (.cells #[.int .i64 1,.int .i64 t,.int .i64 k,.int .i64 v,.int .i64 n] 101)))
     |(gi_at_builtin;go_loud (refine wpListIn_append_own _ rfl _ _ 62 rfl w.heap.size 101 i0 _ 5 40 Tryz.underlying62 hi hz0' hz1' hz2' rfl (by decide) rv _ _ rfl (World.ownsRow.alloc (aa HR2) _) ⟨w1.heap.size+1,0,none⟩ 1 1 [.int .i64 1,.int .i64 t,.int .i64 k,.int .i64 v,.int .i64 n] rfl rfl (by have:=iy (w1.alloc (.cells #[.int .i64 1,.int .i64 t,.int .i64 k,.int .i64 v,.int .i64 n] 101)) 1 t k v n 101;rw[World.size_alloc]at this;exact this) (by simp[Value.oneCell']) (by unfold maxLen;omega) (by omega) (jJ) ?_);intro v' w2 hown' jC _;obtain⟨g',cap',rfl⟩:=ownsRow_succ hown';obtain⟨jD,hv2,hr2,hk2,hb2⟩:=Boxed.appended (aa HV2) (by decide) (aa HR2) (jJ) (by omega) hown' jC;have hcc:=jD.cell;have hff:=jD.frozen;have HBL2:=ab ((((((aa HBL).kept (cd hb1) (by simp)).alloc (.cells #[.int .i64 1,.int .i64 t,.int .i64 k,.int .i64 v,.int .i64 n] 101)).alloc (.cells #[.int .i64 1,.int .i64 t,.int .i64 k,.int .i64 v,.int .i64 n] 101)).kept jC ((((aa HBL).kept (cd hb1) (by simp)).alloc _).not_row (by decide) (aa HR2))));have HV3:=ab hv2;have HR3:=ab hr2;clear jD hv2 hr2 hown' jC))
    have hbx:=aa HBL2
    exact⟨((eo (aB hb1 _)).trans hk2).from _,((aB hb1 _).mono hB.size).trans hb2,⟨_,aa HV3,by rw[aa hn,i1,List.length_append];exact aa HR3,trivial⟩,hbx.other (by omega) _,(hB.trans ((aB hb1 _).mono hB.size)).trans hb2⟩
   ·have hn:=ab (i5 (least:=least) (pre:=pre) (x:=⟨q,t,k,v,n⟩) (by simp[dL,h2]))
    subst h1
    have hr1:=jq t k v n
    gi_wp2_with (first
     |(refine⟨trivial,?_⟩;gi_at_call 96;refine(CallsIn.inRound l (callsIn_wide.2 (dH _ _ _ _ _ _))).mono ?_;rintro e w1 ⟨rfl,hb1⟩;obtain⟨hc1,hf1,hs1⟩:=ac hb1;have hy0:w.heap.size<w1.heap.size:=Nat.lt_of_lt_of_le hz0 hb1.size;have hy1:w.heap.size+1<w1.heap.size:=Nat.lt_of_lt_of_le hz1 hb1.size))
    have hb3:=aB hb1 (.cells #[.int .i64 1,.int .i64 t,.int .i64 k,.int .i64 v,.int .i64 n] 101)
    exact⟨(eo hb3).from _,hb3.mono hB.size,⟨rv,(aa HV).kept (cd hb3) (by simp),by rw[aa hn];exact fp (aa HR) hb3,trivial⟩,(aa HBL).kept (cd hb3) (by simp),hB.trans (hb3.mono hB.size)⟩
  ·have hn:=ab (i5 (least:=least) (pre:=pre) (x:=⟨q,t,k,v,n⟩) (by simp[dL,h1]))
   have hr1:=jr h1 t k v n
   have g1:(q==1)=false:=by simpa using h1
   clear h1
   gi_wp2_with (first
    |(refine⟨trivial,?_⟩;gi_at_call 96;refine(CallsIn.inRound l (callsIn_wide.2 (dH _ _ _ _ _ _))).mono ?_;rintro e w1 ⟨rfl,hb1⟩;obtain⟨hc1,hf1,hs1⟩:=ac hb1;have hy0:w.heap.size<w1.heap.size:=Nat.lt_of_lt_of_le hz0 hb1.size;have hy1:w.heap.size+1<w1.heap.size:=Nat.lt_of_lt_of_le hz1 hb1.size))
   have hb3:=aB hb1 (.cells #[.int .i64 0,.int .i64 0,.int .i64 0,.int .i64 0,.int .i64 0] 101)
   exact⟨(eo hb3).from _,hb3.mono hB.size,⟨rv,(aa HV).kept (cd hb3) (by simp),by rw[aa hn];exact fp (aa HR) hb3,trivial⟩,(aa HBL).kept (cd hb3) (by simp),hB.trans (hb3.mono hB.size)⟩
 case done=>
  rintro D ys W hD hys ⟨⟨rv,hv,hrow,_⟩,hbl,hB⟩ hK
  obtain rfl:=hys.symm
  have hcv:=hv.cell
  have HR:=ab hrow
  clear hrow
  gi_wp2
  refine⟨by simp,.inl ⟨_,_,rfl,run_takeDeferred hK,?_⟩⟩
  exact⟨_,results_tmp rfl _ _ _,rv,rfl,ownsRow_putObj (aa HR) _ hK rfl,hB.trans (belowK_b (w:=w) (Nat.le_refl _) W D _ _ (by simp at hD;omega) hK rfl rfl)⟩
 case stop=>
  rintro D c pre W _ _ hx _
  exact hx.elim
end Go.Proofs.YtealpjmannopeaaGreat
namespace Go.Proofs.YtealpjmannopeaaGreat
open Go.ChangeShapes Go.WideShapes Go.ChangeAt Go.RowKit Go.Deep
set_option linter.unusedSimpArgs false
/-- Rows, nil or not, are put behind those that the call owns: one operation of a region that draws. -/
theorem step_app{P:Program}{ops:Array Oper}{o:Oper}{a:Act}{w:World}{K:Act→World→Prop}{Q:Exit→Act→World→Prop}{E:Prop}(hg:o.guard=none)(s x:Operand)(t:TypeId)(hop:o.op=Op.call {callee:=Callee.builtin Builtin.append,args:=#[s,x],argTypes:=#[t,t]})(base:Nat)(e:TypeId)(i:TypeInfo)(z:Value)(size bytes:Nat)(h1:P.underlying t=some (.slice e))(h2:P.info? e=some i)(h3:i.zero=some z)(h4:i.size=size)(h5:i.bytes=bytes)(h6:z.cells.size=size)(h7:0<size)(v:Value)(n:Nat)(xs:List Value)(hs:a.eval s=v)(hown:w.ownsRow base e size v n xs)(ad:Option Addr)(m c:Nat)(news:List Value)(hx:a.eval x= .slice ad m c)(hl:news.length=m*size)(hnil:ad=none→m=0)(hnews:∀q,ad=some q→∀j u,news[j]? =some u→w.cell? (q.add j)=some u)(h1c:∀u ∈ news,u.oneCell'=true)(b1:n+m≤maxLen)(b2:(n+m)*bytes≤140737488355328)(hbase:base≤w.heap.size)
  (hK:∀v' w',w'.ownsRow base e size v' (n+m) (xs++news)→w.grownBy w' v.ownBlock→K (a.put o.dst v') w'):if Region.wanted o (yielded ops a.tmps)=true then Oper.wp P o a w K Q else E:=by
 have hw:Region.wanted o (yielded ops a.tmps)=true:=by simp[Region.wanted,hg]
 rw[if_pos hw]
 cases ad with
 |none=>
  obtain rfl:=hnil rfl
  have hnn:news=[]:=List.eq_nil_of_length_eq_zero (by omega)
  subst hnn
  have hr:=app_nil (P:=P) (w:=w) (t:=t) (ty:=o.type) (c:=c) h1 h2 hown
  have h9:=hK v w (by rw[List.append_nil];exact hown) ⟨rfl,rfl,rfl,Nat.le_refl _,fun _ _ _=>rfl⟩
  unfold Oper.wp
  simp[execOp,hop,resolve,invoke,builtin,hs,hx,hr,Result.andThen]
  exact h9
 |some q=>
  obtain⟨v',w',hr,r1,r2,_,_⟩:=run_append_own_at (P:=P) (w:=w) base t o.type e i z size bytes h1 h2 h3 h4 h5 h6 h7 v n xs hown q m c news hl (hnews q rfl) h1c b1 b2 hbase
  unfold Oper.wp
  simp[execOp,hop,resolve,invoke,builtin,hs,hx,hr,Result.andThen]
  exact hK v' w' r1 r2
def iwOf(x:It):bF:=⟨x.q,x.t,x.k,x.v,x.n⟩
theorem flat_iw(ys:List It):jy ys=bk (ys.map iwOf):=by
 induction ys with
 |nil=>rfl
 |cons y ys ih=>
  show y.cells++jy ys=(iwOf y).cells++bk (ys.map iwOf)
  rw[ih]
  rfl
/-- The records of a log that are not below the least. -/
def iz(l:Int)(q:List bF):List bF:=(cP l (q.map ju)).map iwOf
theorem fx(l:Int)(q:List bF):(iz l q).length≤q.length:=by
 unfold iz cP
 rw[List.length_map]
 exact Nat.le_trans (List.length_filter_le _ _) (by rw[List.length_map];exact Nat.le_refl _)
theorem own_iw{W:World}{B:Nat}{v:Value}{l:Int}{q:List bF}(h:dK W B v (cP l (q.map ju))):eh W B v (iz l q):=by
 unfold dK at h
 unfold eh iz
 rw[List.length_map,←flat_iw]
 exact h
def gi(l:Int):List bS→List bF
 | []=>[]
 |x :: xs=>iz l x.q++gi l xs
theorem rcF_app(l:Int)(xs ys:List bS):gi l (xs++ys)=gi l xs++gi l ys:=by
 induction xs with
 |nil=>rfl
 |cons x xs ih=>
  show iz l x.q++gi l (xs++ys)=(iz l x.q++gi l xs)++gi l ys
  rw[ih,List.append_assoc]
theorem rcF_take{l:Int}{xs:List bS}{i:Nat}{x:bS}(h:xs[i]? =some x):gi l (xs.take (i+1))=gi l (xs.take i)++iz l x.q:=by
 rw[List.take_add_one,h,rcF_app]
 show gi l (xs.take i)++(iz l x.q++[])=_
 rw[List.append_nil]
theorem rcF_len{l:Int}:∀ {xs:List bS},(∀y ∈ xs,y.sm)→(gi l xs).length≤1048576*xs.length
 | [],_=>Nat.zero_le _
 |x :: xs,h=>by
  have h1:x.q.length≤1048576:=h x (by simp)
  have h2:=rcF_len (l:=l) (xs:=xs) (fun y hy=>h y (List.mem_cons_of_mem _ hy))
  have h3:=fx l x.q
  show(iz l x.q++gi l xs).length≤1048576*(xs.length+1)
  rw[List.length_append]
  omega
theorem rcF_tl{l:Int}{xs:List bS}(h:∀y ∈ xs,y.sm)(i:Nat):(gi l (xs.take i)).length≤1048576*i:=by
 have h1:=rcF_len (l:=l) (xs:=xs.take i) (fun y hy=>h y (List.mem_of_mem_take hy))
 have h2:(xs.take i).length≤i:=by rw[List.length_take];omega
 exact Nat.le_trans h1 (Nat.mul_le_mul_left _ h2)
theorem rcF_cnt(l:Int)(xs:List bS):(gi l xs).length≤fl xs:=by
 induction xs with
 |nil=>exact Nat.zero_le _
 |cons x xs ih=>
  have h3:=fx l x.q
  show(iz l x.q++gi l xs).length≤(1+x.q.length)+fl xs
  rw[List.length_append]
  omega
theorem specrec_iw(a:Option Addr)(n c:Nat)(l:Int)(q:List bF)(w:World)(h:bG w a n q)(hl:n≤1048576):Calls Tryz.prog 51 #[.slice a n c,.int .i64 l] w fun e w'=>∃b cb,e= .returned (.slice b (iz l q).length cb)∧bG w' b (iz l q).length (iz l q)∧Below w.heap.size w w':=
 (jz a n c l (q.map ju) w (im h) hl).mono fun e w' ⟨v,he,hO,hb⟩=>by
  obtain⟨b,cb,hv,H,_,_⟩:=gV (own_iw hO) (by have h1:=fx l q;have h2:=h.1;omega)
  subst hv
  exact⟨b,cb,he,H,hb⟩
theorem implrec_iw(a:Option Addr)(n c:Nat)(l:Int)(q:List bF)(w:World)(h:bG w a n q)(hl:n≤1048576):Calls Tryz.prog 52 #[.slice a n c,.int .i64 l] w fun e w'=>∃b cb,e= .returned (.slice b (iz l q).length cb)∧bG w' b (iz l q).length (iz l q)∧Below w.heap.size w w':=
 (jA a n c l (q.map ju) w (im h) hl).mono fun e w' ⟨v,he,hO,hb⟩=>by
  obtain⟨b,cb,hv,H,_,_⟩:=gV (own_iw hO) (by have h1:=fx l q;have h2:=h.1;omega)
  subst hv
  exact⟨b,cb,he,H,hb⟩
set_option linter.unusedSimpArgs false
attribute [local go_sem ↓] dJ
attribute [local go_sem ↓] dS
attribute [local go_sem ↓] eM
set_option maxRecDepth 20000 in
set_option maxHeartbeats 8000000 in
theorem iF(x:fW)(a10:Option Addr)(l10 c10:Nat)(a11:Option Addr)(l11 c11:Nat)(a12:Option Addr)(l12 c12:Nat)(a13:Option Addr)(l13 c13:Nat)(a16:Option Addr)(l16 c16:Nat)(a17:Option Addr)(l17 c17:Nat)(a18:Option Addr)(l18 c18:Nat)(a20:Option Addr)(l20 c20:Nat)(a21:Option Addr)(l21 c21:Nat)(B:Nat)(w:World)(h:FlIs w B a10 l10 a11 l11 a12 l12 a13 l13 a16 l16 a17 l17 a18 l18 a20 l20 a21 l21 x)(hsm:∀y ∈ x.sn,y.sm)(hsk:x.logs.length≤1048576∧∀y ∈ x.logs,y.sm){ob:Bool}(hV:Hid (cv x=ob)):Calls Tryz.prog 20 #[.agg #[.int .i64 x.s,.int .i64 x.t,.int .i64 x.k,.int .i64 x.z,.int .i64 x.p,.int .i64 x.l,.int .i64 x.e,.bool x.b,.int .i64 x.v,.int .i64 x.r,.slice a10 l10 c10,.slice a11 l11 c11,.slice a12 l12 c12,.slice a13 l13 c13,.int .i64 x.n,.bool x.op,.slice a16 l16 c16,.slice a17 l17 c17,.slice a18 l18 c18,.int .i64 x.sfn,.slice a20 l20 c20,.slice a21 l21 c21]] w fun e' w'=>∃v',e'= .returned v'∧eh w' w.heap.size v' (if ob=true then gi x.v x.logs else [])∧Below w.heap.size w w':=by
 have hl10:=h.logs.len
 obtain⟨i0,hi,hz0,hz1,hz2⟩:=info_parts Tryz.infoIw
 have HB0:Below w.heap.size w (w.alloc (.cells #[.int .i64 x.s,.int .i64 x.t,.int .i64 x.k,.int .i64 x.z,.int .i64 x.p,.int .i64 x.l,.int .i64 x.e,.bool x.b,.int .i64 x.v,.int .i64 x.r,.slice a10 l10 c10,.slice a11 l11 c11,.slice a12 l12 c12,.slice a13 l13 c13,.int .i64 x.n,.bool x.op,.slice a16 l16 c16,.slice a17 l17 c17,.slice a18 l18 c18,.int .i64 x.sfn,.slice a20 l20 c20,.slice a21 l21 c21] 51)):=ai _ _
 have bX:(w.alloc (.cells #[.int .i64 x.s,.int .i64 x.t,.int .i64 x.k,.int .i64 x.z,.int .i64 x.p,.int .i64 x.l,.int .i64 x.e,.bool x.b,.int .i64 x.v,.int .i64 x.r,.slice a10 l10 c10,.slice a11 l11 c11,.slice a12 l12 c12,.slice a13 l13 c13,.int .i64 x.n,.bool x.op,.slice a16 l16 c16,.slice a17 l17 c17,.slice a18 l18 c18,.int .i64 x.sfn,.slice a20 l20 c20,.slice a21 l21 c21] 51)).heap[w.heap.size]? =some (.cells #[.int .i64 x.s,.int .i64 x.t,.int .i64 x.k,.int .i64 x.z,.int .i64 x.p,.int .i64 x.l,.int .i64 x.e,.bool x.b,.int .i64 x.v,.int .i64 x.r,.slice a10 l10 c10,.slice a11 l11 c11,.slice a12 l12 c12,.slice a13 l13 c13,.int .i64 x.n,.bool x.op,.slice a16 l16 c16,.slice a17 l17 c17,.slice a18 l18 c18,.int .i64 x.sfn,.slice a20 l20 c20,.slice a21 l21 c21] 51 (0,0)):=aR _ _ _
 have zz0:(w.alloc (.cells #[.int .i64 x.s,.int .i64 x.t,.int .i64 x.k,.int .i64 x.z,.int .i64 x.p,.int .i64 x.l,.int .i64 x.e,.bool x.b,.int .i64 x.v,.int .i64 x.r,.slice a10 l10 c10,.slice a11 l11 c11,.slice a12 l12 c12,.slice a13 l13 c13,.int .i64 x.n,.bool x.op,.slice a16 l16 c16,.slice a17 l17 c17,.slice a18 l18 c18,.int .i64 x.sfn,.slice a20 l20 c20,.slice a21 l21 c21] 51)).heap.size=w.heap.size+1:=by simp
 go_enter Tryz.func20,Tryz.ntmps20
 go_upto_region 1 with fail
 generalize (w.alloc (.cells #[.int .i64 x.s,.int .i64 x.t,.int .i64 x.k,.int .i64 x.z,.int .i64 x.p,.int .i64 x.l,.int .i64 x.e,.bool x.b,.int .i64 x.v,.int .i64 x.r,.slice a10 l10 c10,.slice a11 l11 c11,.slice a12 l12 c12,.slice a13 l13 c13,.int .i64 x.n,.bool x.op,.slice a16 l16 c16,.slice a17 l17 c17,.slice a18 l18 c18,.int .i64 x.sfn,.slice a20 l20 c20,.slice a21 l21 c21] 51))=W0 at bX HB0 zz0 ⊢
 have HF:=ab (h.below HB0)
 have HB:=ab HB0
 clear HB0 h
 have hbE:Below W0.heap.size W0 (W0.alloc (.cells #[] 101)):=ai _ _
 have HO0:Hid (eh (W0.alloc (.cells #[] 101)) W0.heap.size (.slice (some ⟨W0.heap.size,0,none⟩) 0 0) []):=ab (World.ownsRow_lit (base:=W0.heap.size) (e:=101) (size:=5) W0 #[] 0 (Nat.le_refl _) (Nat.zero_le _) rfl)
 go_upto_region 2 with fail
 have bX0:=(hbE.block _ (ao bX)).trans bX
 have hL:=cc bX0 51 Tryz.underlying51 rfl (jK)
 go_wp2_with fail
 clear hL
 refine(iE x a10 l10 c10 a11 l11 c11 a12 l12 c12 a13 l13 c13 a16 l16 c16 a17 l17 c17 a18 l18 c18 a20 l20 c20 a21 l21 c21 B _ ((aa HF).below hbE) hsm).mono ?_
 rw[aa hV]
 rintro e9 w1 ⟨rfl,hb1⟩
 have hbW:Below W0.heap.size W0 w1:=ae hbE (hb1.mono (by simp))
 have bX1:=(hbW.block _ (ao bX)).trans bX
 have HO1:=ab (gc (aa HO0) hb1)
 have HB1:=ab (ae (aa HB) (hbW.mono (by omega)))
 have HF0:=ab (aa HF)
 have zW:w.heap.size≤W0.heap.size:=by omega
 cases ob
 ·go_wp2
  go_ret
  exact⟨_,rfl,by have h9:=fw (aa HO1) zW;(try rw[←zz0]);exact h9,aa HB1⟩
 clear HO0 HF hb1 hbE bX0
 have HLB:=ab (rcF_tl (l:=x.v) (xs:=x.logs) hsk.2)
 have HKL:=ab (And.intro hl10 hsk)
 clear hl10 hsk hsm
 have cx10:=cA bX1 10
 simp only[gA,gZ,gS]at cx10
 go_wp2
 clear cx10
 go_loopw [3,4] (fun ov i wr=>∃ix:Nat,ix≤l10∧i= .int .i64 ix∧Hid (eh wr W0.heap.size ov (gi x.v (x.logs.take ix)))∧Below W0.heap.size W0 wr) (fun _ i _=>l10 - (intOf i).toNat)
 case atStart=>exact⟨0,Nat.zero_le _,rfl,ab (by rw[List.take_zero];have h9:=aa HO1;(try rw[←zz0]);exact h9),hbW⟩
 case round=>
  obtain⟨ix,hk,rfl,HO,hbw⟩:=hrel
  have bXr:=(hbw.block _ (ao bX)).trans bX
  have zXr:=ao bXr
  have zX0:=ao bX
  have cx10:=cA bXr 10
  have cx8:=cA bXr 8
  simp only[gA,gZ,gS]at cx10 cx8
  by_cases hlt:ix<l10
  ·obtain⟨hl10,hsk1,hsk2⟩:=aa HKL
   have hF:=aa HF0
   obtain⟨_,_,hx9⟩:=hF.logs
   obtain⟨g,o,rfl,_,hr⟩:=hx9.resolve_left (by omega)
   obtain⟨y,hy⟩:∃y,x.logs[ix]? =some y:=⟨_,List.getElem?_eq_getElem (by omega)⟩
   have hy1:=hr ix y hy
   have zg:=hy1.lt
   obtain⟨a0y,l0y,c0y,e0,k0⟩:=hy1
   rw[Nat.mul_one]at e0
   have HT:=ab (rcF_take (l:=x.v) hy)
   have hle:=aa HLB ix
   have hly:y.q.length≤1048576:=hsk2 y (List.mem_of_getElem? hy)
   have hrq:=fx x.v y.q
   have hl0y:l0y≤1048576:=by have h9:=k0.1.1;omega
   have HK0:=ab k0.1
   have hi10:(ix:Int)<(l10:Int):=by omega
   have hk9:=ab (show ix+1≤l10 by omega)
   have hixb:(ix:Int)≤1048576:=by have h9:=hl10.1;omega
   have hszl:(gi x.v (x.logs.take ix)).length+(iz x.v y.q).length≤1099511627776:=by omega
   have hge9:=ab (fun b9 (e9:Value.ownBlock u3=some b9)=>jx (aa HO) b9 e9)
   have zW9:=hbw.size
   clear hx9 hr hy hF k0 hle hsk1 hsk2 hl10 hly hrq
   go_wp2_with fail
   clear cx10 cx8
   have cx10:=cA bX 10
   have cx8:=cA bX 8
   simp only[gA,gZ,gS]at cx10 cx8
   refine wp_region_held_drew (S:=(fun W=>Below W0.heap.size W0 W)) (jK) ?_ (fun hHeld=>?_)
   ·exact aj hbw
   refine kV 0 ?_
   refine kV 1 ?_
   refine kT 2 ?_ ?_ ?_
   rotate_left
   ·(intro w9 hSw;(try dsimp only at hSw);have g0:=(hSw.cell (p:=⟨w.heap.size,10,none⟩) zX0).trans cx10;go_simp<;>with_reducible rfl)
   try simp only[Act.put,tA,tZ,tS]
   refine kV 3 ?_
   refine kV 4 ?_
   refine kT 5 ?_ ?_ ?_
   rotate_left
   ·(intro w9 hSw;(try dsimp only at hSw);have g1:=(hSw.cell (p:=⟨g,o+ix,none⟩) zg).trans e0;go_simp<;>with_reducible rfl)
   try simp only[Act.put,tA,tZ,tS]
   refine kV 6 ?_
   refine kV 7 ?_
   refine kT 8 ?_ ?_ ?_
   rotate_left
   ·(intro w9 hSw;(try dsimp only at hSw);have g2:=(hSw.cell (p:=⟨w.heap.size,8,none⟩) zX0).trans cx8;go_simp<;>with_reducible rfl)
   try simp only[Act.put,tA,tZ,tS]
   refine rD 9 (fun K hK=>?_)
   go_simp
   (try dsimp only at hHeld)
   (go_at_call 51;refine(specrec_iw a0y l0y c0y x.v y.q _ ((aa HK0).below hHeld) hl0y).mono ?_;rintro e9 w6 ⟨br,cr,rfl,HR,hbw6⟩)
   (try go_wp2_with fail)
   refine hK.out _ _ (ae hHeld hbw6) (fun jB=>?_)
   clear hK K hHeld
   have hHeld:=jB
   clear jB
   (try dsimp only at hHeld)
   try simp only[Act.put,tA,tZ,tS]
   have hbr:Below wr.heap.size wr w6:=ae (aj (Below.refl _ _)) hbw6
   have zW6:=hbr.size
   refine rD 10 (fun K hK=>?_)
   refine step_app rfl (.tmp 17) (.tmp 26) 62 rfl W0.heap.size 101 i0 _ 5 40 Tryz.underlying62 hi hz0 hz1 hz2 rfl (by decide) u3 _ _ (by simp[Act.eval]) (gc (aa HO) hbr) br (iz x.v y.q).length cr (bk (iz x.v y.q)) (by simp[Act.eval]) (by rw[fL]) (fun h9=>HR.2.2.elim id (fun h8=>by obtain⟨_,_,h8,_⟩:=h8;rw[h9]at h8;cases h8)) (newsFIw HR) (oneFIw _) (by unfold maxLen;omega) (by omega) (by omega) ?_
   intro v5 w5 hown jC
   have hb5:Below W0.heap.size W0 w5:=(hbw.trans (hbr.mono zW9)).grown jC (by omega) (fun b9 e9=>(aa hge9 b9 e9).1)
   refine hK.out _ _ hb5 (fun jB=>?_)
   clear hK K hHeld
   have hHeld:=jB
   clear jB
   (try dsimp only at hHeld)
   try simp only[Act.put,tA,tZ,tS]
   refine kV 11 ?_
   refine wpAnyH_done (jK) ?_ _
   have HO5:Hid (eh w5 W0.heap.size v5 (gi x.v (x.logs.take (ix+1)))):=ab (by rw[aa HT];exact appFIw hown)
   clear hown jC hge9
   go_wp2
   go_roundw
   case rel=>exact⟨ix+1,aa hk9,by go_num,HO5,hb5⟩
   case measure=>have h9:=aa hk9;simp[intOf];omega
  ·have HV:Hid (gi x.v (x.logs.take ix)=gi x.v x.logs):=ab (by obtain⟨hl10,_⟩:=aa HKL;rw[List.take_of_length_le (by omega)])
   have hge:¬ (ix:Int)<(l10:Int):=by omega
   go_wp2
   go_ret
   exact⟨_,rfl,fw (by have h9:=aa HO;rw[aa HV]at h9;exact h9) zW,ae (aa HB) (hbw.mono (by omega))⟩
end Go.Proofs.YtealpjmannopeaaGreat
