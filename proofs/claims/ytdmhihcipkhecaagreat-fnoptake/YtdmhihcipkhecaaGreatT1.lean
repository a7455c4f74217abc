/- Laid together: what the claim needs of the texts that were built one by one. -/
import Derived.Test.YtdmhihcipkhecaaGreatT0
import Derived.Stop.RegionWithIn
import Derived.Test.YtdmhihcipkhecaaGreatRows
import Derived.Deep.Slices
import Derived.Lib.SmallJoins
import Derived.OwnWalk
import Derived.WalkSpells
import Derived.Deep.RegionHeld3
import Derived.Deep.DeepCutAuto
set_option linter.unusedVariables false
namespace Go.Proofs.YtdmhihcipkhecaaGreat
open Go.RowKit Go.Shelf Go.Maps
attribute [local go_sem] Oper.semAt_some
/-- A map's values, read as they are. -/
def rdV(v:Value):Option (DataW Value×List MemPlace):=some (.held v,[])
/-- Block b is a map of at most n places that holds what m says. -/
def b6(w:World)(b n:Nat)(m:P3→Option Value):Prop:=bp w Tryz.prog 87 rdV b n v3 gx DataW.held m
theorem b6.look{w:World}{b n:Nat}{m:P3→Option Value}(h:b6 w b n m){z:Value}(hz:(zeroValue 102).run Tryz.prog w= .ok z w)(q:P3)(hq:gx q):
  (Instr.lookup 73 (.map (some b)) (.agg #[.int .i64 q.1,.int .i64 q.2.1,.int .i64 q.2.2]) false).run Tryz.prog w= .ok ((m q).getD z) w:=by
 obtain⟨v,ps,h1,h2⟩:=bp.look h key3 Tryz.underlying73 hz (zd:= .held z) (zp:=[]) rfl some3 q hq
 have e:v=(m q).getD z:=by
  cases hm:m q with
  |none=>rw[hm]at h2;simp[rdV]at h2;exact h2.1
  |some a=>rw[hm]at h2;simp[rdV]at h2;exact h2.1
 rw[←e]
 exact h1
/-- The keys of a map, each once. -/
def KeysOf{V:Type}(m:P3→Option V)(ss:List P3):Prop:=ss.Nodup∧∀q,q ∈ ss↔(gx q∧m q≠none)
/-- What is told of a map: its places in order, each with what stands there. -/
def InOrd{V:Type}(z:V)(m:P3→Option V)(ys:List (P3×V)):Prop:=∃ss,KeysOf m ss∧ys=(fG ss).map (fun q=>(q,(m q).getD z))
/-- What a round keeps: maps, and blocks of places and of maps' names. -/
def gB(W W':World):Prop:=KeepsWalks W W'∧∀(b:Nat) (cs:Array Value) (ty:TypeId),(ty=87∨ty=73)→W.heap[b]? =some (Obj.cells cs ty (0,0))→W'.heap[b]? =some (Obj.cells cs ty (0,0))
theorem gB.rfl'(W:World):gB W W:=⟨KeepsWalks.refl W,fun _ _ _ _ h=>h⟩
theorem gB.trans{A B C:World}(h:gB A B)(k:gB B C):gB A C:=⟨h.1.trans k.1,fun b cs ty ht hb=>k.2 b cs ty ht (h.2 b cs ty ht hb)⟩
theorem gB.put{w:World}(W:World)(l:Nat)(o o':Obj)(hl:w.heap.size≤l)(h:W.heap[l]? =some o)(hc:o.isCells=false)(hw:o.isWalk=false):gB W (W.putObj l o'):=by
 refine⟨KeepsWalks.putObj _ h hw,fun b cs ty _ hb=>?_⟩
 have hne:b≠l:=by
  rintro rfl
  rw[hb]at h
  cases h
  cases hc
 rw[World.putObj_heap_other hne]
 exact hb
theorem gB.of_bel{W W':World}(hb:Below W.heap.size W W'):gB W W':=⟨⟨hb.size,fun k o hk _=>(hb.block k (Array.getElem?_eq_some_iff.1 hk).1).trans hk⟩,fun b cs ty _ h=>(hb.block b (Array.getElem?_eq_some_iff.1 h).1).trans h⟩
theorem b6.kp{W W':World}{b n:Nat}{m:P3→Option Value}(h:b6 W b n m)(k:KeepsWalks W W'):b6 W' b n m:=by
 obtain⟨D,⟨es,clock,h1,h2⟩,hf⟩:=h
 exact⟨D,⟨es,clock,k.same b _ h1 rfl,h2⟩,hf⟩
theorem own3_kp{B:Nat}{W W':World}{v:Value}{ys:List P3}(h:kQ W B v ys)(hk:gB W W'):kQ W' B v ys:=by
 rcases h with⟨hl,h|⟨g,cap,cur,hv,hB,hblk,r⟩⟩
 ·exact⟨hl,Or.inl h⟩
 ·exact⟨hl,Or.inr ⟨g,cap,cur,hv,hB,hk.2 g cur _ (Or.inl rfl) hblk,r⟩⟩
/-- A slice of places of one's own, read. -/
theorem hold3{W:World}{B:Nat}{v:Value}{ys:List P3}(h:kQ W B v ys):∃a cap,v= .slice a ys.length cap∧(∀i x,ys[i]? =some x→∃g,a=some ⟨g,0,none⟩∧g<W.heap.size∧W.cell? ⟨g,i*3,none⟩=some (.int .i64 x.1)∧W.cell? ⟨g,i*3+1,none⟩=some (.int .i64 x.2.1)∧W.cell? ⟨g,i*3+2,none⟩=some (.int .i64 x.2.2)):=by
 obtain⟨hl,⟨rfl,h0⟩|⟨g,cap,cur,rfl,hB,hblk,h1,h2,h3,h4⟩⟩:=h
 ·rw[h0]
  refine⟨none,0,rfl,fun i x hx=>?_⟩
  rw[List.eq_nil_of_length_eq_zero h0]at hx
  simp at hx
 ·refine⟨_,cap,rfl,fun i x hx=>⟨g,rfl,(Array.getElem?_eq_some_iff.1 hblk).1,?_⟩⟩
  have hi:i<ys.length:=(List.getElem?_eq_some_iff.1 hx).1
  have hy:ys[i]! =x:=by rw[List.getElem!_eq_getElem?_getD,hx];rfl
  have hc:∀j,j<3→W.cell? ⟨g,i*3+j,none⟩=(dS x)[j]? :=by
   intro j hj
   rw[cA hblk,←Array.getElem?_toList]
   have h5:(cur.toList.take (ys.length*3))[i*3+j]? =(fh ys)[i*3+j]? :=by rw[h4]
   rw[List.getElem?_take_of_lt (by omega)]at h5
   rw[h5,ip ys _ (by omega)]
   have e1:(i*3+j) / 3=i:=by omega
   have e2:(i*3+j) % 3=j:=by omega
   rw[e1,e2,hy]
  exact⟨hc 0 (by omega),hc 1 (by omega),hc 2 (by omega)⟩
theorem ents_at{V:Type}{z:V}{m:P3→Option V}{ss:List P3}{i:Nat}{x:P3}(h:ss[i]? =some x):(ss.take (i+1)).map (fun q=>(q,(m q).getD z))=(ss.take i).map (fun q=>(q,(m q).getD z))++[(x,(m x).getD z)]:=by
 rw[List.take_add_one,h];simp
set_option maxRecDepth 100000 in
set_option maxHeartbeats 4000000 in
theorem inord_in(n:Nat)(hn:8≤n)(lb0 Bm b nn:Nat){V:Type}(ev:V→Value)(m:P3→Option V)(z:V)(hz:∀u:World,(zeroValue 102).run Tryz.prog u= .ok (ev z) u)(J Jx:List (P3×V)→World→Prop)(PX:P3×V→Prop)(hPX:∀q,gx q→∀a,m q=some a→PX (q,a))
  (hY:∀pre x W,PX x→J pre W→pre.length<nn→YieldAt Fence.wide (n - 1) Tryz.prog lb0 #[.agg #[.int .i64 x.1.1,.int .i64 x.1.2.1,.int .i64 x.1.2.2],ev x.2] W fun e W'=>
   (e= .returned (.bool true)∧J (pre++[x]) W'∧gB W W')∨(e= .returned (.bool false)∧Jx (pre++[x]) W'))
  (W:World) (hJ:AbidesFrom W.heap.size J) (hnn:nn≤1048577) (hm:W.heap[Bm]? =some (.cells #[.map (some b)] 73 (0,0))) (hown:b6 W b nn (fun q=>(m q).map ev)) (h0:J [] W):
  CallsIn Fence.wide n Tryz.prog 83 #[.func (.yield lb0) #[] #[],.pointer (some ⟨Bm,0,none⟩)] W fun e W'=>(∃v,e= .returned v)∧
   ((∃ys,InOrd z m ys∧J ys W')∨(∃pre,True∧Jx pre W')):=by
 have hBm:Bm<W.heap.size:=(Array.getElem?_eq_some_iff.1 hm).1
 have hmc:W.cell? ⟨Bm,0,none⟩=some (.map (some b)):=cA hm 0
 obtain⟨D0,hD0,hD1⟩:=hown
 have hOV:b6 W b nn (fun q=>(m q).map ev):=⟨D0,hD0,hD1⟩
 have hsz:Maps.size D0≤nn:=hD0.size_le
 have hb1:Below W.heap.size W (W.alloc (.cells #[.map (some b)] 73)):=aq _ _
 have hD0':(W.alloc (.cells #[.map (some b)] 73)).ownsMap Tryz.prog 87 rdV b nn D0:=hD0.kept ⟨hb1.os,hb1.tape,hb1.output,hb1.size,fun k hk _=>hb1.block k hk⟩ (row:=none) (by simp)
 have hseq:=keysT_stops 5 (by omega) W.heap.size b nn D0 (W.alloc (.cells #[.map (some b)] 73)) (by simp) (nV) hD0'
 refine callsIn_of_wp Tryz.func83 rfl trivial ?_ rfl
 simp only[Tryz.ntmps83,List.size_toArray,List.length_cons,List.length_nil,Nat.reduceAdd,Nat.reduceSub,Array.replicate_succ,Array.replicate_zero,List.push_toArray,List.append_toArray,List.nil_append,List.cons_append]
 gi_wp2_with (first
  |(refine⟨trivial,fun _=>(by omega),?_⟩;gi_at_call 85;refine(callsIn_wide.2 (keysT_any b _)).mono ?_;rintro e' w1 ⟨rfl,hw1⟩;subst hw1)
  |(refine⟨trivial,fun _=>(by omega),?_⟩;gi_at_call 84;refine(callsIn_wide.2 (sorted3 _ _ (enters_of Tryz.func99 (oc) rfl) _ _ (Maps.size D0) (by omega) _ hseq)).mono ?_;rintro e' w2 ⟨vs,ss,rfl,hKA,hsl,hO3,hb2⟩;obtain⟨aa,cs,rfl,_⟩:=hold3 hO3))
 have hKO:KeysOf m ss:=by
  obtain⟨k1,k2⟩:=fI.all hKA some3 hD1 (fun _=>rfl)
  exact⟨k1,fun q=>by rw[k2 q];simp⟩
 have hbW:Below W.heap.size W w2:=am hb1 hb2
 have hJ2:J [] w2:=hJ [] W w2 none h0 (aB hbW) (fun r e=>by cases e)
 have hm2:w2.heap[Bm]? =some (.cells #[.map (some b)] 73 (0,0)):=(hbW.block Bm hBm).trans hm
 have hO2:b6 w2 b nn (fun q=>(m q).map ev):=hOV.kp (gB.of_bel hbW).1
 have hls:(fG ss).length≤nn:=by rw[fK];omega
 have hok:∀x ∈ fG ss,gx x:=fun x hx=>((hKO.2 x).1 ((fY ss).mem_iff.1 hx)).1
 have hsm:∀x ∈ fG ss,m x≠none:=fun x hx=>((hKO.2 x).1 ((fY ss).mem_iff.1 hx)).2
 have HI:Hid (InOrd z m ((fG ss).map (fun q=>(q,(m q).getD z)))):=ae ⟨ss,hKO,rfl⟩
 clear hKO hKA hsl hD0 hD1 hOV hD0' hseq hb1 hb2 h0 hm hmc hbW hsz
 generalize fG ss=ts at hls hok hsm HI hO3 ⊢
 gi_loopw [9] (fun iv wr=>∃i:Nat,i≤ts.length∧iv= .int .i64 i∧Hid (J ((ts.take i).map (fun q=>(q,(m q).getD z))) wr)∧Hid (wr.heap[Bm]? =some (.cells #[.map (some b)] 73 (0,0)))∧Hid (b6 wr b nn (fun q=>(m q).map ev))∧Hid (kQ wr (W.alloc (.cells #[.map (some b)] 73)).heap.size (.slice aa ts.length cs) ts)) (fun iv _=>ts.length - (intOf iv).toNat)
 case atStart=>exact⟨0,Nat.zero_le _,rfl,ae (by simpa using hJ2),ae hm2,ae hO2,ae hO3⟩
 case round=>
  clear hJ2 hm2 hO2 hO3
  obtain⟨i,hil,rfl,hJs,hmr,hOr,h3r⟩:=hrel
  by_cases hlt:i<ts.length
  ·obtain⟨x,hxk⟩:∃x,ts[i]? =some x:=⟨_,List.getElem?_eq_getElem hlt⟩
   have hxo:=hok x (List.mem_of_getElem? hxk)
   have hxm:=hsm x (List.mem_of_getElem? hxk)
   obtain⟨a',cs',e9,hcl⟩:=hold3 (ab h3r)
   simp at e9
   obtain⟨rfl,rfl⟩:=e9
   obtain⟨g,rfl,hgl,c0,c1,c2⟩:=hcl i x hxk
   have HX:=ae (ents_at (z:=z) (m:=m) hxk)
   clear hxk hcl
   obtain⟨xa,xb,xc⟩:=x
   dsimp only at c0 c1 c2
   have hmc:=cA (ab hmr) 0
   have hBl:Bm<wr.heap.size:=(Array.getElem?_eq_some_iff.1 (ab hmr)).1
   have hbd:Below wr.heap.size wr (wr.alloc (.cells #[.int .i64 xa,.int .i64 xb,.int .i64 xc] 87)).drew:=ap (aq _ _)
   have hlk:=((ab hOr).kp (gB.of_bel hbd).1).look (hz _) (xa,xb,xc) hxo
   have hJd:=hJ _ wr _ none (ab hJs) (aB hbd) (fun r e=>by cases e)
   obtain⟨vv,hvv⟩:∃vv,(m (xa,xb,xc)).getD z=vv:=⟨_,rfl⟩
   have hev:((m (xa,xb,xc)).map ev).getD (ev z)=ev vv:=by rw[←hvv];cases m (xa,xb,xc)<;>rfl
   rw[hev]at hlk
   rw[hvv]at HX
   have hpx:PX ((xa,xb,xc),vv):=by
    refine hPX _ hxo _ ?_
    cases h9:m (xa,xb,xc)with
    |none=>exact absurd h9 hxm
    |some a9=>rw[h9]at hvv;simp at hvv;rw[hvv]
   clear hev
   obtain⟨fn,tmps,assign,body,hy,hR⟩:=hY _ ((xa,xb,xc),vv) _ hpx hJd (by rw[List.length_map,List.length_take];omega)
   dsimp only at hlk hy hR
   have hR2:RoundIn Fence.wide (n - 1) Tryz.prog lb0 fn tmps assign body (wr.alloc (.cells #[.int .i64 xa,.int .i64 xb,.int .i64 xc] 87)).drew fun e W'=>∃bb:Bool,e= .returned (.bool bb)∧Hid ((bb=true∧J ((ts.take i).map (fun q=>(q,(m q).getD z))++[((xa,xb,xc),vv)]) W'∧gB (wr.alloc (.cells #[.int .i64 xa,.int .i64 xb,.int .i64 xc] 87)).drew W')∨(bb=false∧Jx ((ts.take i).map (fun q=>(q,(m q).getD z))++[((xa,xb,xc),vv)]) W')):=hR.mono (fun e W' h9=>by
    rcases h9 with⟨rfl,h1,h2⟩|⟨rfl,h1⟩
    ·exact⟨true,rfl,ae (.inl ⟨rfl,h1,h2⟩)⟩
    ·exact⟨false,rfl,ae (.inr ⟨rfl,h1⟩)⟩)
   clear hR hvv hJd hbd
   gi_wp2
   gi_region_with (refine⟨fun _=>(by omega),hR2.mono ?_⟩;rintro e' W3 ⟨bb,rfl,H3⟩)
   all_goals
    rcases ab H3 with⟨rfl,hJ3,hk3⟩|⟨rfl,hJx3⟩
    ·have hk4:gB wr W3:=(gB.of_bel (ap (aq _ _))).trans hk3
     have HJ:Hid (J ((ts.take (i+1)).map (fun q=>(q,(m q).getD z))) W3):=ae (by rw[ab HX];exact hJ3)
     have HM:=ae (hk4.2 Bm _ _ (Or.inr rfl) (ab hmr))
     have HO:=ae ((ab hOr).kp hk4.1)
     have H3r:=ae (own3_kp (ab h3r) hk4)
     clear hJs hmr hOr h3r hJ3 hk3 hk4 H3
     gi_wp2
     go_roundw
     case rel=>exact⟨i+1,by omega,by go_num,HJ,HM,HO,H3r⟩
     case measure=>simp[intOf];omega
    ·clear hJs hmr hOr h3r H3
     gi_wp2
     refine bodyPost_ret (results_none rfl _ _ _) rfl ?_
     exact⟨⟨_,rfl⟩,.inr ⟨_,trivial,hJx3⟩⟩
  ·gi_wp2
   go_end0
   exact⟨⟨_,rfl⟩,.inl ⟨_,ab HI,by have h9:=ab hJs;rw[List.take_of_length_le (by omega)]at h9;exact h9⟩⟩
theorem lift_sub{α:Type}{p:α→Prop}(l:List {x:α // p x})(x:α)(hx:p x):(l++[(⟨x,hx⟩: {x:α // p x})]).map (fun y=>y.1)=l.map (fun y=>y.1)++[x]:=by rw[List.map_append];rfl
/-- The same, told that each thing that comes is one of the map's. -/
theorem fv(n:Nat)(hn:8≤n)(Bm b nn:Nat){V:Type}(ev:V→Value)(m:P3→Option V)(z:V)(hz:∀u:World,(zeroValue 102).run Tryz.prog u= .ok (ev z) u)(PX:P3×V→Prop)(hPX:∀q,gx q→∀a,m q=some a→PX (q,a))(w:World)(hnn:nn≤1048577)(hm:w.heap[Bm]? =some (.cells #[.map (some b)] 73 (0,0)))(hown:b6 w b nn (fun q=>(m q).map ev)):
  SeqStopsK Fence.wide n Tryz.prog 83 #[.pointer (some ⟨Bm,0,none⟩)] (fun x: {x:P3×V // PX x}=>#[.agg #[.int .i64 x.1.1.1,.int .i64 x.1.1.2.1,.int .i64 x.1.1.2.2],ev x.1.2]) gB (fun ys=>InOrd z m (ys.map (·.1))) (fun _=>True) nn w:=fun l J Jx W hW hJ hJx hY h0=>by
 refine(inord_in n hn l Bm b nn ev m z hz (fun l9 W=>∃l':List {x:P3×V // PX x},l'.map (·.1)=l9∧J l' W) (fun l9 W=>∃l':List {x:P3×V // PX x},l'.map (·.1)=l9∧Jx l' W) PX hPX ?_ W ?_ hnn ((hW.block Bm (Array.getElem?_eq_some_iff.1 hm).1).trans hm) (hown.kp (gB.of_bel hW).1) ⟨[],rfl,h0⟩).mono ?_
 ·rintro pre x W1 hx ⟨pre',rfl,hj⟩ hl
  obtain⟨fn,tmps,assign,body,hy,hR⟩:=hY pre' ⟨x,hx⟩ W1 hj (by simpa using hl)
  refine⟨fn,tmps,assign,body,hy,hR.mono ?_⟩
  rintro e9 W' (⟨rfl,h1,h2⟩|⟨rfl,h1⟩)
  ·exact .inl ⟨rfl,⟨pre'++[⟨x,hx⟩],lift_sub _ _ _,h1⟩,h2⟩
  ·exact .inr ⟨rfl,⟨pre'++[⟨x,hx⟩],lift_sub _ _ _,h1⟩⟩
 ·rintro s9 A B row ⟨l',e1,hj⟩ hg hr
  exact⟨l',e1,hJ l' A B row hj hg hr⟩
 ·rintro e9 W' ⟨hv,⟨ys,hI,l',e1,hj⟩|⟨pre,_,l',e1,hj⟩⟩
  ·exact⟨hv,.inl ⟨l',by show InOrd z m (l'.map (fun x=>x.1));rw[e1];exact hI,hj⟩⟩
  ·exact⟨hv,.inr ⟨l',trivial,hj⟩⟩
theorem fL(mb:Nat)(w:World):Calls Tryz.prog 61 #[.map (some mb)] w fun e w'=>e= .returned (.func (.func 83) #[] #[.pointer (some ⟨w.heap.size,0,none⟩)])∧w'=w.alloc (.cells #[.map (some mb)] 73):=by
 go_enter Tryz.func61,Tryz.ntmps61
 go_wp2
 go_ret
 exact⟨rfl,rfl⟩
end Go.Proofs.YtdmhihcipkhecaaGreat
namespace Go.Proofs.YtdmhihcipkhecaaGreat
open Go.ChangeShapes Go.WideShapes Go.ChangeAt Go.RowKit
theorem dM{b0 b1 a0 a1 a2 a3 a4 a5 a6 a7 a8 a9 a10 a11 a12 c0 c1 c2 c3 c4 c5 c6 c7 c8 c9 cZ c11 c12:Nat}{k0 k1 k2 k3 k4 k5 k6 k7 k8 k9 k10 k11 k12 l0 l1 l2 l3 l4 l5 l6 l7 l8 l9 l10 l11 l12:Value}{W W':World}(h:((W.cell? ⟨b0,a0,none⟩=some k0∧W.cell? ⟨b0,a1,none⟩=some k1∧W.cell? ⟨b0,a2,none⟩=some k2∧W.cell? ⟨b0,a3,none⟩=some k3∧W.cell? ⟨b0,a4,none⟩=some k4∧W.cell? ⟨b0,a5,none⟩=some k5∧W.cell? ⟨b0,a6,none⟩=some k6∧W.cell? ⟨b0,a7,none⟩=some k7∧W.cell? ⟨b0,a8,none⟩=some k8∧W.cell? ⟨b0,a9,none⟩=some k9∧W.cell? ⟨b0,a10,none⟩=some k10∧W.cell? ⟨b0,a11,none⟩=some k11∧W.cell? ⟨b0,a12,none⟩=some k12∧W.cell? ⟨b1,c0,none⟩=some l0∧W.cell? ⟨b1,c1,none⟩=some l1∧W.cell? ⟨b1,c2,none⟩=some l2∧W.cell? ⟨b1,c3,none⟩=some l3∧W.cell? ⟨b1,c4,none⟩=some l4∧W.cell? ⟨b1,c5,none⟩=some l5∧W.cell? ⟨b1,c6,none⟩=some l6∧W.cell? ⟨b1,c7,none⟩=some l7∧W.cell? ⟨b1,c8,none⟩=some l8∧W.cell? ⟨b1,c9,none⟩=some l9∧W.cell? ⟨b1,cZ,none⟩=some l10∧W.cell? ⟨b1,c11,none⟩=some l11∧W.cell? ⟨b1,c12,none⟩=some l12)∧b0<W.heap.size∧b1<W.heap.size))(hb:Below W.heap.size W W'):((W'.cell? ⟨b0,a0,none⟩=some k0∧W'.cell? ⟨b0,a1,none⟩=some k1∧W'.cell? ⟨b0,a2,none⟩=some k2∧W'.cell? ⟨b0,a3,none⟩=some k3∧W'.cell? ⟨b0,a4,none⟩=some k4∧W'.cell? ⟨b0,a5,none⟩=some k5∧W'.cell? ⟨b0,a6,none⟩=some k6∧W'.cell? ⟨b0,a7,none⟩=some k7∧W'.cell? ⟨b0,a8,none⟩=some k8∧W'.cell? ⟨b0,a9,none⟩=some k9∧W'.cell? ⟨b0,a10,none⟩=some k10∧W'.cell? ⟨b0,a11,none⟩=some k11∧W'.cell? ⟨b0,a12,none⟩=some k12∧W'.cell? ⟨b1,c0,none⟩=some l0∧W'.cell? ⟨b1,c1,none⟩=some l1∧W'.cell? ⟨b1,c2,none⟩=some l2∧W'.cell? ⟨b1,c3,none⟩=some l3∧W'.cell? ⟨b1,c4,none⟩=some l4∧W'.cell? ⟨b1,c5,none⟩=some l5∧W'.cell? ⟨b1,c6,none⟩=some l6∧W'.cell? ⟨b1,c7,none⟩=some l7∧W'.cell? ⟨b1,c8,none⟩=some l8∧W'.cell? ⟨b1,c9,none⟩=some l9∧W'.cell? ⟨b1,cZ,none⟩=some l10∧W'.cell? ⟨b1,c11,none⟩=some l11∧W'.cell? ⟨b1,c12,none⟩=some l12)∧b0<W'.heap.size∧b1<W'.heap.size):=by
 obtain⟨h99,s0,s1⟩:=h
 have e0:∀z,W'.cell? ⟨b0,z,none⟩=W.cell? ⟨b0,z,none⟩:=fun z=>hb.cell s0
 have e1:∀z,W'.cell? ⟨b1,z,none⟩=W.cell? ⟨b1,z,none⟩:=fun z=>hb.cell s1
 refine⟨?_,Nat.lt_of_lt_of_le s0 hb.size,Nat.lt_of_lt_of_le s1 hb.size⟩
 simp only[e0,e1]
 exact h99
/-- A row of 13 numbers. -/
structure aC where
 ky:Int
 st:Int
 en:Int
 an:Int
 asu:Int
 ale:Int
 amo:Int
 fn:Int
 fsu:Int
 fle:Int
 fmo:Int
 td:Int
 tm:Bool
/-- A row lies in its cells; rows lie one behind the other; a slice's value holds rows. -/
def dm(W:World)(g o:Nat)(x:aC):Prop:=W.cell? ⟨g,o,none⟩=some (.int .i64 x.ky)∧W.cell? ⟨g,o+1,none⟩=some (.int .i64 x.st)∧W.cell? ⟨g,o+2,none⟩=some (.int .i64 x.en)∧W.cell? ⟨g,o+3,none⟩=some (.int .i64 x.an)∧W.cell? ⟨g,o+4,none⟩=some (.int .i64 x.asu)∧W.cell? ⟨g,o+5,none⟩=some (.int .i64 x.ale)∧W.cell? ⟨g,o+6,none⟩=some (.int .i64 x.amo)∧W.cell? ⟨g,o+7,none⟩=some (.int .i64 x.fn)∧W.cell? ⟨g,o+8,none⟩=some (.int .i64 x.fsu)∧W.cell? ⟨g,o+9,none⟩=some (.int .i64 x.fle)∧W.cell? ⟨g,o+10,none⟩=some (.int .i64 x.fmo)∧W.cell? ⟨g,o+11,none⟩=some (.int .i64 x.td)∧W.cell? ⟨g,o+12,none⟩=some (.bool x.tm)
def iq(W:World)(g o:Nat)(xs:List aC):Prop:=∀i x,xs[i]? =some x→dm W g (o+i*13) x
def cO(W:World)(a:Option Addr)(len:Nat)(xs:List aC):Prop:=xs.length=len∧len≤maxLen∧(len=0∨∃g o,a=some ⟨g,o,none⟩∧iq W g o xs)
theorem dm.lt{W:World}{g o:Nat}{x:aC}(h:dm W g o x):g<W.heap.size:=by
 obtain⟨h0,_⟩:=h
 rcases Nat.lt_or_ge g W.heap.size with hl|hg
 ·exact hl
 ·simp[World.cell?,Array.getElem?_eq_none hg]at h0
theorem iq.lt{W:World}{g o:Nat}{xs:List aC}(h:iq W g o xs)(hp:0<xs.length):g<W.heap.size:=(h 0 xs[0] (List.getElem?_eq_getElem hp)).lt
theorem dm.below{W W':World}{B g o:Nat}{x:aC}(h:dm W g o x)(hb:Below B W W')(hg:g<B):dm W' g o x:=by
 obtain⟨h0,h1,h2,h3,h4,h5,h6,h7,h8,h9,h10,h11,h12⟩:=h
 exact⟨(hb.cell (p:=⟨g,_,none⟩) hg).trans h0,(hb.cell (p:=⟨g,_,none⟩) hg).trans h1,(hb.cell (p:=⟨g,_,none⟩) hg).trans h2,(hb.cell (p:=⟨g,_,none⟩) hg).trans h3,(hb.cell (p:=⟨g,_,none⟩) hg).trans h4,(hb.cell (p:=⟨g,_,none⟩) hg).trans h5,(hb.cell (p:=⟨g,_,none⟩) hg).trans h6,(hb.cell (p:=⟨g,_,none⟩) hg).trans h7,(hb.cell (p:=⟨g,_,none⟩) hg).trans h8,(hb.cell (p:=⟨g,_,none⟩) hg).trans h9,(hb.cell (p:=⟨g,_,none⟩) hg).trans h10,(hb.cell (p:=⟨g,_,none⟩) hg).trans h11,(hb.cell (p:=⟨g,_,none⟩) hg).trans h12⟩
theorem iq.below{W W':World}{B g o:Nat}{xs:List aC}(h:iq W g o xs)(hb:Below B W W')(hg:0<xs.length→g<B):iq W' g o xs:=by
 intro i x hx
 have hlt:i<xs.length:=(List.getElem?_eq_some_iff.1 hx).1
 exact(h i x hx).below hb (hg (by omega))
theorem cO.below{W W':World}{a:Option Addr}{len:Nat}{xs:List aC}(h:cO W a len xs)(hb:Below W.heap.size W W'):cO W' a len xs:=by
 obtain⟨h1,h2,h3⟩:=h
 refine⟨h1,h2,?_⟩
 rcases h3 with h3|⟨g,o,ha,hr⟩
 ·exact Or.inl h3
 ·exact Or.inr ⟨g,o,ha,hr.below hb (fun hp=>hr.lt hp)⟩
theorem dm.grown{W W':World}{row:Option Nat}{g o:Nat}{x:aC}(h:dm W g o x)(hg:W.grownBy W' row)(hne:some g≠row):dm W' g o x:=by
 have hbk:=hg.block g h.lt hne
 obtain⟨h0,h1,h2,h3,h4,h5,h6,h7,h8,h9,h10,h11,h12⟩:=h
 exact⟨(World.cell?_of_block (w:=W) hbk).trans h0,(World.cell?_of_block (w:=W) hbk).trans h1,(World.cell?_of_block (w:=W) hbk).trans h2,(World.cell?_of_block (w:=W) hbk).trans h3,(World.cell?_of_block (w:=W) hbk).trans h4,(World.cell?_of_block (w:=W) hbk).trans h5,(World.cell?_of_block (w:=W) hbk).trans h6,(World.cell?_of_block (w:=W) hbk).trans h7,(World.cell?_of_block (w:=W) hbk).trans h8,(World.cell?_of_block (w:=W) hbk).trans h9,(World.cell?_of_block (w:=W) hbk).trans h10,(World.cell?_of_block (w:=W) hbk).trans h11,(World.cell?_of_block (w:=W) hbk).trans h12⟩
def BlkOr(W:World)(g ty len:Nat):Prop:=∃cur,W.heap[g]? =some (.cells cur ty (0,0))∧cur.size=len*13
/-- The cells of rows; a slice of the call's own that holds rows. -/
def aC.cells(x:aC):List Value:=[.int .i64 x.ky,.int .i64 x.st,.int .i64 x.en,.int .i64 x.an,.int .i64 x.asu,.int .i64 x.ale,.int .i64 x.amo,.int .i64 x.fn,.int .i64 x.fsu,.int .i64 x.fle,.int .i64 x.fmo,.int .i64 x.td,.bool x.tm]
def ba(xs:List aC):List Value:=xs.flatMap aC.cells
theorem fM(xs:List aC)(x:aC):ba (xs++[x])=ba xs++x.cells:=by simp[ba]
theorem gC(xs:List aC):(ba xs).length=xs.length*13:=by
 induction xs with
 |nil=>rfl
 |cons x r ih=>show(x.cells++ba r).length=_;rw[List.length_append,ih];simp[aC.cells];omega
theorem jh{xs:List aC}{i:Nat}{x:aC}(h:xs[i]? =some x):(ba xs)[i*13]? =some (.int .i64 x.ky)∧(ba xs)[i*13+1]? =some (.int .i64 x.st)∧(ba xs)[i*13+2]? =some (.int .i64 x.en)∧(ba xs)[i*13+3]? =some (.int .i64 x.an)∧(ba xs)[i*13+4]? =some (.int .i64 x.asu)∧(ba xs)[i*13+5]? =some (.int .i64 x.ale)∧(ba xs)[i*13+6]? =some (.int .i64 x.amo)∧(ba xs)[i*13+7]? =some (.int .i64 x.fn)∧(ba xs)[i*13+8]? =some (.int .i64 x.fsu)∧(ba xs)[i*13+9]? =some (.int .i64 x.fle)∧(ba xs)[i*13+10]? =some (.int .i64 x.fmo)∧(ba xs)[i*13+11]? =some (.int .i64 x.td)∧(ba xs)[i*13+12]? =some (.bool x.tm):=by
 induction xs generalizing i with
 |nil=>simp at h
 |cons y r ih=>
  have hf:ba (y :: r)=y.cells++ba r:=rfl
  cases i with
  |zero=>
   simp at h
   subst h
   rw[hf]
   exact⟨rfl,rfl,rfl,rfl,rfl,rfl,rfl,rfl,rfl,rfl,rfl,rfl,rfl⟩
  |succ i=>
   simp at h
   obtain⟨h0,h1,h2,h3,h4,h5,h6,h7,h8,h9,h10,h11,h12⟩:=ih h
   have hl:y.cells.length=13:=rfl
   rw[hf]
   refine⟨?_,?_,?_,?_,?_,?_,?_,?_,?_,?_,?_,?_,?_⟩
   ·rw[List.getElem?_append_right (by omega),hl,show(i+1)*13 - 13=i*13 by omega];exact h0
   ·rw[List.getElem?_append_right (by omega),hl,show(i+1)*13+1 - 13=i*13+1 by omega];exact h1
   ·rw[List.getElem?_append_right (by omega),hl,show(i+1)*13+2 - 13=i*13+2 by omega];exact h2
   ·rw[List.getElem?_append_right (by omega),hl,show(i+1)*13+3 - 13=i*13+3 by omega];exact h3
   ·rw[List.getElem?_append_right (by omega),hl,show(i+1)*13+4 - 13=i*13+4 by omega];exact h4
   ·rw[List.getElem?_append_right (by omega),hl,show(i+1)*13+5 - 13=i*13+5 by omega];exact h5
   ·rw[List.getElem?_append_right (by omega),hl,show(i+1)*13+6 - 13=i*13+6 by omega];exact h6
   ·rw[List.getElem?_append_right (by omega),hl,show(i+1)*13+7 - 13=i*13+7 by omega];exact h7
   ·rw[List.getElem?_append_right (by omega),hl,show(i+1)*13+8 - 13=i*13+8 by omega];exact h8
   ·rw[List.getElem?_append_right (by omega),hl,show(i+1)*13+9 - 13=i*13+9 by omega];exact h9
   ·rw[List.getElem?_append_right (by omega),hl,show(i+1)*13+10 - 13=i*13+10 by omega];exact h10
   ·rw[List.getElem?_append_right (by omega),hl,show(i+1)*13+11 - 13=i*13+11 by omega];exact h11
   ·rw[List.getElem?_append_right (by omega),hl,show(i+1)*13+12 - 13=i*13+12 by omega];exact h12
def aS(W:World)(B:Nat)(v:Value)(ys:List aC):Prop:=W.ownsRow B 57 13 v ys.length (ba ys)
theorem bi{w1:World}{B:Nat}{v':Value}{ys:List aC}{x:aC}(ho:w1.ownsRow B 57 13 v' (ys.length+1) (ba ys++x.cells)):aS w1 B v' (ys++[x]):=by
 unfold aS
 rw[fM]
 simpa using ho
theorem aX(w:World)(ky:Int)(st:Int)(en:Int)(an:Int)(asu:Int)(ale:Int)(amo:Int)(fn:Int)(fsu:Int)(fle:Int)(fmo:Int)(td:Int)(tm:Bool)(ty:Nat):∀j u,([.int .i64 ky,.int .i64 st,.int .i64 en,.int .i64 an,.int .i64 asu,.int .i64 ale,.int .i64 amo,.int .i64 fn,.int .i64 fsu,.int .i64 fle,.int .i64 fmo,.int .i64 td,.bool tm]:List Value)[j]? =some u→(w.alloc (.cells #[.int .i64 ky,.int .i64 st,.int .i64 en,.int .i64 an,.int .i64 asu,.int .i64 ale,.int .i64 amo,.int .i64 fn,.int .i64 fsu,.int .i64 fle,.int .i64 fmo,.int .i64 td,.bool tm] ty)).cell? ((⟨w.heap.size,0,none⟩:Addr).add j)=some u:=by
 intro j u hj
 have e:((⟨w.heap.size,0,none⟩:Addr).add j)=⟨w.heap.size,j,none⟩:=by
  unfold Addr.add
  split
  ·rename_i h0;rw[h0]
  ·simp
 rw[e]
 simpa[go_sem]using hj
def WrOr(W:World)(a:Option Addr)(n cap:Nat):Prop:=n=0∨∃g,a=some ⟨g,0,none⟩∧BlkOr W g 57 cap∧n≤cap
theorem eo{W:World}{B:Nat}{v:Value}{ys:List aC}(h:aS W B v ys)(hl:ys.length≤1048576):
  ∃a cap,v= .slice a ys.length cap∧cO W a ys.length ys∧WrOr W a ys.length cap∧∀g o,0<ys.length→a=some ⟨g,o,none⟩→B≤g:=by
 have hm:ys.length≤maxLen:=by unfold maxLen;omega
 obtain⟨hlen,h|⟨g,cap,cur,rfl,hB,hblk,hnc,hcm,hsz,htk⟩⟩:=h
 ·obtain⟨rfl,h0⟩:=h
  rw[h0]
  exact⟨none,0,rfl,⟨h0,Nat.zero_le _,Or.inl rfl⟩,Or.inl rfl,fun _ _ hp=>by omega⟩
 ·refine⟨_,cap,rfl,⟨rfl,hm,Or.inr ⟨g,0,rfl,?_⟩⟩,Or.inr ⟨g,rfl,⟨cur,hblk,hsz⟩,hnc⟩,fun g' o' _ e=>by simp at e;omega⟩
  intro i x hx
  have hi:i<ys.length:=(List.getElem?_eq_some_iff.1 hx).1
  have hcell:∀j u,j<ys.length*13→(ba ys)[j]? =some u→W.cell? ⟨g,j,none⟩=some u:=by
   intro j u hj hu
   rw[cA hblk j,←Array.getElem?_toList]
   rw[←htk,List.getElem?_take_of_lt hj]at hu
   exact hu
  obtain⟨f0,f1,f2,f3,f4,f5,f6,f7,f8,f9,f10,f11,f12⟩:=jh hx
  rw[Nat.zero_add]
  exact⟨hcell _ _ (by omega) f0,hcell _ _ (by omega) f1,hcell _ _ (by omega) f2,hcell _ _ (by omega) f3,hcell _ _ (by omega) f4,hcell _ _ (by omega) f5,hcell _ _ (by omega) f6,hcell _ _ (by omega) f7,hcell _ _ (by omega) f8,hcell _ _ (by omega) f9,hcell _ _ (by omega) f10,hcell _ _ (by omega) f11,hcell _ _ (by omega) f12⟩
end Go.Proofs.YtdmhihcipkhecaaGreat
namespace Go.Proofs.YtdmhihcipkhecaaGreat
open Go.RowKit Go.Sort Go.Lib
theorem bL(x:P3):¬ bQ x x:=by unfold bQ;omega
theorem dC{a b c:P3}(h:bQ a b)(k:bQ b c):bQ a c:=by unfold bQ at *;omega
theorem gN(a b:P3):bQ a b∨a=b∨bQ b a:=by
 obtain⟨a1,a2,a3⟩:=a
 obtain⟨b1,b2,b3⟩:=b
 unfold bQ
 by_cases e1:a1=b1
 ·by_cases e2:a2=b2
  ·by_cases e3:a3=b3
   ·subst e1 e2 e3;exact .inr (.inl rfl)
   ·simp only;omega
  ·simp only;omega
 ·simp only;omega
theorem rise_eq:∀(xs zs:List P3),xs.Pairwise bQ→zs.Pairwise bQ→(∀q,q ∈ xs↔q ∈ zs)→xs=zs
 | [],[],_,_,_=>rfl
 | [],b :: zs,_,_,h=>by have:=(h b).2 (by simp);cases this
 |a :: xs,[],_,_,h=>by have:=(h a).1 (by simp);cases this
 |a :: xs,b :: zs,h1,h2,h=>by
  obtain⟨ha,ha2⟩:=List.pairwise_cons.1 h1
  obtain⟨hb,hb2⟩:=List.pairwise_cons.1 h2
  have e:a=b:=by
   rcases List.mem_cons.1 ((h a).1 (by simp))with e|e
   ·exact e
   ·rcases List.mem_cons.1 ((h b).2 (by simp))with e'|e'
    ·exact e'.symm
    ·exact absurd (dC (hb a e) (ha b e')) (bL _)
  subst e
  rw[rise_eq xs zs ha2 hb2 (fun q=>⟨fun hq=>?_,fun hq=>?_⟩)]
  ·rcases List.mem_cons.1 ((h q).1 (List.mem_cons_of_mem _ hq))with e|e
   ·subst e;exact absurd (ha _ hq) (bL _)
   ·exact e
  ·rcases List.mem_cons.1 ((h q).2 (List.mem_cons_of_mem _ hq))with e|e
   ·subst e;exact absurd (hb _ hq) (bL _)
   ·exact e
theorem srt_rise{ss:List P3}(h:ss.Nodup):(fG ss).Pairwise bQ:=by
 have h1:(fG ss).Pairwise (fun x y=>(!(ltOf gy) y x)=true):=List.pairwise_mergeSort (fun a b c h1 h2=>by
   simp only[Bool.not_eq_true',ea]at*
   unfold bQ at *;omega) (fun a b=>by
   rcases gN a b with h|h|h
   ·have:ltOf gy b a=false:=(ea b a).2 (fun h'=>bL _ (dC h h'))
    simp[this]
   ·subst h
    have:ltOf gy a a=false:=(ea a a).2 (bL _)
    simp[this]
   ·have:ltOf gy a b=false:=(ea a b).2 (fun h'=>bL _ (dC h h'))
    simp[this]) ss
 have h2:(fG ss).Nodup:=(fY ss).nodup_iff.2 h
 refine List.Pairwise.imp₂ (fun a b h3 h4=>?_) h1 h2
 simp only[Bool.not_eq_true',ea]at h3
 rcases gN a b with h|h|h
 ·exact h
 ·exact absurd h h4
 ·exact absurd h h3
/-- The place of a row; a row in its box. -/
def aU(x:aC):P3:=(x.ky,x.st,x.en)
abbrev bz:=Nat×aC
def ptrE(e:bz):Option Addr:=some ⟨e.1,0,none⟩
/-- What a map of boxes tells of a place. -/
def cP(es:List bz)(q:P3):Option (Option Addr):=(es.find? (fun e=>decide (aU e.2=q))).map ptrE
def eb(es:List bz):Prop:=es.Pairwise (fun a b=>bQ (aU a.2) (aU b.2))
theorem eb.inj{es:List bz}(h:eb es){a b:bz}(ha:a ∈ es)(hb:b ∈ es)(e:aU a.2=aU b.2):a=b:=by
 induction es with
 |nil=>cases ha
 |cons x t ih=>
  have hc:=List.pairwise_cons.1 h
  rcases List.mem_cons.1 ha with rfl|h1<;>rcases List.mem_cons.1 hb with rfl|h2
  ·rfl
  ·have:=hc.1 b h2
   rw[e]at this
   exact absurd this (bL _)
  ·have:=hc.1 a h1
   rw[e]at this
   exact absurd this (bL _)
  ·exact ih hc.2 h1 h2
theorem mapE_snoc{es:List bz}{e:bz}(hn:∀x ∈ es,¬ aU x.2=aU e.2):(fun q=>if q=aU e.2 then some (Value.pointer (ptrE e))else(cP es q).map Value.pointer)=fun q=>(cP (es++[e]) q).map Value.pointer:=by
 funext q
 unfold cP
 rw[List.find?_append]
 by_cases h:q=aU e.2
 ·subst h
  rw[List.find?_eq_none.2 (fun x hx=>by simpa using hn x hx)]
  simp
 ·rw[if_neg h]
  cases hf:es.find? (fun x=>decide (aU x.2=q))with
  |none=>
   simp
   exact fun h9=>h h9.symm
  |some x=>simp
/-- The places are the same where the boxes are, and the rows' places. -/
theorem ki(f:aC→aC)(hf:∀x,aU (f x)=aU x)(g:bz→Bool)(es:List bz):cP (es.map (fun e=>(e.1,if g e=true then f e.2 else e.2)))=cP es:=by
 funext q
 unfold cP
 rw[List.find?_map,Option.map_map]
 have e1:((fun e:bz=>decide (aU e.2=q))∘fun e:bz=>(e.1,if g e=true then f e.2 else e.2))=fun e=>decide (aU e.2=q):=by
  funext e
  simp only[Function.comp]
  split
  ·rw[hf]
  ·rfl
 rw[e1]
 rfl
theorem zeroPtr(u:World):(zeroValue 102).run Tryz.prog u= .ok (Value.pointer none) u:=by kernel_rfl
end Go.Proofs.YtdmhihcipkhecaaGreat
namespace Go.Proofs.YtdmhihcipkhecaaGreat
open Go.ChangeShapes Go.WideShapes Go.ChangeAt Go.RowKit
/-- A row of 9 numbers. -/
structure cY where
 ky:Int
 st:Int
 en:Int
 no:Int
 kd:Int
 n:Int
 su:Int
 le:Int
 mo:Int
/-- A row lies in its cells; rows lie one behind the other; a slice's value holds rows. -/
def kj(W:World)(g o:Nat)(x:cY):Prop:=W.cell? ⟨g,o,none⟩=some (.int .i64 x.ky)∧W.cell? ⟨g,o+1,none⟩=some (.int .i64 x.st)∧W.cell? ⟨g,o+2,none⟩=some (.int .i64 x.en)∧W.cell? ⟨g,o+3,none⟩=some (.int .i64 x.no)∧W.cell? ⟨g,o+4,none⟩=some (.int .i64 x.kd)∧W.cell? ⟨g,o+5,none⟩=some (.int .i64 x.n)∧W.cell? ⟨g,o+6,none⟩=some (.int .i64 x.su)∧W.cell? ⟨g,o+7,none⟩=some (.int .i64 x.le)∧W.cell? ⟨g,o+8,none⟩=some (.int .i64 x.mo)
def ir(W:World)(g o:Nat)(xs:List cY):Prop:=∀i x,xs[i]? =some x→kj W g (o+i*9) x
def PnRs(W:World)(a:Option Addr)(len:Nat)(xs:List cY):Prop:=xs.length=len∧len≤maxLen∧(len=0∨∃g o,a=some ⟨g,o,none⟩∧ir W g o xs)
theorem kj.lt{W:World}{g o:Nat}{x:cY}(h:kj W g o x):g<W.heap.size:=by
 obtain⟨h0,_⟩:=h
 rcases Nat.lt_or_ge g W.heap.size with hl|hg
 ·exact hl
 ·simp[World.cell?,Array.getElem?_eq_none hg]at h0
theorem ir.lt{W:World}{g o:Nat}{xs:List cY}(h:ir W g o xs)(hp:0<xs.length):g<W.heap.size:=(h 0 xs[0] (List.getElem?_eq_getElem hp)).lt
theorem kj.below{W W':World}{B g o:Nat}{x:cY}(h:kj W g o x)(hb:Below B W W')(hg:g<B):kj W' g o x:=by
 obtain⟨h0,h1,h2,h3,h4,h5,h6,h7,h8⟩:=h
 exact⟨(hb.cell (p:=⟨g,_,none⟩) hg).trans h0,(hb.cell (p:=⟨g,_,none⟩) hg).trans h1,(hb.cell (p:=⟨g,_,none⟩) hg).trans h2,(hb.cell (p:=⟨g,_,none⟩) hg).trans h3,(hb.cell (p:=⟨g,_,none⟩) hg).trans h4,(hb.cell (p:=⟨g,_,none⟩) hg).trans h5,(hb.cell (p:=⟨g,_,none⟩) hg).trans h6,(hb.cell (p:=⟨g,_,none⟩) hg).trans h7,(hb.cell (p:=⟨g,_,none⟩) hg).trans h8⟩
theorem ir.below{W W':World}{B g o:Nat}{xs:List cY}(h:ir W g o xs)(hb:Below B W W')(hg:0<xs.length→g<B):ir W' g o xs:=by
 intro i x hx
 have hlt:i<xs.length:=(List.getElem?_eq_some_iff.1 hx).1
 exact(h i x hx).below hb (hg (by omega))
theorem PnRs.below{W W':World}{a:Option Addr}{len:Nat}{xs:List cY}(h:PnRs W a len xs)(hb:Below W.heap.size W W'):PnRs W' a len xs:=by
 obtain⟨h1,h2,h3⟩:=h
 refine⟨h1,h2,?_⟩
 rcases h3 with h3|⟨g,o,ha,hr⟩
 ·exact Or.inl h3
 ·exact Or.inr ⟨g,o,ha,hr.below hb (fun hp=>hr.lt hp)⟩
def BlkPn(W:World)(g ty len:Nat):Prop:=∃cur,W.heap[g]? =some (.cells cur ty (0,0))∧cur.size=len*9
/-- The cells of rows; a slice of the call's own that holds rows. -/
def cY.cells(x:cY):List Value:=[.int .i64 x.ky,.int .i64 x.st,.int .i64 x.en,.int .i64 x.no,.int .i64 x.kd,.int .i64 x.n,.int .i64 x.su,.int .i64 x.le,.int .i64 x.mo]
def bs(xs:List cY):List Value:=xs.flatMap cY.cells
theorem flatPn_snoc(xs:List cY)(x:cY):bs (xs++[x])=bs xs++x.cells:=by simp[bs]
theorem gD(xs:List cY):(bs xs).length=xs.length*9:=by
 induction xs with
 |nil=>rfl
 |cons x r ih=>show(x.cells++bs r).length=_;rw[List.length_append,ih];simp[cY.cells];omega
theorem flatPn_get{xs:List cY}{i:Nat}{x:cY}(h:xs[i]? =some x):(bs xs)[i*9]? =some (.int .i64 x.ky)∧(bs xs)[i*9+1]? =some (.int .i64 x.st)∧(bs xs)[i*9+2]? =some (.int .i64 x.en)∧(bs xs)[i*9+3]? =some (.int .i64 x.no)∧(bs xs)[i*9+4]? =some (.int .i64 x.kd)∧(bs xs)[i*9+5]? =some (.int .i64 x.n)∧(bs xs)[i*9+6]? =some (.int .i64 x.su)∧(bs xs)[i*9+7]? =some (.int .i64 x.le)∧(bs xs)[i*9+8]? =some (.int .i64 x.mo):=by
 induction xs generalizing i with
 |nil=>simp at h
 |cons y r ih=>
  have hf:bs (y :: r)=y.cells++bs r:=rfl
  cases i with
  |zero=>
   simp at h
   subst h
   rw[hf]
   exact⟨rfl,rfl,rfl,rfl,rfl,rfl,rfl,rfl,rfl⟩
  |succ i=>
   simp at h
   obtain⟨h0,h1,h2,h3,h4,h5,h6,h7,h8⟩:=ih h
   have hl:y.cells.length=9:=rfl
   rw[hf]
   refine⟨?_,?_,?_,?_,?_,?_,?_,?_,?_⟩
   ·rw[List.getElem?_append_right (by omega),hl,show(i+1)*9 - 9=i*9 by omega];exact h0
   ·rw[List.getElem?_append_right (by omega),hl,show(i+1)*9+1 - 9=i*9+1 by omega];exact h1
   ·rw[List.getElem?_append_right (by omega),hl,show(i+1)*9+2 - 9=i*9+2 by omega];exact h2
   ·rw[List.getElem?_append_right (by omega),hl,show(i+1)*9+3 - 9=i*9+3 by omega];exact h3
   ·rw[List.getElem?_append_right (by omega),hl,show(i+1)*9+4 - 9=i*9+4 by omega];exact h4
   ·rw[List.getElem?_append_right (by omega),hl,show(i+1)*9+5 - 9=i*9+5 by omega];exact h5
   ·rw[List.getElem?_append_right (by omega),hl,show(i+1)*9+6 - 9=i*9+6 by omega];exact h6
   ·rw[List.getElem?_append_right (by omega),hl,show(i+1)*9+7 - 9=i*9+7 by omega];exact h7
   ·rw[List.getElem?_append_right (by omega),hl,show(i+1)*9+8 - 9=i*9+8 by omega];exact h8
def aR(W:World)(B:Nat)(v:Value)(ys:List cY):Prop:=W.ownsRow B 52 9 v ys.length (bs ys)
theorem fw{w1:World}{B:Nat}{v':Value}{ys:List cY}{x:cY}(ho:w1.ownsRow B 52 9 v' (ys.length+1) (bs ys++x.cells)):aR w1 B v' (ys++[x]):=by
 unfold aR
 rw[flatPn_snoc]
 simpa using ho
theorem eM(w:World)(ky st en no kd n su le mo:Int)(ty:Nat):∀j u,([.int .i64 ky,.int .i64 st,.int .i64 en,.int .i64 no,.int .i64 kd,.int .i64 n,.int .i64 su,.int .i64 le,.int .i64 mo]:List Value)[j]? =some u→(w.alloc (.cells #[.int .i64 ky,.int .i64 st,.int .i64 en,.int .i64 no,.int .i64 kd,.int .i64 n,.int .i64 su,.int .i64 le,.int .i64 mo] ty)).cell? ((⟨w.heap.size,0,none⟩:Addr).add j)=some u:=by
 intro j u hj
 have e:((⟨w.heap.size,0,none⟩:Addr).add j)=⟨w.heap.size,j,none⟩:=by
  unfold Addr.add
  split
  ·rename_i h0;rw[h0]
  ·simp
 rw[e]
 simpa[go_sem]using hj
def WrPn(W:World)(a:Option Addr)(n cap:Nat):Prop:=n=0∨∃g,a=some ⟨g,0,none⟩∧BlkPn W g 52 cap∧n≤cap
theorem kR{W:World}{B:Nat}{v:Value}{ys:List cY}(h:aR W B v ys)(hl:ys.length≤1048576):
  ∃a cap,v= .slice a ys.length cap∧PnRs W a ys.length ys∧WrPn W a ys.length cap∧∀g o,0<ys.length→a=some ⟨g,o,none⟩→B≤g:=by
 have hm:ys.length≤maxLen:=by unfold maxLen;omega
 obtain⟨hlen,h|⟨g,cap,cur,rfl,hB,hblk,hnc,hcm,hsz,htk⟩⟩:=h
 ·obtain⟨rfl,h0⟩:=h
  rw[h0]
  exact⟨none,0,rfl,⟨h0,Nat.zero_le _,Or.inl rfl⟩,Or.inl rfl,fun _ _ hp=>by omega⟩
 ·refine⟨_,cap,rfl,⟨rfl,hm,Or.inr ⟨g,0,rfl,?_⟩⟩,Or.inr ⟨g,rfl,⟨cur,hblk,hsz⟩,hnc⟩,fun g' o' _ e=>by simp at e;omega⟩
  intro i x hx
  have hi:i<ys.length:=(List.getElem?_eq_some_iff.1 hx).1
  have hcell:∀j u,j<ys.length*9→(bs ys)[j]? =some u→W.cell? ⟨g,j,none⟩=some u:=by
   intro j u hj hu
   rw[cA hblk j,←Array.getElem?_toList]
   rw[←htk,List.getElem?_take_of_lt hj]at hu
   exact hu
  obtain⟨f0,f1,f2,f3,f4,f5,f6,f7,f8⟩:=flatPn_get hx
  rw[Nat.zero_add]
  exact⟨hcell _ _ (by omega) f0,hcell _ _ (by omega) f1,hcell _ _ (by omega) f2,hcell _ _ (by omega) f3,hcell _ _ (by omega) f4,hcell _ _ (by omega) f5,hcell _ _ (by omega) f6,hcell _ _ (by omega) f7,hcell _ _ (by omega) f8⟩
theorem aA(n a b:Int)(w:World):Calls Tryz.prog 34 #[.int .i64 n,.int .i64 a,.int .i64 b] w fun e w'=>e= .returned (.bool (bH n a b))∧w'=w:=by
 by_cases h1:a≤n
 ·by_cases h2:n≤b
  ·have h3:=ae (kM h1 h2)
   go_enter Tryz.func34,Tryz.ntmps34
   go_wp2
   go_ret
   exact⟨aD (ab h3).symm,rfl⟩
  ·have h3:=ae (il (n:=n) (a:=a) (b:=b) (by omega))
   go_enter Tryz.func34,Tryz.ntmps34
   go_wp2
   go_ret
   exact⟨aD (ab h3).symm,rfl⟩
 ·have h3:=ae (il (n:=n) (a:=a) (b:=b) (by omega))
  go_enter Tryz.func34,Tryz.ntmps34
  go_wp2
  go_ret
  exact⟨aD (ab h3).symm,rfl⟩
theorem aI(n a b:Int)(w:World):Calls Tryz.prog 26 #[.int .i64 n,.int .i64 a,.int .i64 b] w fun e w'=>e= .returned (.bool (bH n a b))∧w'=w:=by
 by_cases h1:a≤n
 ·by_cases h2:n≤b
  ·have h3:=ae (kM h1 h2)
   go_enter Tryz.func26,Tryz.ntmps26
   go_wp2
   go_ret
   exact⟨aD (ab h3).symm,rfl⟩
  ·have h3:=ae (il (n:=n) (a:=a) (b:=b) (by omega))
   go_enter Tryz.func26,Tryz.ntmps26
   go_wp2
   go_ret
   exact⟨aD (ab h3).symm,rfl⟩
 ·have h3:=ae (il (n:=n) (a:=a) (b:=b) (by omega))
  go_enter Tryz.func26,Tryz.ntmps26
  go_wp2
  go_ret
  exact⟨aD (ab h3).symm,rfl⟩
/-- When a window is ok. -/
def dN(a b:Int):Bool:=bH a 0 60&&bH b (a+1) 120
theorem iu(a b:Int)(w:World):Calls Tryz.prog 73 #[.agg #[.int .i64 a,.int .i64 b]] w fun e w'=>e= .returned (.bool (dN a b))∧Below w.heap.size w w':=by
 by_cases h1:0≤a∧a≤60
 ·obtain⟨h1,h2⟩:=h1
  have h3:=kM h1 h2
  have h4:Hid (dN a b=bH b (a+1) 120):=ae (by simp[dN,h3])
  go_enter Tryz.func73,Tryz.ntmps73
  go_wp2_with (go_at_call 34;refine(aA _ _ _ _).mono ?_;rintro e w' ⟨rfl,rfl⟩)
  go_ret
  exact⟨aD (ab h4).symm,aq _ _⟩
 ·have h3:=il (n:=a) (a:=0) (b:=60) (by omega)
  have h4:Hid (dN a b=false):=ae (by simp[dN,h3])
  go_enter Tryz.func73,Tryz.ntmps73
  go_wp2_with (go_at_call 34;refine(aA _ _ _ _).mono ?_;rintro e w' ⟨rfl,rfl⟩)
  go_ret
  exact⟨aD (ab h4).symm,aq _ _⟩
theorem bc(a b:Int)(w:World):Calls Tryz.prog 67 #[.agg #[.int .i64 a,.int .i64 b]] w fun e w'=>e= .returned (.bool (dN a b))∧Below w.heap.size w w':=by
 by_cases h1:0≤a∧a≤60
 ·obtain⟨h1,h2⟩:=h1
  have h3:=kM h1 h2
  have h4:Hid (dN a b=bH b (a+1) 120):=ae (by simp[dN,h3])
  go_enter Tryz.func67,Tryz.ntmps67
  go_wp2_with (go_at_call 26;refine(aI _ _ _ _).mono ?_;rintro e w' ⟨rfl,rfl⟩)
  go_ret
  exact⟨aD (ab h4).symm,aq _ _⟩
 ·have h3:=il (n:=a) (a:=0) (b:=60) (by omega)
  have h4:Hid (dN a b=false):=ae (by simp[dN,h3])
  go_enter Tryz.func67,Tryz.ntmps67
  go_wp2_with (go_at_call 26;refine(aI _ _ _ _).mono ?_;rintro e w' ⟨rfl,rfl⟩)
  go_ret
  exact⟨aD (ab h4).symm,aq _ _⟩
theorem jW(a b:Int)(w:World):Calls Tryz.prog 44 #[.agg #[.int .i64 a,.int .i64 b]] w fun e w'=>e= .returned (.bool (dN a b))∧Below w.heap.size w w':=by
 go_enter Tryz.func44,Tryz.ntmps44
 go_wp2_with (go_at_call 73;refine(iu _ _ _).mono ?_;rintro e w' ⟨rfl,hb⟩)
 go_ret
 exact⟨rfl,am (aq _ _) hb⟩
/-- When what is known is ok. -/
def eA(n s l m:Int):Bool:=if n=0 then(s==0)&&(l==0)&&(m==0)else bH n 1 1000&&bH l (-9) 9&&bH m l 9&&bH s (n*l) (n*m)
theorem okAgg_0(s l m:Int):eA 0 s l m=((s==0)&&(l==0)&&(m==0)):=rfl
theorem okAgg_n{n:Int}(h:n≠0)(s l m:Int):eA n s l m=(bH n 1 1000&&bH l (-9) 9&&bH m l 9&&bH s (n*l) (n*m)):=if_neg h
theorem kS{n l:Int}(h1:bH n 1 1000=true)(h2:bH l (-9) 9=true): -9000≤n*l∧n*l≤9000:=by
 rw[br]at h1 h2
 have a:=Int.mul_le_mul_of_nonneg_left h2.2 (show(0:Int)≤n by omega)
 have b:=Int.mul_le_mul_of_nonneg_left h2.1 (show(0:Int)≤n by omega)
 omega
theorem inB_up{m l:Int}(h1:bH l (-9) 9=true)(h2:bH m l 9=true):bH m (-9) 9=true:=by
 rw[br]at*
 omega
theorem bd(n s l m:Int)(w:World):Calls Tryz.prog 68 #[.agg #[.int .i64 n,.int .i64 s,.int .i64 l,.int .i64 m]] w fun e w'=>e= .returned (.bool (eA n s l m))∧Below w.heap.size w w':=by
 by_cases h0:n=0
 ·subst h0
  rw[okAgg_0]
  cases c0:(s==0)<;>cases c1:(l==0)<;>cases c2:(m==0)
  all_goals
   have hq:Hid (true=true):=ae rfl
   go_enter Tryz.func68,Tryz.ntmps68
   go_wp2_with (go_at_call 26;refine(aI _ _ _ _).mono ?_;rintro e w' ⟨rfl,rfl⟩)
   go_ret
   exact⟨rfl,(aW)⟩
 rw[okAgg_n h0]
 have g0:(n==0)=false:=by simpa using h0
 clear h0
 cases c0:bH n 1 1000
 ·have hq:Hid ((false&&bH l (-9) 9&&bH m l 9&&bH s (n*l) (n*m))=false):=ae (by simp)
  go_enter Tryz.func68,Tryz.ntmps68
  go_wp2_with (go_at_call 26;refine(aI _ _ _ _).mono ?_;rintro e w' ⟨rfl,rfl⟩)
  go_ret
  exact⟨aD (ab hq).symm,(aW)⟩
 cases c1:bH l (-9) 9
 ·have hq:Hid ((true&&false&&bH m l 9&&bH s (n*l) (n*m))=false):=ae (by simp)
  go_enter Tryz.func68,Tryz.ntmps68
  go_wp2_with (go_at_call 26;refine(aI _ _ _ _).mono ?_;rintro e w' ⟨rfl,rfl⟩)
  go_ret
  exact⟨aD (ab hq).symm,(aW)⟩
 cases c2:bH m l 9
 ·have hq:Hid ((true&&true&&false&&bH s (n*l) (n*m))=false):=ae (by simp)
  go_enter Tryz.func68,Tryz.ntmps68
  go_wp2_with (go_at_call 26;refine(aI _ _ _ _).mono ?_;rintro e w' ⟨rfl,rfl⟩)
  go_ret
  exact⟨aD (ab hq).symm,(aW)⟩
 have m1:=kS c0 c1
 have m2:=kS c0 (inB_up c1 c2)
 have hq:Hid ((true&&true&&true&&bH s (n*l) (n*m))=bH s (n*l) (n*m)):=ae (by simp)
 go_enter Tryz.func68,Tryz.ntmps68
 go_wp2_with (go_at_call 26;refine(aI _ _ _ _).mono ?_;rintro e w' ⟨rfl,rfl⟩)
 go_ret
 exact⟨aD (ab hq).symm,(aW)⟩
theorem bV(n s l m:Int)(w:World):Calls Tryz.prog 47 #[.agg #[.int .i64 n,.int .i64 s,.int .i64 l,.int .i64 m]] w fun e w'=>e= .returned (.bool (eA n s l m))∧Below w.heap.size w w':=by
 by_cases h0:n=0
 ·subst h0
  rw[okAgg_0]
  cases c0:(s==0)<;>cases c1:(l==0)<;>cases c2:(m==0)
  all_goals
   have hq:Hid (true=true):=ae rfl
   go_enter Tryz.func47,Tryz.ntmps47
   go_wp2_with (go_at_call 34;refine(aA _ _ _ _).mono ?_;rintro e w' ⟨rfl,rfl⟩)
   go_ret
   exact⟨rfl,(aW)⟩
 rw[okAgg_n h0]
 have g0:(n==0)=false:=by simpa using h0
 clear h0
 cases c0:bH n 1 1000
 ·have hq:Hid ((false&&bH l (-9) 9&&bH m l 9&&bH s (n*l) (n*m))=false):=ae (by simp)
  go_enter Tryz.func47,Tryz.ntmps47
  go_wp2_with (go_at_call 34;refine(aA _ _ _ _).mono ?_;rintro e w' ⟨rfl,rfl⟩)
  go_ret
  exact⟨aD (ab hq).symm,(aW)⟩
 cases c1:bH l (-9) 9
 ·have hq:Hid ((true&&false&&bH m l 9&&bH s (n*l) (n*m))=false):=ae (by simp)
  go_enter Tryz.func47,Tryz.ntmps47
  go_wp2_with (go_at_call 34;refine(aA _ _ _ _).mono ?_;rintro e w' ⟨rfl,rfl⟩)
  go_ret
  exact⟨aD (ab hq).symm,(aW)⟩
 cases c2:bH m l 9
 ·have hq:Hid ((true&&true&&false&&bH s (n*l) (n*m))=false):=ae (by simp)
  go_enter Tryz.func47,Tryz.ntmps47
  go_wp2_with (go_at_call 34;refine(aA _ _ _ _).mono ?_;rintro e w' ⟨rfl,rfl⟩)
  go_ret
  exact⟨aD (ab hq).symm,(aW)⟩
 have m1:=kS c0 c1
 have m2:=kS c0 (inB_up c1 c2)
 have hq:Hid ((true&&true&&true&&bH s (n*l) (n*m))=bH s (n*l) (n*m)):=ae (by simp)
 go_enter Tryz.func47,Tryz.ntmps47
 go_wp2_with (go_at_call 34;refine(aA _ _ _ _).mono ?_;rintro e w' ⟨rfl,rfl⟩)
 go_ret
 exact⟨aD (ab hq).symm,(aW)⟩
end Go.Proofs.YtdmhihcipkhecaaGreat
namespace Go.Proofs.YtdmhihcipkhecaaGreat
open Go.ChangeShapes Go.WideShapes Go.ChangeAt Go.RowKit Go.Deep
theorem Tryz.infoOr:(Tryz.prog.info? 57).map (fun i=>(i.zero,i.size,i.bytes))=some (some (.agg #[.int .i64 0,.int .i64 0,.int .i64 0,.int .i64 0,.int .i64 0,.int .i64 0,.int .i64 0,.int .i64 0,.int .i64 0,.int .i64 0,.int .i64 0,.int .i64 0,.bool false]),13,104):=by kernel_rfl
end Go.Proofs.YtdmhihcipkhecaaGreat
namespace Go.Proofs.YtdmhihcipkhecaaGreat
open Go.ChangeShapes Go.WideShapes Go.ChangeAt Go.RowKit
theorem aT(ky st en an asu ale amo fn fsu fle fmo td:Int)(tm:Bool)(w:World):Calls Tryz.prog 58 #[.agg #[.int .i64 ky,.int .i64 st,.int .i64 en,.int .i64 an,.int .i64 asu,.int .i64 ale,.int .i64 amo,.int .i64 fn,.int .i64 fsu,.int .i64 fle,.int .i64 fmo,.int .i64 td,.bool tm]] w fun e' w'=>e'= .returned (.agg #[.int .i64 ky,.int .i64 st,.int .i64 en])∧Below w.heap.size w w':=by
 go_enter Tryz.func58,Tryz.ntmps58
 go_wp2
 refine bodyPost_ret (v:= .agg #[.int .i64 ky,.int .i64 st,.int .i64 en]) (by simp[results,Tryz.results58,go_sem]) rfl ⟨rfl,?_⟩
 exact(bC)
/-- When a window of a key is ok; when a pane is. -/
def eq(ky st en:Int):Bool:=bH ky 0 3&&dN st en
theorem bu(ky st en:Int)(w:World):Calls Tryz.prog 46 #[.agg #[.int .i64 ky,.int .i64 st,.int .i64 en]] w fun e' w'=>e'= .returned (.bool (eq ky st en))∧Below w.heap.size w w':=by
 cases c0:bH ky 0 3
 ·have hq:Hid (eq ky st en=false):=ae (by simp[eq,c0])
  go_enter Tryz.func46,Tryz.ntmps46
  go_wp2_with (first
   |(go_at_call 34;refine(aA _ _ _ _).mono ?_;rintro e' w' ⟨rfl,rfl⟩)
   |(go_at_call 73;refine(iu _ _ _).mono ?_;rintro e w' ⟨rfl,hb⟩;obtain⟨hc,hf,hs⟩:=az hb;(try have hz0:=zA hb w.heap.size)))
  go_ret
  exact⟨aD (ab hq).symm,(bC)⟩
 ·have hq:Hid (eq ky st en=dN st en):=ae (by simp[eq,c0])
  go_enter Tryz.func46,Tryz.ntmps46
  go_wp2_with (first
   |(go_at_call 34;refine(aA _ _ _ _).mono ?_;rintro e' w' ⟨rfl,rfl⟩)
   |(go_at_call 73;refine(iu _ _ _).mono ?_;rintro e w' ⟨rfl,hb⟩;obtain⟨hc,hf,hs⟩:=az hb;(try have hz0:=zA hb w.heap.size)))
  go_ret
  exact⟨aD (ab hq).symm,(bC)⟩
/-- When a job's step is ok; when a job is. -/
def fD(k z p:Int):Bool:=if k=2 then bH p 1 z&&decide (z≤4*p)else p==0
theorem iZ(z p:Int):fD 2 z p=(bH p 1 z&&decide (z≤4*p)):=rfl
theorem stepB_n{k:Int}(h:k≠2)(z p:Int):fD k z p=(p==0):=if_neg h
def aV(s t k z p l e v r:Int):Bool:=bH s 1 3&&bH t 1 2&&bH k 1 3&&bH z 1 20&&fD k z p&&bH l 0 20&&bH e 1 4&&bH v (-9) 9&&bH r 1 4
theorem dc(s t k z p l e:Int)(b:Bool)(v r:Int)(hz:1≤z∧z≤20)(w:World):Calls Tryz.prog 70 #[.agg #[.int .i64 s,.int .i64 t,.int .i64 k,.int .i64 z,.int .i64 p,.int .i64 l,.int .i64 e,.bool b,.int .i64 v,.int .i64 r]] w fun e' w'=>e'= .returned (.bool (fD k z p))∧Below w.heap.size w w':=by
 by_cases h2:k=2
 ·subst h2
  rw[iZ]
  cases d0:bH p 1 z
  ·have hq:Hid ((false&&decide (z≤4*p))=false):=ae (by simp)
   go_enter Tryz.func70,Tryz.ntmps70
   go_wp2_with (first
    |(go_at_call 34;refine(aA _ _ _ _).mono ?_;rintro e' w' ⟨rfl,rfl⟩))
   go_ret
   exact⟨aD (ab hq).symm,(aW)⟩
  have hp:=br.1 d0
  have hq:Hid ((true&&decide (z≤4*p))=decide (z≤4*p)):=ae (by simp)
  go_enter Tryz.func70,Tryz.ntmps70
  go_wp2_with (first
   |(go_at_call 34;refine(aA _ _ _ _).mono ?_;rintro e' w' ⟨rfl,rfl⟩))
  go_ret
  exact⟨aD (ab hq).symm,(aW)⟩
 rw[stepB_n h2]
 have g2:(k==2)=false:=by simpa using h2
 clear h2
 go_enter Tryz.func70,Tryz.ntmps70
 go_wp2_with (first
  |(go_at_call 34;refine(aA _ _ _ _).mono ?_;rintro e' w' ⟨rfl,rfl⟩))
 go_ret
 exact⟨rfl,(aW)⟩
set_option maxHeartbeats 1000000 in
theorem dz(s t k z p l e:Int)(b:Bool)(v r:Int)(w:World):Calls Tryz.prog 37 #[.agg #[.int .i64 s,.int .i64 t,.int .i64 k,.int .i64 z,.int .i64 p,.int .i64 l,.int .i64 e,.bool b,.int .i64 v,.int .i64 r]] w fun e' w'=>e'= .returned (.bool (aV s t k z p l e v r))∧Below w.heap.size w w':=by
 cases c0:bH s 1 3
 ·have hq:Hid (aV s t k z p l e v r=false):=ae (by simp[aV,c0])
  go_enter Tryz.func37,Tryz.ntmps37
  go_wp2_with (first
   |(go_at_call 26;refine(aI _ _ _ _).mono ?_;rintro e' w' ⟨rfl,rfl⟩))
  go_ret
  exact⟨aD (ab hq).symm,(aW)⟩
 cases c1:bH t 1 2
 ·have hq:Hid (aV s t k z p l e v r=false):=ae (by simp[aV,c0,c1])
  go_enter Tryz.func37,Tryz.ntmps37
  go_wp2_with (first
   |(go_at_call 26;refine(aI _ _ _ _).mono ?_;rintro e' w' ⟨rfl,rfl⟩))
  go_ret
  exact⟨aD (ab hq).symm,(aW)⟩
 cases c2:bH k 1 3
 ·have hq:Hid (aV s t k z p l e v r=false):=ae (by simp[aV,c0,c1,c2])
  go_enter Tryz.func37,Tryz.ntmps37
  go_wp2_with (first
   |(go_at_call 26;refine(aI _ _ _ _).mono ?_;rintro e' w' ⟨rfl,rfl⟩))
  go_ret
  exact⟨aD (ab hq).symm,(aW)⟩
 cases c3:bH z 1 20
 ·have hq:Hid (aV s t k z p l e v r=false):=ae (by simp[aV,c0,c1,c2,c3])
  go_enter Tryz.func37,Tryz.ntmps37
  go_wp2_with (first
   |(go_at_call 26;refine(aI _ _ _ _).mono ?_;rintro e' w' ⟨rfl,rfl⟩))
  go_ret
  exact⟨aD (ab hq).symm,(aW)⟩
 have hz:=br.1 c3
 by_cases h2:k=2
 ·subst h2
  have hs:=iZ z p
  cases d0:bH p 1 z
  ·have hq:Hid (aV s t 2 z p l e v r=false):=ae (by simp[aV,hs,d0])
   clear hs
   go_enter Tryz.func37,Tryz.ntmps37
   go_wp2_with (first
    |(go_at_call 26;refine(aI _ _ _ _).mono ?_;rintro e' w' ⟨rfl,rfl⟩))
   go_ret
   exact⟨aD (ab hq).symm,(aW)⟩
  have hp:=br.1 d0
  by_cases d1:z≤4*p
  ·have hs':fD 2 z p=true:=by rw[hs,d0];simp[d1]
   clear hs
   cases x0:bH l 0 20
   ·have hq:Hid (aV s t 2 z p l e v r=false):=ae (by simp[aV,c0,c1,c2,c3,hs',x0])
    clear hs'
    go_enter Tryz.func37,Tryz.ntmps37
    go_wp2_with (first
     |(go_at_call 26;refine(aI _ _ _ _).mono ?_;rintro e' w' ⟨rfl,rfl⟩))
    go_ret
    exact⟨aD (ab hq).symm,(aW)⟩
   cases x1:bH e 1 4
   ·have hq:Hid (aV s t 2 z p l e v r=false):=ae (by simp[aV,c0,c1,c2,c3,hs',x0,x1])
    clear hs'
    go_enter Tryz.func37,Tryz.ntmps37
    go_wp2_with (first
     |(go_at_call 26;refine(aI _ _ _ _).mono ?_;rintro e' w' ⟨rfl,rfl⟩))
    go_ret
    exact⟨aD (ab hq).symm,(aW)⟩
   cases x2:bH v (-9) 9
   ·have hq:Hid (aV s t 2 z p l e v r=false):=ae (by simp[aV,c0,c1,c2,c3,hs',x0,x1,x2])
    clear hs'
    go_enter Tryz.func37,Tryz.ntmps37
    go_wp2_with (first
     |(go_at_call 26;refine(aI _ _ _ _).mono ?_;rintro e' w' ⟨rfl,rfl⟩))
    go_ret
    exact⟨aD (ab hq).symm,(aW)⟩
   have hq:Hid (aV s t 2 z p l e v r=bH r 1 4):=ae (by simp[aV,c0,c1,c2,c3,hs',x0,x1,x2])
   clear hs'
   go_enter Tryz.func37,Tryz.ntmps37
   go_wp2_with (first
    |(go_at_call 26;refine(aI _ _ _ _).mono ?_;rintro e' w' ⟨rfl,rfl⟩))
   go_ret
   exact⟨aD (ab hq).symm,(aW)⟩
  ·have hs':fD 2 z p=false:=by rw[hs,d0];simp[d1]
   have hq:Hid (aV s t 2 z p l e v r=false):=ae (by simp[aV,hs'])
   clear hs hs'
   go_enter Tryz.func37,Tryz.ntmps37
   go_wp2_with (first
    |(go_at_call 26;refine(aI _ _ _ _).mono ?_;rintro e' w' ⟨rfl,rfl⟩))
   go_ret
   exact⟨aD (ab hq).symm,(aW)⟩
 have hs:=stepB_n h2 z p
 have g2:(k==2)=false:=by simpa using h2
 have g3:(k != 2)=true:=by simpa using h2
 clear h2
 cases d0:(p==0)
 ·have g4:(p != 0)=true:=by simpa using d0
  have hq:Hid (aV s t k z p l e v r=false):=ae (by simp[aV,hs,d0])
  clear hs
  go_enter Tryz.func37,Tryz.ntmps37
  go_wp2_with (first
   |(go_at_call 26;refine(aI _ _ _ _).mono ?_;rintro e' w' ⟨rfl,rfl⟩))
  go_ret
  exact⟨aD (ab hq).symm,(aW)⟩
 have g4:(p != 0)=false:=by simpa using d0
 cases x0:bH l 0 20
 ·have hq:Hid (aV s t k z p l e v r=false):=ae (by simp[aV,c0,c1,c2,c3,hs,d0,x0])
  clear hs
  go_enter Tryz.func37,Tryz.ntmps37
  go_wp2_with (first
   |(go_at_call 26;refine(aI _ _ _ _).mono ?_;rintro e' w' ⟨rfl,rfl⟩))
  go_ret
  exact⟨aD (ab hq).symm,(aW)⟩
 cases x1:bH e 1 4
 ·have hq:Hid (aV s t k z p l e v r=false):=ae (by simp[aV,c0,c1,c2,c3,hs,d0,x0,x1])
  clear hs
  go_enter Tryz.func37,Tryz.ntmps37
  go_wp2_with (first
   |(go_at_call 26;refine(aI _ _ _ _).mono ?_;rintro e' w' ⟨rfl,rfl⟩))
  go_ret
  exact⟨aD (ab hq).symm,(aW)⟩
 cases x2:bH v (-9) 9
 ·have hq:Hid (aV s t k z p l e v r=false):=ae (by simp[aV,c0,c1,c2,c3,hs,d0,x0,x1,x2])
  clear hs
  go_enter Tryz.func37,Tryz.ntmps37
  go_wp2_with (first
   |(go_at_call 26;refine(aI _ _ _ _).mono ?_;rintro e' w' ⟨rfl,rfl⟩))
  go_ret
  exact⟨aD (ab hq).symm,(aW)⟩
 have hq:Hid (aV s t k z p l e v r=bH r 1 4):=ae (by simp[aV,c0,c1,c2,c3,hs,d0,x0,x1,x2])
 clear hs
 go_enter Tryz.func37,Tryz.ntmps37
 go_wp2_with (first
  |(go_at_call 26;refine(aI _ _ _ _).mono ?_;rintro e' w' ⟨rfl,rfl⟩))
 go_ret
 exact⟨aD (ab hq).symm,(aW)⟩
set_option maxHeartbeats 1000000 in
theorem ca(s t k z p l e:Int)(b:Bool)(v r:Int)(w:World):Calls Tryz.prog 41 #[.agg #[.int .i64 s,.int .i64 t,.int .i64 k,.int .i64 z,.int .i64 p,.int .i64 l,.int .i64 e,.bool b,.int .i64 v,.int .i64 r]] w fun e' w'=>e'= .returned (.bool (aV s t k z p l e v r))∧Below w.heap.size w w':=by
 cases c0:bH s 1 3
 ·have hq:Hid (aV s t k z p l e v r=false):=ae (by simp[aV,c0])
  go_enter Tryz.func41,Tryz.ntmps41
  go_wp2_with (first
   |(go_at_call 34;refine(aA _ _ _ _).mono ?_;rintro e' w' ⟨rfl,rfl⟩)
   |(go_at_call 70;refine(dc _ _ _ _ _ _ _ _ _ _ (by omega) _).mono ?_;rintro e' w' ⟨rfl,hb⟩;obtain⟨hc,hf,hsz⟩:=az hb;(try have hz0:=zA hb w.heap.size)))
  go_ret
  exact⟨aD (ab hq).symm,(aW)⟩
 cases c1:bH t 1 2
 ·have hq:Hid (aV s t k z p l e v r=false):=ae (by simp[aV,c0,c1])
  go_enter Tryz.func41,Tryz.ntmps41
  go_wp2_with (first
   |(go_at_call 34;refine(aA _ _ _ _).mono ?_;rintro e' w' ⟨rfl,rfl⟩)
   |(go_at_call 70;refine(dc _ _ _ _ _ _ _ _ _ _ (by omega) _).mono ?_;rintro e' w' ⟨rfl,hb⟩;obtain⟨hc,hf,hsz⟩:=az hb;(try have hz0:=zA hb w.heap.size)))
  go_ret
  exact⟨aD (ab hq).symm,(aW)⟩
 cases c2:bH k 1 3
 ·have hq:Hid (aV s t k z p l e v r=false):=ae (by simp[aV,c0,c1,c2])
  go_enter Tryz.func41,Tryz.ntmps41
  go_wp2_with (first
   |(go_at_call 34;refine(aA _ _ _ _).mono ?_;rintro e' w' ⟨rfl,rfl⟩)
   |(go_at_call 70;refine(dc _ _ _ _ _ _ _ _ _ _ (by omega) _).mono ?_;rintro e' w' ⟨rfl,hb⟩;obtain⟨hc,hf,hsz⟩:=az hb;(try have hz0:=zA hb w.heap.size)))
  go_ret
  exact⟨aD (ab hq).symm,(aW)⟩
 cases c3:bH z 1 20
 ·have hq:Hid (aV s t k z p l e v r=false):=ae (by simp[aV,c0,c1,c2,c3])
  go_enter Tryz.func41,Tryz.ntmps41
  go_wp2_with (first
   |(go_at_call 34;refine(aA _ _ _ _).mono ?_;rintro e' w' ⟨rfl,rfl⟩)
   |(go_at_call 70;refine(dc _ _ _ _ _ _ _ _ _ _ (by omega) _).mono ?_;rintro e' w' ⟨rfl,hb⟩;obtain⟨hc,hf,hsz⟩:=az hb;(try have hz0:=zA hb w.heap.size)))
  go_ret
  exact⟨aD (ab hq).symm,(aW)⟩
 have hz:=br.1 c3
 cases d0:fD k z p
 ·have hq:Hid (aV s t k z p l e v r=false):=ae (by simp[aV,c0,c1,c2,c3,d0])
  go_enter Tryz.func41,Tryz.ntmps41
  go_wp2_with (first
   |(go_at_call 34;refine(aA _ _ _ _).mono ?_;rintro e' w' ⟨rfl,rfl⟩)
   |(go_at_call 70;refine(dc _ _ _ _ _ _ _ _ _ _ (by omega) _).mono ?_;rintro e' w' ⟨rfl,hb⟩;obtain⟨hc,hf,hsz⟩:=az hb;(try have hz0:=zA hb w.heap.size)))
  go_ret
  exact⟨aD (ab hq).symm,(aW)⟩
 cases d1:bH l 0 20
 ·have hq:Hid (aV s t k z p l e v r=false):=ae (by simp[aV,c0,c1,c2,c3,d0,d1])
  go_enter Tryz.func41,Tryz.ntmps41
  go_wp2_with (first
   |(go_at_call 34;refine(aA _ _ _ _).mono ?_;rintro e' w' ⟨rfl,rfl⟩)
   |(go_at_call 70;refine(dc _ _ _ _ _ _ _ _ _ _ (by omega) _).mono ?_;rintro e' w' ⟨rfl,hb⟩;obtain⟨hc,hf,hsz⟩:=az hb;(try have hz0:=zA hb w.heap.size)))
  go_ret
  exact⟨aD (ab hq).symm,(aW)⟩
 cases d2:bH e 1 4
 ·have hq:Hid (aV s t k z p l e v r=false):=ae (by simp[aV,c0,c1,c2,c3,d0,d1,d2])
  go_enter Tryz.func41,Tryz.ntmps41
  go_wp2_with (first
   |(go_at_call 34;refine(aA _ _ _ _).mono ?_;rintro e' w' ⟨rfl,rfl⟩)
   |(go_at_call 70;refine(dc _ _ _ _ _ _ _ _ _ _ (by omega) _).mono ?_;rintro e' w' ⟨rfl,hb⟩;obtain⟨hc,hf,hsz⟩:=az hb;(try have hz0:=zA hb w.heap.size)))
  go_ret
  exact⟨aD (ab hq).symm,(aW)⟩
 cases d3:bH v (-9) 9
 ·have hq:Hid (aV s t k z p l e v r=false):=ae (by simp[aV,c0,c1,c2,c3,d0,d1,d2,d3])
  go_enter Tryz.func41,Tryz.ntmps41
  go_wp2_with (first
   |(go_at_call 34;refine(aA _ _ _ _).mono ?_;rintro e' w' ⟨rfl,rfl⟩)
   |(go_at_call 70;refine(dc _ _ _ _ _ _ _ _ _ _ (by omega) _).mono ?_;rintro e' w' ⟨rfl,hb⟩;obtain⟨hc,hf,hsz⟩:=az hb;(try have hz0:=zA hb w.heap.size)))
  go_ret
  exact⟨aD (ab hq).symm,(aW)⟩
 have hq:Hid (aV s t k z p l e v r=bH r 1 4):=ae (by simp[aV,c0,c1,c2,c3,d0,d1,d2,d3])
 go_enter Tryz.func41,Tryz.ntmps41
 go_wp2_with (first
  |(go_at_call 34;refine(aA _ _ _ _).mono ?_;rintro e' w' ⟨rfl,rfl⟩)
  |(go_at_call 70;refine(dc _ _ _ _ _ _ _ _ _ _ (by omega) _).mono ?_;rintro e' w' ⟨rfl,hb⟩;obtain⟨hc,hf,hsz⟩:=az hb;(try have hz0:=zA hb w.heap.size)))
 go_ret
 exact⟨aD (ab hq).symm,(aW)⟩
end Go.Proofs.YtdmhihcipkhecaaGreat
