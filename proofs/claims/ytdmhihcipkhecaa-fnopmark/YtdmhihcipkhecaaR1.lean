/- Laid together: what the claim needs of the texts that were built one by one. -/
import Derived.Test.YtdmhihcipkhecaaR0
import Derived.Stop.RegionWithIn
import Derived.Test.YtdmhihcipkhecaaRows
import Derived.Deep.Slices
import Derived.Lib.SmallJoins
import Derived.OwnWalk
import Derived.WalkSpells
import Derived.Deep.RegionHeld3
set_option linter.unusedVariables false
namespace Go.Proofs.Ytdmhihcipkhecaa
open Go.RowKit Go.Shelf Go.Maps
attribute [local go_sem] Oper.semAt_some
/-- A map's values, read as they are. -/
def rdV(v:Value):Option (DataW Value×List MemPlace):=some (.held v,[])
/-- Block b is a map of at most n places that holds what m says. -/
def cD(w:World)(b n:Nat)(m:P3→Option Value):Prop:=bq w Try.prog 70 rdV b n v3 gP DataW.held m
theorem cD.look{w:World}{b n:Nat}{m:P3→Option Value}(h:cD w b n m){z:Value}(hz:(zeroValue 80).run Try.prog w= .ok z w)(q:P3)(hq:gP q):
  (Instr.lookup 59 (.map (some b)) (.agg #[.int .i64 q.1,.int .i64 q.2.1,.int .i64 q.2.2]) false).run Try.prog w= .ok ((m q).getD z) w:=by
 obtain⟨v,ps,h1,h2⟩:=bq.look h iP Try.underlying59 hz (zd:= .held z) (zp:=[]) rfl some3 q hq
 have e:v=(m q).getD z:=by
  cases hm:m q with
  |none=>rw[hm]at h2;simp[rdV]at h2;exact h2.1
  |some a=>rw[hm]at h2;simp[rdV]at h2;exact h2.1
 rw[←e]
 exact h1
/-- The keys of a map, each once. -/
def KeysOf{V:Type}(m:P3→Option V)(ss:List P3):Prop:=ss.Nodup∧∀q,q ∈ ss↔(gP q∧m q≠none)
/-- What is told of a map: its places in order, each with what stands there. -/
def InOrd{V:Type}(z:V)(m:P3→Option V)(ys:List (P3×V)):Prop:=∃ss,KeysOf m ss∧ys=(ft ss).map (fun q=>(q,(m q).getD z))
/-- What a round keeps: maps, and blocks of places and of maps' names. -/
def gV(W W':World):Prop:=KeepsWalks W W'∧∀(b:Nat) (cs:Array Value) (ty:TypeId),(ty=70∨ty=59)→W.heap[b]? =some (Obj.cells cs ty (0,0))→W'.heap[b]? =some (Obj.cells cs ty (0,0))
theorem gV.rfl'(W:World):gV W W:=⟨KeepsWalks.refl W,fun _ _ _ _ h=>h⟩
theorem gV.trans{A B C:World}(h:gV A B)(k:gV B C):gV A C:=⟨h.1.trans k.1,fun b cs ty ht hb=>k.2 b cs ty ht (h.2 b cs ty ht hb)⟩
theorem gV.put{w:World}(W:World)(l:Nat)(o o':Obj)(hl:w.heap.size≤l)(h:W.heap[l]? =some o)(hc:o.isCells=false)(hw:o.isWalk=false):gV W (W.putObj l o'):=by
 refine⟨KeepsWalks.putObj _ h hw,fun b cs ty _ hb=>?_⟩
 have hne:b≠l:=by
  rintro rfl
  rw[hb]at h
  cases h
  cases hc
 rw[World.putObj_heap_other hne]
 exact hb
theorem gV.of_bel{W W':World}(hb:Below W.heap.size W W'):gV W W':=⟨⟨hb.size,fun k o hk _=>(hb.block k (Array.getElem?_eq_some_iff.1 hk).1).trans hk⟩,fun b cs ty _ h=>(hb.block b (Array.getElem?_eq_some_iff.1 h).1).trans h⟩
theorem cD.kp{W W':World}{b n:Nat}{m:P3→Option Value}(h:cD W b n m)(k:KeepsWalks W W'):cD W' b n m:=by
 obtain⟨D,⟨es,clock,h1,h2⟩,hf⟩:=h
 exact⟨D,⟨es,clock,k.same b _ h1 rfl,h2⟩,hf⟩
theorem own3_kp{B:Nat}{W W':World}{v:Value}{ys:List P3}(h:ki W B v ys)(hk:gV W W'):ki W' B v ys:=by
 rcases h with⟨hl,h|⟨g,cap,cur,hv,hB,hblk,r⟩⟩
 ·exact⟨hl,Or.inl h⟩
 ·exact⟨hl,Or.inr ⟨g,cap,cur,hv,hB,hk.2 g cur _ (Or.inl rfl) hblk,r⟩⟩
/-- A slice of places of one's own, read. -/
theorem hold3{W:World}{B:Nat}{v:Value}{ys:List P3}(h:ki W B v ys):∃a cap,v= .slice a ys.length cap∧(∀i x,ys[i]? =some x→∃g,a=some ⟨g,0,none⟩∧g<W.heap.size∧W.cell? ⟨g,i*3,none⟩=some (.int .i64 x.1)∧W.cell? ⟨g,i*3+1,none⟩=some (.int .i64 x.2.1)∧W.cell? ⟨g,i*3+2,none⟩=some (.int .i64 x.2.2)):=by
 obtain⟨hl,⟨rfl,h0⟩|⟨g,cap,cur,rfl,hB,hblk,h1,h2,h3,h4⟩⟩:=h
 ·rw[h0]
  refine⟨none,0,rfl,fun i x hx=>?_⟩
  rw[List.eq_nil_of_length_eq_zero h0]at hx
  simp at hx
 ·refine⟨_,cap,rfl,fun i x hx=>⟨g,rfl,(Array.getElem?_eq_some_iff.1 hblk).1,?_⟩⟩
  have hi:i<ys.length:=(List.getElem?_eq_some_iff.1 hx).1
  have hy:ys[i]! =x:=by rw[List.getElem!_eq_getElem?_getD,hx];rfl
  have hc:∀j,j<3→W.cell? ⟨g,i*3+j,none⟩=(dI x)[j]? :=by
   intro j hj
   rw[cA hblk,←Array.getElem?_toList]
   have h5:(cur.toList.take (ys.length*3))[i*3+j]? =(eA ys)[i*3+j]? :=by rw[h4]
   rw[List.getElem?_take_of_lt (by omega)]at h5
   rw[h5,gU ys _ (by omega)]
   have e1:(i*3+j) / 3=i:=by omega
   have e2:(i*3+j) % 3=j:=by omega
   rw[e1,e2,hy]
  exact⟨hc 0 (by omega),hc 1 (by omega),hc 2 (by omega)⟩
theorem ents_at{V:Type}{z:V}{m:P3→Option V}{ss:List P3}{i:Nat}{x:P3}(h:ss[i]? =some x):(ss.take (i+1)).map (fun q=>(q,(m q).getD z))=(ss.take i).map (fun q=>(q,(m q).getD z))++[(x,(m x).getD z)]:=by
 rw[List.take_add_one,h];simp
set_option maxRecDepth 100000 in
set_option maxHeartbeats 4000000 in
theorem inord_in(n:Nat)(hn:8≤n)(lb0 Bm b nn:Nat){V:Type}(ev:V→Value)(m:P3→Option V)(z:V)(hz:∀u:World,(zeroValue 80).run Try.prog u= .ok (ev z) u)(J Jx:List (P3×V)→World→Prop)(PX:P3×V→Prop)(hPX:∀q,gP q→∀a,m q=some a→PX (q,a))
  (hY:∀pre x W,PX x→J pre W→pre.length<nn→YieldAt Fence.wide (n - 1) Try.prog lb0 #[.agg #[.int .i64 x.1.1,.int .i64 x.1.2.1,.int .i64 x.1.2.2],ev x.2] W fun e W'=>
   (e= .returned (.bool true)∧J (pre++[x]) W'∧gV W W')∨(e= .returned (.bool false)∧Jx (pre++[x]) W'))
  (W:World) (hJ:AbidesFrom W.heap.size J) (hnn:nn≤1048577) (hm:W.heap[Bm]? =some (.cells #[.map (some b)] 59 (0,0))) (hown:cD W b nn (fun q=>(m q).map ev)) (h0:J [] W):
  CallsIn Fence.wide n Try.prog 58 #[.func (.yield lb0) #[] #[],.pointer (some ⟨Bm,0,none⟩)] W fun e W'=>(∃v,e= .returned v)∧
   ((∃ys,InOrd z m ys∧J ys W')∨(∃pre,True∧Jx pre W')):=by
 have hBm:Bm<W.heap.size:=(Array.getElem?_eq_some_iff.1 hm).1
 have hmc:W.cell? ⟨Bm,0,none⟩=some (.map (some b)):=cA hm 0
 obtain⟨D0,hD0,hD1⟩:=hown
 have hOV:cD W b nn (fun q=>(m q).map ev):=⟨D0,hD0,hD1⟩
 have hsz:Maps.size D0≤nn:=hD0.size_le
 have hb1:Below W.heap.size W (W.alloc (.cells #[.map (some b)] 59)):=ax _ _
 have hD0':(W.alloc (.cells #[.map (some b)] 59)).ownsMap Try.prog 70 rdV b nn D0:=hD0.kept ⟨hb1.os,hb1.tape,hb1.output,hb1.size,fun k hk _=>hb1.block k hk⟩ (row:=none) (by simp)
 have hseq:=keysT_stops 5 (by omega) W.heap.size b nn D0 (W.alloc (.cells #[.map (some b)] 59)) (by simp) (ne) hD0'
 refine callsIn_of_wp Try.func58 rfl trivial ?_ rfl
 simp only[Try.ntmps58,List.size_toArray,List.length_cons,List.length_nil,Nat.reduceAdd,Nat.reduceSub,Array.replicate_succ,Array.replicate_zero,List.push_toArray,List.append_toArray,List.nil_append,List.cons_append]
 gi_wp2_with (first
  |(refine⟨trivial,fun _=>(by omega),?_⟩;gi_at_call 60;refine(callsIn_wide.2 (keysT_any b _)).mono ?_;rintro e' w1 ⟨rfl,hw1⟩;subst hw1)
  |(refine⟨trivial,fun _=>(by omega),?_⟩;gi_at_call 59;refine(callsIn_wide.2 (sorted3 _ _ (enters_of Try.func68 (ni) rfl) _ _ (Maps.size D0) (by omega) _ hseq)).mono ?_;rintro e' w2 ⟨vs,ss,rfl,hKA,hsl,hO3,hb2⟩;obtain⟨aa,cs,rfl,_⟩:=hold3 hO3))
 have hKO:KeysOf m ss:=by
  obtain⟨k1,k2⟩:=fy.all hKA some3 hD1 (fun _=>rfl)
  exact⟨k1,fun q=>by rw[k2 q];simp⟩
 have hbW:Below W.heap.size W w2:=ap hb1 hb2
 have hJ2:J [] w2:=hJ [] W w2 none h0 (aJ hbW) (fun r e=>by cases e)
 have hm2:w2.heap[Bm]? =some (.cells #[.map (some b)] 59 (0,0)):=(hbW.block Bm hBm).trans hm
 have hO2:cD w2 b nn (fun q=>(m q).map ev):=hOV.kp (gV.of_bel hbW).1
 have hls:(ft ss).length≤nn:=by rw[fA];omega
 have hok:∀x ∈ ft ss,gP x:=fun x hx=>((hKO.2 x).1 ((fN ss).mem_iff.1 hx)).1
 have hsm:∀x ∈ ft ss,m x≠none:=fun x hx=>((hKO.2 x).1 ((fN ss).mem_iff.1 hx)).2
 have HI:Hid (InOrd z m ((ft ss).map (fun q=>(q,(m q).getD z)))):=ae ⟨ss,hKO,rfl⟩
 clear hKO hKA hsl hD0 hD1 hOV hD0' hseq hb1 hb2 h0 hm hmc hbW hsz
 generalize ft ss=ts at hls hok hsm HI hO3 ⊢
 gi_loopw [9] (fun iv wr=>∃i:Nat,i≤ts.length∧iv= .int .i64 i∧Hid (J ((ts.take i).map (fun q=>(q,(m q).getD z))) wr)∧Hid (wr.heap[Bm]? =some (.cells #[.map (some b)] 59 (0,0)))∧Hid (cD wr b nn (fun q=>(m q).map ev))∧Hid (ki wr (W.alloc (.cells #[.map (some b)] 59)).heap.size (.slice aa ts.length cs) ts)) (fun iv _=>ts.length - (intOf iv).toNat)
 case atStart=>exact⟨0,Nat.zero_le _,rfl,ae (by simpa using hJ2),ae hm2,ae hO2,ae hO3⟩
 case round=>
  clear hJ2 hm2 hO2 hO3
  obtain⟨i,hil,rfl,hJs,hmr,hOr,h3r⟩:=hrel
  by_cases hlt:i<ts.length
  ·obtain⟨x,hxk⟩:∃x,ts[i]? =some x:=⟨_,List.getElem?_eq_getElem hlt⟩
   have hxo:=hok x (List.mem_of_getElem? hxk)
   have hxm:=hsm x (List.mem_of_getElem? hxk)
   obtain⟨a',cs',e9,hcl⟩:=hold3 (ab h3r)
   simp at e9
   obtain⟨rfl,rfl⟩:=e9
   obtain⟨g,rfl,hgl,c0,c1,c2⟩:=hcl i x hxk
   have HX:=ae (ents_at (z:=z) (m:=m) hxk)
   clear hxk hcl
   obtain⟨xa,xb,xc⟩:=x
   dsimp only at c0 c1 c2
   have hmc:=cA (ab hmr) 0
   have hBl:Bm<wr.heap.size:=(Array.getElem?_eq_some_iff.1 (ab hmr)).1
   have hbd:Below wr.heap.size wr (wr.alloc (.cells #[.int .i64 xa,.int .i64 xb,.int .i64 xc] 70)).drew:=aq (ax _ _)
   have hlk:=((ab hOr).kp (gV.of_bel hbd).1).look (hz _) (xa,xb,xc) hxo
   have hJd:=hJ _ wr _ none (ab hJs) (aJ hbd) (fun r e=>by cases e)
   obtain⟨vv,hvv⟩:∃vv,(m (xa,xb,xc)).getD z=vv:=⟨_,rfl⟩
   have hev:((m (xa,xb,xc)).map ev).getD (ev z)=ev vv:=by rw[←hvv];cases m (xa,xb,xc)<;>rfl
   rw[hev]at hlk
   rw[hvv]at HX
   have hpx:PX ((xa,xb,xc),vv):=by
    refine hPX _ hxo _ ?_
    cases h9:m (xa,xb,xc)with
    |none=>exact absurd h9 hxm
    |some a9=>rw[h9]at hvv;simp at hvv;rw[hvv]
   clear hev
   obtain⟨fn,tmps,assign,body,hy,hR⟩:=hY _ ((xa,xb,xc),vv) _ hpx hJd (by rw[List.length_map,List.length_take];omega)
   dsimp only at hlk hy hR
   have hR2:RoundIn Fence.wide (n - 1) Try.prog lb0 fn tmps assign body (wr.alloc (.cells #[.int .i64 xa,.int .i64 xb,.int .i64 xc] 70)).drew fun e W'=>∃bb:Bool,e= .returned (.bool bb)∧Hid ((bb=true∧J ((ts.take i).map (fun q=>(q,(m q).getD z))++[((xa,xb,xc),vv)]) W'∧gV (wr.alloc (.cells #[.int .i64 xa,.int .i64 xb,.int .i64 xc] 70)).drew W')∨(bb=false∧Jx ((ts.take i).map (fun q=>(q,(m q).getD z))++[((xa,xb,xc),vv)]) W')):=hR.mono (fun e W' h9=>by
    rcases h9 with⟨rfl,h1,h2⟩|⟨rfl,h1⟩
    ·exact⟨true,rfl,ae (.inl ⟨rfl,h1,h2⟩)⟩
    ·exact⟨false,rfl,ae (.inr ⟨rfl,h1⟩)⟩)
   clear hR hvv hJd hbd
   gi_wp2
   gi_region_with (refine⟨fun _=>(by omega),hR2.mono ?_⟩;rintro e' W3 ⟨bb,rfl,H3⟩)
   all_goals
    rcases ab H3 with⟨rfl,hJ3,hk3⟩|⟨rfl,hJx3⟩
    ·have hk4:gV wr W3:=(gV.of_bel (aq (ax _ _))).trans hk3
     have HJ:Hid (J ((ts.take (i+1)).map (fun q=>(q,(m q).getD z))) W3):=ae (by rw[ab HX];exact hJ3)
     have HM:=ae (hk4.2 Bm _ _ (Or.inr rfl) (ab hmr))
     have HO:=ae ((ab hOr).kp hk4.1)
     have H3r:=ae (own3_kp (ab h3r) hk4)
     clear hJs hmr hOr h3r hJ3 hk3 hk4 H3
     gi_wp2
     go_roundw
     case rel=>exact⟨i+1,by omega,by go_num,HJ,HM,HO,H3r⟩
     case measure=>simp[intOf];omega
    ·clear hJs hmr hOr h3r H3
     gi_wp2
     refine bodyPost_ret (results_none rfl _ _ _) rfl ?_
     exact⟨⟨_,rfl⟩,.inr ⟨_,trivial,hJx3⟩⟩
  ·gi_wp2
   go_end0
   exact⟨⟨_,rfl⟩,.inl ⟨_,ab HI,by have h9:=ab hJs;rw[List.take_of_length_le (by omega)]at h9;exact h9⟩⟩
theorem lift_sub{α:Type}{p:α→Prop}(l:List {x:α // p x})(x:α)(hx:p x):(l++[(⟨x,hx⟩: {x:α // p x})]).map (fun y=>y.1)=l.map (fun y=>y.1)++[x]:=by rw[List.map_append];rfl
/-- The same, told that each thing that comes is one of the map's. -/
theorem gv(n:Nat)(hn:8≤n)(Bm b nn:Nat){V:Type}(ev:V→Value)(m:P3→Option V)(z:V)(hz:∀u:World,(zeroValue 80).run Try.prog u= .ok (ev z) u)(PX:P3×V→Prop)(hPX:∀q,gP q→∀a,m q=some a→PX (q,a))(w:World)(hnn:nn≤1048577)(hm:w.heap[Bm]? =some (.cells #[.map (some b)] 59 (0,0)))(hown:cD w b nn (fun q=>(m q).map ev)):
  SeqStopsK Fence.wide n Try.prog 58 #[.pointer (some ⟨Bm,0,none⟩)] (fun x: {x:P3×V // PX x}=>#[.agg #[.int .i64 x.1.1.1,.int .i64 x.1.1.2.1,.int .i64 x.1.1.2.2],ev x.1.2]) gV (fun ys=>InOrd z m (ys.map (·.1))) (fun _=>True) nn w:=fun l J Jx W hW hJ hJx hY h0=>by
 refine(inord_in n hn l Bm b nn ev m z hz (fun l9 W=>∃l':List {x:P3×V // PX x},l'.map (·.1)=l9∧J l' W) (fun l9 W=>∃l':List {x:P3×V // PX x},l'.map (·.1)=l9∧Jx l' W) PX hPX ?_ W ?_ hnn ((hW.block Bm (Array.getElem?_eq_some_iff.1 hm).1).trans hm) (hown.kp (gV.of_bel hW).1) ⟨[],rfl,h0⟩).mono ?_
 ·rintro pre x W1 hx ⟨pre',rfl,hj⟩ hl
  obtain⟨fn,tmps,assign,body,hy,hR⟩:=hY pre' ⟨x,hx⟩ W1 hj (by simpa using hl)
  refine⟨fn,tmps,assign,body,hy,hR.mono ?_⟩
  rintro e9 W' (⟨rfl,h1,h2⟩|⟨rfl,h1⟩)
  ·exact .inl ⟨rfl,⟨pre'++[⟨x,hx⟩],lift_sub _ _ _,h1⟩,h2⟩
  ·exact .inr ⟨rfl,⟨pre'++[⟨x,hx⟩],lift_sub _ _ _,h1⟩⟩
 ·rintro s9 A B row ⟨l',e1,hj⟩ hg hr
  exact⟨l',e1,hJ l' A B row hj hg hr⟩
 ·rintro e9 W' ⟨hv,⟨ys,hI,l',e1,hj⟩|⟨pre,_,l',e1,hj⟩⟩
  ·exact⟨hv,.inl ⟨l',by show InOrd z m (l'.map (fun x=>x.1));rw[e1];exact hI,hj⟩⟩
  ·exact⟨hv,.inr ⟨l',trivial,hj⟩⟩
theorem im(mb:Nat)(w:World):Calls Try.prog 39 #[.map (some mb)] w fun e w'=>e= .returned (.func (.func 58) #[] #[.pointer (some ⟨w.heap.size,0,none⟩)])∧w'=w.alloc (.cells #[.map (some mb)] 59):=by
 go_enter Try.func39,Try.ntmps39
 go_wp2
 go_ret
 exact⟨rfl,rfl⟩
end Go.Proofs.Ytdmhihcipkhecaa
namespace Go.Proofs.Ytdmhihcipkhecaa
open Go.ChangeShapes Go.WideShapes Go.ChangeAt Go.RowKit
theorem dy{b0 b1 a0 a1 a2 a3 a4 a5 a6 a7 a8 a9 a10 a11 a12 c0 c1 c2 c3 c4 c5 c6 c7 c8 c9 bH c11 c12:Nat}{k0 k1 k2 k3 k4 k5 k6 k7 k8 k9 k10 k11 k12 l0 l1 l2 l3 l4 l5 l6 l7 l8 l9 l10 l11 l12:Value}{W W':World}(h:((W.cell? ⟨b0,a0,none⟩=some k0∧W.cell? ⟨b0,a1,none⟩=some k1∧W.cell? ⟨b0,a2,none⟩=some k2∧W.cell? ⟨b0,a3,none⟩=some k3∧W.cell? ⟨b0,a4,none⟩=some k4∧W.cell? ⟨b0,a5,none⟩=some k5∧W.cell? ⟨b0,a6,none⟩=some k6∧W.cell? ⟨b0,a7,none⟩=some k7∧W.cell? ⟨b0,a8,none⟩=some k8∧W.cell? ⟨b0,a9,none⟩=some k9∧W.cell? ⟨b0,a10,none⟩=some k10∧W.cell? ⟨b0,a11,none⟩=some k11∧W.cell? ⟨b0,a12,none⟩=some k12∧W.cell? ⟨b1,c0,none⟩=some l0∧W.cell? ⟨b1,c1,none⟩=some l1∧W.cell? ⟨b1,c2,none⟩=some l2∧W.cell? ⟨b1,c3,none⟩=some l3∧W.cell? ⟨b1,c4,none⟩=some l4∧W.cell? ⟨b1,c5,none⟩=some l5∧W.cell? ⟨b1,c6,none⟩=some l6∧W.cell? ⟨b1,c7,none⟩=some l7∧W.cell? ⟨b1,c8,none⟩=some l8∧W.cell? ⟨b1,c9,none⟩=some l9∧W.cell? ⟨b1,bH,none⟩=some l10∧W.cell? ⟨b1,c11,none⟩=some l11∧W.cell? ⟨b1,c12,none⟩=some l12)∧b0<W.heap.size∧b1<W.heap.size))(hb:Below W.heap.size W W'):((W'.cell? ⟨b0,a0,none⟩=some k0∧W'.cell? ⟨b0,a1,none⟩=some k1∧W'.cell? ⟨b0,a2,none⟩=some k2∧W'.cell? ⟨b0,a3,none⟩=some k3∧W'.cell? ⟨b0,a4,none⟩=some k4∧W'.cell? ⟨b0,a5,none⟩=some k5∧W'.cell? ⟨b0,a6,none⟩=some k6∧W'.cell? ⟨b0,a7,none⟩=some k7∧W'.cell? ⟨b0,a8,none⟩=some k8∧W'.cell? ⟨b0,a9,none⟩=some k9∧W'.cell? ⟨b0,a10,none⟩=some k10∧W'.cell? ⟨b0,a11,none⟩=some k11∧W'.cell? ⟨b0,a12,none⟩=some k12∧W'.cell? ⟨b1,c0,none⟩=some l0∧W'.cell? ⟨b1,c1,none⟩=some l1∧W'.cell? ⟨b1,c2,none⟩=some l2∧W'.cell? ⟨b1,c3,none⟩=some l3∧W'.cell? ⟨b1,c4,none⟩=some l4∧W'.cell? ⟨b1,c5,none⟩=some l5∧W'.cell? ⟨b1,c6,none⟩=some l6∧W'.cell? ⟨b1,c7,none⟩=some l7∧W'.cell? ⟨b1,c8,none⟩=some l8∧W'.cell? ⟨b1,c9,none⟩=some l9∧W'.cell? ⟨b1,bH,none⟩=some l10∧W'.cell? ⟨b1,c11,none⟩=some l11∧W'.cell? ⟨b1,c12,none⟩=some l12)∧b0<W'.heap.size∧b1<W'.heap.size):=by
 obtain⟨h99,s0,s1⟩:=h
 have e0:∀z,W'.cell? ⟨b0,z,none⟩=W.cell? ⟨b0,z,none⟩:=fun z=>hb.cell s0
 have e1:∀z,W'.cell? ⟨b1,z,none⟩=W.cell? ⟨b1,z,none⟩:=fun z=>hb.cell s1
 refine⟨?_,Nat.lt_of_lt_of_le s0 hb.size,Nat.lt_of_lt_of_le s1 hb.size⟩
 simp only[e0,e1]
 exact h99
theorem eO{b0 b1 a0 a1 a2 a3 a4 a5 a6 a7 a8 a9 a10 a11 a12 c0 c1 c2 c3 c4 c5 c6 c7 c8 c9 bH c11 c12:Nat}{k0 k1 k2 k3 k4 k5 k6 k7 k8 k9 k10 k11 k12 l0 l1 l2 l3 l4 l5 l6 l7 l8 l9 l10 l11 l12:Value}{W:World}{p:Addr}(h:((W.cell? ⟨b0,a0,none⟩=some k0∧W.cell? ⟨b0,a1,none⟩=some k1∧W.cell? ⟨b0,a2,none⟩=some k2∧W.cell? ⟨b0,a3,none⟩=some k3∧W.cell? ⟨b0,a4,none⟩=some k4∧W.cell? ⟨b0,a5,none⟩=some k5∧W.cell? ⟨b0,a6,none⟩=some k6∧W.cell? ⟨b0,a7,none⟩=some k7∧W.cell? ⟨b0,a8,none⟩=some k8∧W.cell? ⟨b0,a9,none⟩=some k9∧W.cell? ⟨b0,a10,none⟩=some k10∧W.cell? ⟨b0,a11,none⟩=some k11∧W.cell? ⟨b0,a12,none⟩=some k12∧W.cell? ⟨b1,c0,none⟩=some l0∧W.cell? ⟨b1,c1,none⟩=some l1∧W.cell? ⟨b1,c2,none⟩=some l2∧W.cell? ⟨b1,c3,none⟩=some l3∧W.cell? ⟨b1,c4,none⟩=some l4∧W.cell? ⟨b1,c5,none⟩=some l5∧W.cell? ⟨b1,c6,none⟩=some l6∧W.cell? ⟨b1,c7,none⟩=some l7∧W.cell? ⟨b1,c8,none⟩=some l8∧W.cell? ⟨b1,c9,none⟩=some l9∧W.cell? ⟨b1,bH,none⟩=some l10∧W.cell? ⟨b1,c11,none⟩=some l11∧W.cell? ⟨b1,c12,none⟩=some l12)∧b0<W.heap.size∧b1<W.heap.size))(p0:p.block≠b0)(p1:p.block≠b1)(u:Value):(((W.setCell p u).cell? ⟨b0,a0,none⟩=some k0∧(W.setCell p u).cell? ⟨b0,a1,none⟩=some k1∧(W.setCell p u).cell? ⟨b0,a2,none⟩=some k2∧(W.setCell p u).cell? ⟨b0,a3,none⟩=some k3∧(W.setCell p u).cell? ⟨b0,a4,none⟩=some k4∧(W.setCell p u).cell? ⟨b0,a5,none⟩=some k5∧(W.setCell p u).cell? ⟨b0,a6,none⟩=some k6∧(W.setCell p u).cell? ⟨b0,a7,none⟩=some k7∧(W.setCell p u).cell? ⟨b0,a8,none⟩=some k8∧(W.setCell p u).cell? ⟨b0,a9,none⟩=some k9∧(W.setCell p u).cell? ⟨b0,a10,none⟩=some k10∧(W.setCell p u).cell? ⟨b0,a11,none⟩=some k11∧(W.setCell p u).cell? ⟨b0,a12,none⟩=some k12∧(W.setCell p u).cell? ⟨b1,c0,none⟩=some l0∧(W.setCell p u).cell? ⟨b1,c1,none⟩=some l1∧(W.setCell p u).cell? ⟨b1,c2,none⟩=some l2∧(W.setCell p u).cell? ⟨b1,c3,none⟩=some l3∧(W.setCell p u).cell? ⟨b1,c4,none⟩=some l4∧(W.setCell p u).cell? ⟨b1,c5,none⟩=some l5∧(W.setCell p u).cell? ⟨b1,c6,none⟩=some l6∧(W.setCell p u).cell? ⟨b1,c7,none⟩=some l7∧(W.setCell p u).cell? ⟨b1,c8,none⟩=some l8∧(W.setCell p u).cell? ⟨b1,c9,none⟩=some l9∧(W.setCell p u).cell? ⟨b1,bH,none⟩=some l10∧(W.setCell p u).cell? ⟨b1,c11,none⟩=some l11∧(W.setCell p u).cell? ⟨b1,c12,none⟩=some l12)∧b0<(W.setCell p u).heap.size∧b1<(W.setCell p u).heap.size):=by
 obtain⟨h99,s0,s1⟩:=h
 have hb:W.heap.size≤(W.setCell p u).heap.size:=by simp[World.setCell]
 have e0:∀z,(W.setCell p u).cell? ⟨b0,z,none⟩=W.cell? ⟨b0,z,none⟩:=fun z=>aT p0
 have e1:∀z,(W.setCell p u).cell? ⟨b1,z,none⟩=W.cell? ⟨b1,z,none⟩:=fun z=>aT p1
 refine⟨?_,Nat.lt_of_lt_of_le s0 hb,Nat.lt_of_lt_of_le s1 hb⟩
 simp only[e0,e1]
 exact h99
theorem fB{b0 b1 a0 a1 a2 a3 a4 a5 a6 a7 a8 a9 a10 a11 a12 c0 c1 c2 c3 c4 c5 c6 c7 c8 c9 bH c11 c12:Nat}{k0 k1 k2 k3 k4 k5 k6 k7 k8 k9 k10 k11 k12 l0 l1 l2 l3 l4 l5 l6 l7 l8 l9 l10 l11 l12:Value}{W:World}{o o':Obj}(h:(((W.alloc o).cell? ⟨b0,a0,none⟩=some k0∧(W.alloc o).cell? ⟨b0,a1,none⟩=some k1∧(W.alloc o).cell? ⟨b0,a2,none⟩=some k2∧(W.alloc o).cell? ⟨b0,a3,none⟩=some k3∧(W.alloc o).cell? ⟨b0,a4,none⟩=some k4∧(W.alloc o).cell? ⟨b0,a5,none⟩=some k5∧(W.alloc o).cell? ⟨b0,a6,none⟩=some k6∧(W.alloc o).cell? ⟨b0,a7,none⟩=some k7∧(W.alloc o).cell? ⟨b0,a8,none⟩=some k8∧(W.alloc o).cell? ⟨b0,a9,none⟩=some k9∧(W.alloc o).cell? ⟨b0,a10,none⟩=some k10∧(W.alloc o).cell? ⟨b0,a11,none⟩=some k11∧(W.alloc o).cell? ⟨b0,a12,none⟩=some k12∧(W.alloc o).cell? ⟨b1,c0,none⟩=some l0∧(W.alloc o).cell? ⟨b1,c1,none⟩=some l1∧(W.alloc o).cell? ⟨b1,c2,none⟩=some l2∧(W.alloc o).cell? ⟨b1,c3,none⟩=some l3∧(W.alloc o).cell? ⟨b1,c4,none⟩=some l4∧(W.alloc o).cell? ⟨b1,c5,none⟩=some l5∧(W.alloc o).cell? ⟨b1,c6,none⟩=some l6∧(W.alloc o).cell? ⟨b1,c7,none⟩=some l7∧(W.alloc o).cell? ⟨b1,c8,none⟩=some l8∧(W.alloc o).cell? ⟨b1,c9,none⟩=some l9∧(W.alloc o).cell? ⟨b1,bH,none⟩=some l10∧(W.alloc o).cell? ⟨b1,c11,none⟩=some l11∧(W.alloc o).cell? ⟨b1,c12,none⟩=some l12)∧b0<(W.alloc o).heap.size∧b1<(W.alloc o).heap.size))(p0:b0<W.heap.size)(p1:b1<W.heap.size):(((W.alloc o').cell? ⟨b0,a0,none⟩=some k0∧(W.alloc o').cell? ⟨b0,a1,none⟩=some k1∧(W.alloc o').cell? ⟨b0,a2,none⟩=some k2∧(W.alloc o').cell? ⟨b0,a3,none⟩=some k3∧(W.alloc o').cell? ⟨b0,a4,none⟩=some k4∧(W.alloc o').cell? ⟨b0,a5,none⟩=some k5∧(W.alloc o').cell? ⟨b0,a6,none⟩=some k6∧(W.alloc o').cell? ⟨b0,a7,none⟩=some k7∧(W.alloc o').cell? ⟨b0,a8,none⟩=some k8∧(W.alloc o').cell? ⟨b0,a9,none⟩=some k9∧(W.alloc o').cell? ⟨b0,a10,none⟩=some k10∧(W.alloc o').cell? ⟨b0,a11,none⟩=some k11∧(W.alloc o').cell? ⟨b0,a12,none⟩=some k12∧(W.alloc o').cell? ⟨b1,c0,none⟩=some l0∧(W.alloc o').cell? ⟨b1,c1,none⟩=some l1∧(W.alloc o').cell? ⟨b1,c2,none⟩=some l2∧(W.alloc o').cell? ⟨b1,c3,none⟩=some l3∧(W.alloc o').cell? ⟨b1,c4,none⟩=some l4∧(W.alloc o').cell? ⟨b1,c5,none⟩=some l5∧(W.alloc o').cell? ⟨b1,c6,none⟩=some l6∧(W.alloc o').cell? ⟨b1,c7,none⟩=some l7∧(W.alloc o').cell? ⟨b1,c8,none⟩=some l8∧(W.alloc o').cell? ⟨b1,c9,none⟩=some l9∧(W.alloc o').cell? ⟨b1,bH,none⟩=some l10∧(W.alloc o').cell? ⟨b1,c11,none⟩=some l11∧(W.alloc o').cell? ⟨b1,c12,none⟩=some l12)∧b0<(W.alloc o').heap.size∧b1<(W.alloc o').heap.size):=by
 obtain⟨h99,s0,s1⟩:=h
 have hb:Below W.heap.size (W.alloc o) (W.alloc o'):=fx W o o'
 have e0:∀z,(W.alloc o').cell? ⟨b0,z,none⟩=(W.alloc o).cell? ⟨b0,z,none⟩:=fun z=>hb.cell p0
 have e1:∀z,(W.alloc o').cell? ⟨b1,z,none⟩=(W.alloc o).cell? ⟨b1,z,none⟩:=fun z=>hb.cell p1
 refine⟨?_,Nat.lt_of_lt_of_le s0 hb.size,Nat.lt_of_lt_of_le s1 hb.size⟩
 simp only[e0,e1]
 exact h99
/-- A row of 13 numbers. -/
structure aD where
 ky:Int
 st:Int
 en:Int
 an:Int
 asu:Int
 ale:Int
 amo:Int
 fn:Int
 fsu:Int
 fle:Int
 fmo:Int
 td:Int
 tm:Bool
/-- A row lies in its cells; rows lie one behind the other; a slice's value holds rows. -/
def cf(W:World)(g o:Nat)(x:aD):Prop:=W.cell? ⟨g,o,none⟩=some (.int .i64 x.ky)∧W.cell? ⟨g,o+1,none⟩=some (.int .i64 x.st)∧W.cell? ⟨g,o+2,none⟩=some (.int .i64 x.en)∧W.cell? ⟨g,o+3,none⟩=some (.int .i64 x.an)∧W.cell? ⟨g,o+4,none⟩=some (.int .i64 x.asu)∧W.cell? ⟨g,o+5,none⟩=some (.int .i64 x.ale)∧W.cell? ⟨g,o+6,none⟩=some (.int .i64 x.amo)∧W.cell? ⟨g,o+7,none⟩=some (.int .i64 x.fn)∧W.cell? ⟨g,o+8,none⟩=some (.int .i64 x.fsu)∧W.cell? ⟨g,o+9,none⟩=some (.int .i64 x.fle)∧W.cell? ⟨g,o+10,none⟩=some (.int .i64 x.fmo)∧W.cell? ⟨g,o+11,none⟩=some (.int .i64 x.td)∧W.cell? ⟨g,o+12,none⟩=some (.bool x.tm)
def gc(W:World)(g o:Nat)(xs:List aD):Prop:=∀i x,xs[i]? =some x→cf W g (o+i*13) x
def bw(W:World)(a:Option Addr)(len:Nat)(xs:List aD):Prop:=xs.length=len∧len≤maxLen∧(len=0∨∃g o,a=some ⟨g,o,none⟩∧gc W g o xs)
theorem cf.lt{W:World}{g o:Nat}{x:aD}(h:cf W g o x):g<W.heap.size:=by
 obtain⟨h0,_⟩:=h
 rcases Nat.lt_or_ge g W.heap.size with hl|hg
 ·exact hl
 ·simp[World.cell?,Array.getElem?_eq_none hg]at h0
theorem gc.lt{W:World}{g o:Nat}{xs:List aD}(h:gc W g o xs)(hp:0<xs.length):g<W.heap.size:=(h 0 xs[0] (List.getElem?_eq_getElem hp)).lt
theorem cf.below{W W':World}{B g o:Nat}{x:aD}(h:cf W g o x)(hb:Below B W W')(hg:g<B):cf W' g o x:=by
 obtain⟨h0,h1,h2,h3,h4,h5,h6,h7,h8,h9,h10,h11,h12⟩:=h
 exact⟨(hb.cell (p:=⟨g,_,none⟩) hg).trans h0,(hb.cell (p:=⟨g,_,none⟩) hg).trans h1,(hb.cell (p:=⟨g,_,none⟩) hg).trans h2,(hb.cell (p:=⟨g,_,none⟩) hg).trans h3,(hb.cell (p:=⟨g,_,none⟩) hg).trans h4,(hb.cell (p:=⟨g,_,none⟩) hg).trans h5,(hb.cell (p:=⟨g,_,none⟩) hg).trans h6,(hb.cell (p:=⟨g,_,none⟩) hg).trans h7,(hb.cell (p:=⟨g,_,none⟩) hg).trans h8,(hb.cell (p:=⟨g,_,none⟩) hg).trans h9,(hb.cell (p:=⟨g,_,none⟩) hg).trans h10,(hb.cell (p:=⟨g,_,none⟩) hg).trans h11,(hb.cell (p:=⟨g,_,none⟩) hg).trans h12⟩
theorem gc.below{W W':World}{B g o:Nat}{xs:List aD}(h:gc W g o xs)(hb:Below B W W')(hg:0<xs.length→g<B):gc W' g o xs:=by
 intro i x hx
 have hlt:i<xs.length:=(List.getElem?_eq_some_iff.1 hx).1
 exact(h i x hx).below hb (hg (by omega))
theorem bw.below{W W':World}{a:Option Addr}{len:Nat}{xs:List aD}(h:bw W a len xs)(hb:Below W.heap.size W W'):bw W' a len xs:=by
 obtain⟨h1,h2,h3⟩:=h
 refine⟨h1,h2,?_⟩
 rcases h3 with h3|⟨g,o,ha,hr⟩
 ·exact Or.inl h3
 ·exact Or.inr ⟨g,o,ha,hr.below hb (fun hp=>hr.lt hp)⟩
theorem cf.grown{W W':World}{row:Option Nat}{g o:Nat}{x:aD}(h:cf W g o x)(hg:W.grownBy W' row)(hne:some g≠row):cf W' g o x:=by
 have hbk:=hg.block g h.lt hne
 obtain⟨h0,h1,h2,h3,h4,h5,h6,h7,h8,h9,h10,h11,h12⟩:=h
 exact⟨(World.cell?_of_block (w:=W) hbk).trans h0,(World.cell?_of_block (w:=W) hbk).trans h1,(World.cell?_of_block (w:=W) hbk).trans h2,(World.cell?_of_block (w:=W) hbk).trans h3,(World.cell?_of_block (w:=W) hbk).trans h4,(World.cell?_of_block (w:=W) hbk).trans h5,(World.cell?_of_block (w:=W) hbk).trans h6,(World.cell?_of_block (w:=W) hbk).trans h7,(World.cell?_of_block (w:=W) hbk).trans h8,(World.cell?_of_block (w:=W) hbk).trans h9,(World.cell?_of_block (w:=W) hbk).trans h10,(World.cell?_of_block (w:=W) hbk).trans h11,(World.cell?_of_block (w:=W) hbk).trans h12⟩
theorem bw.grown{W W':World}{row:Option Nat}{a:Option Addr}{n:Nat}{xs:List aD}(h:bw W a n xs)(hg:W.grownBy W' row)(hne:∀g o,0<n→a=some ⟨g,o,none⟩→some g≠row):bw W' a n xs:=by
 obtain⟨h1,h2,h3⟩:=h
 refine⟨h1,h2,?_⟩
 rcases h3 with h3|⟨g,o,ha,hr⟩
 ·exact Or.inl h3
 ·refine Or.inr ⟨g,o,ha,fun i x hx=>(hr i x hx).grown hg (hne g o ?_ ha)⟩
  have hlt:i<xs.length:=(List.getElem?_eq_some_iff.1 hx).1
  omega
theorem bw.lt{W:World}{g o n:Nat}{xs:List aD}(h:bw W (some ⟨g,o,none⟩) n xs)(hp:0<n):g<W.heap.size:=by
 obtain⟨h1,h2,h3⟩:=h
 obtain⟨g',o',ha,hr⟩:=h3.resolve_left (by omega)
 simp at ha
 have:=hr.lt (by omega)
 omega
/-- A row is stored; a block of rows, known whole. -/
def jH(W:World)(g o:Nat)(x:aD):World:=(((((((((((((W.setCell ⟨g,o,none⟩ (.int .i64 x.ky)).setCell ⟨g,o+1,none⟩ (.int .i64 x.st)).setCell ⟨g,o+2,none⟩ (.int .i64 x.en)).setCell ⟨g,o+3,none⟩ (.int .i64 x.an)).setCell ⟨g,o+4,none⟩ (.int .i64 x.asu)).setCell ⟨g,o+5,none⟩ (.int .i64 x.ale)).setCell ⟨g,o+6,none⟩ (.int .i64 x.amo)).setCell ⟨g,o+7,none⟩ (.int .i64 x.fn)).setCell ⟨g,o+8,none⟩ (.int .i64 x.fsu)).setCell ⟨g,o+9,none⟩ (.int .i64 x.fle)).setCell ⟨g,o+10,none⟩ (.int .i64 x.fmo)).setCell ⟨g,o+11,none⟩ (.int .i64 x.td)).setCell ⟨g,o+12,none⟩ (.bool x.tm))
def dd(W:World)(g ty len:Nat):Prop:=∃cur,W.heap[g]? =some (.cells cur ty (0,0))∧cur.size=len*13
theorem dd.set{W:World}{g ty len i:Nat}(h:dd W g ty len)(v:Value):dd (W.setCell ⟨g,i,none⟩ v) g ty len:=by
 obtain⟨cur,h1,h2⟩:=h
 exact⟨_,Joins.block_setCell h1 v,by simp[h2]⟩
theorem dd.below{W W':World}{g ty len B:Nat}(h:dd W g ty len)(hb:Below B W W')(hg:g<B):dd W' g ty len:=by
 obtain⟨cur,h1,h2⟩:=h
 exact⟨cur,(hb.block g hg).trans h1,h2⟩
theorem dd.lt{W:World}{g ty len:Nat}(h:dd W g ty len):g<W.heap.size:=by
 obtain⟨cur,h1,h2⟩:=h
 exact(Array.getElem?_eq_some_iff.1 h1).1
theorem dd.cell{W:World}{g ty len i:Nat}(h:dd W g ty len)(hi:i<len*13):∃u,W.cell? ⟨g,i,none⟩=some u:=by
 obtain⟨cur,h1,h2⟩:=h
 exact⟨_,(cA h1 i).trans (Array.getElem?_eq_getElem (by omega))⟩
theorem dd.frozen{W:World}{g ty len i:Nat}(h:dd W g ty len):W.frozen? ⟨g,i,none⟩=false:=by
 obtain⟨cur,h1,h2⟩:=h
 exact Joins.unfrozen_of_block h1 i
theorem dd.cells{W:World}{g ty len k:Nat}(h:dd W g ty len)(hk:k<len):(∃u,W.cell? ⟨g,k*13,none⟩=some u)∧(∃u,W.cell? ⟨g,k*13+1,none⟩=some u)∧(∃u,W.cell? ⟨g,k*13+2,none⟩=some u)∧(∃u,W.cell? ⟨g,k*13+3,none⟩=some u)∧(∃u,W.cell? ⟨g,k*13+4,none⟩=some u)∧(∃u,W.cell? ⟨g,k*13+5,none⟩=some u)∧(∃u,W.cell? ⟨g,k*13+6,none⟩=some u)∧(∃u,W.cell? ⟨g,k*13+7,none⟩=some u)∧(∃u,W.cell? ⟨g,k*13+8,none⟩=some u)∧(∃u,W.cell? ⟨g,k*13+9,none⟩=some u)∧(∃u,W.cell? ⟨g,k*13+10,none⟩=some u)∧(∃u,W.cell? ⟨g,k*13+11,none⟩=some u)∧(∃u,W.cell? ⟨g,k*13+12,none⟩=some u):=⟨h.cell (by omega),h.cell (by omega),h.cell (by omega),h.cell (by omega),h.cell (by omega),h.cell (by omega),h.cell (by omega),h.cell (by omega),h.cell (by omega),h.cell (by omega),h.cell (by omega),h.cell (by omega),h.cell (by omega)⟩
theorem dd.sets{W:World}{g ty len o:Nat}(h:dd W g ty len)(x:aD):dd (jH W g o x) g ty len:=(((((((((((((h.set _).set _).set _).set _).set _).set _).set _).set _).set _).set _).set _).set _).set _)
theorem ag{W:World}{g i j:Nat}{v:Value}(h:i≠j):(W.setCell ⟨g,i,none⟩ v).cell? ⟨g,j,none⟩=W.cell? ⟨g,j,none⟩:=World.cell?_setCell_other _ _ _ _ (by intro e;injection e with e1 e2;exact h e2)
theorem cV{W:World}{g ty len i:Nat}{v:Value}(h:dd W g ty len)(hi:i<len*13):(W.setCell ⟨g,i,none⟩ v).cell? ⟨g,i,none⟩=some v:=by
 obtain⟨u,hu⟩:=h.cell hi
 exact World.cell?_setCell_same _ _ _ hu
theorem setOr_this{W:World}{g ty len k:Nat}(h:dd W g ty len)(hk:k<len)(x:aD):cf (jH W g (k*13) x) g (k*13) x:=by
 unfold jH
 refine⟨?_,?_,?_,?_,?_,?_,?_,?_,?_,?_,?_,?_,?_⟩
 ·(repeat rw[ag (by omega)]);rw[cV h (by omega)]
 ·(repeat rw[ag (by omega)]);rw[cV (h.set _) (by omega)]
 ·(repeat rw[ag (by omega)]);rw[cV ((h.set _).set _) (by omega)]
 ·(repeat rw[ag (by omega)]);rw[cV (((h.set _).set _).set _) (by omega)]
 ·(repeat rw[ag (by omega)]);rw[cV ((((h.set _).set _).set _).set _) (by omega)]
 ·(repeat rw[ag (by omega)]);rw[cV (((((h.set _).set _).set _).set _).set _) (by omega)]
 ·(repeat rw[ag (by omega)]);rw[cV ((((((h.set _).set _).set _).set _).set _).set _) (by omega)]
 ·(repeat rw[ag (by omega)]);rw[cV (((((((h.set _).set _).set _).set _).set _).set _).set _) (by omega)]
 ·(repeat rw[ag (by omega)]);rw[cV ((((((((h.set _).set _).set _).set _).set _).set _).set _).set _) (by omega)]
 ·(repeat rw[ag (by omega)]);rw[cV (((((((((h.set _).set _).set _).set _).set _).set _).set _).set _).set _) (by omega)]
 ·rw[ag (by omega),ag (by omega),cV ((((((((((h.set _).set _).set _).set _).set _).set _).set _).set _).set _).set _) (by omega)]
 ·rw[ag (by omega),cV (((((((((((h.set _).set _).set _).set _).set _).set _).set _).set _).set _).set _).set _) (by omega)]
 ·rw[cV ((((((((((((h.set _).set _).set _).set _).set _).set _).set _).set _).set _).set _).set _).set _) (by omega)]
theorem setOr_ne{W:World}{g i k:Nat}{x y:aD}(h:cf W g (i*13) y)(hk:i≠k):cf (jH W g (k*13) x) g (i*13) y:=by
 unfold jH
 obtain⟨h0,h1,h2,h3,h4,h5,h6,h7,h8,h9,h10,h11,h12⟩:=h
 refine⟨?_,?_,?_,?_,?_,?_,?_,?_,?_,?_,?_,?_,?_⟩
 ·rw[ag (by omega),ag (by omega),ag (by omega),ag (by omega),ag (by omega),ag (by omega),ag (by omega),ag (by omega),ag (by omega),ag (by omega),ag (by omega),ag (by omega),ag (by omega)];exact h0
 ·rw[ag (by omega),ag (by omega),ag (by omega),ag (by omega),ag (by omega),ag (by omega),ag (by omega),ag (by omega),ag (by omega),ag (by omega),ag (by omega),ag (by omega),ag (by omega)];exact h1
 ·rw[ag (by omega),ag (by omega),ag (by omega),ag (by omega),ag (by omega),ag (by omega),ag (by omega),ag (by omega),ag (by omega),ag (by omega),ag (by omega),ag (by omega),ag (by omega)];exact h2
 ·rw[ag (by omega),ag (by omega),ag (by omega),ag (by omega),ag (by omega),ag (by omega),ag (by omega),ag (by omega),ag (by omega),ag (by omega),ag (by omega),ag (by omega),ag (by omega)];exact h3
 ·rw[ag (by omega),ag (by omega),ag (by omega),ag (by omega),ag (by omega),ag (by omega),ag (by omega),ag (by omega),ag (by omega),ag (by omega),ag (by omega),ag (by omega),ag (by omega)];exact h4
 ·rw[ag (by omega),ag (by omega),ag (by omega),ag (by omega),ag (by omega),ag (by omega),ag (by omega),ag (by omega),ag (by omega),ag (by omega),ag (by omega),ag (by omega),ag (by omega)];exact h5
 ·rw[ag (by omega),ag (by omega),ag (by omega),ag (by omega),ag (by omega),ag (by omega),ag (by omega),ag (by omega),ag (by omega),ag (by omega),ag (by omega),ag (by omega),ag (by omega)];exact h6
 ·rw[ag (by omega),ag (by omega),ag (by omega),ag (by omega),ag (by omega),ag (by omega),ag (by omega),ag (by omega),ag (by omega),ag (by omega),ag (by omega),ag (by omega),ag (by omega)];exact h7
 ·rw[ag (by omega),ag (by omega),ag (by omega),ag (by omega),ag (by omega),ag (by omega),ag (by omega),ag (by omega),ag (by omega),ag (by omega),ag (by omega),ag (by omega),ag (by omega)];exact h8
 ·rw[ag (by omega),ag (by omega),ag (by omega),ag (by omega),ag (by omega),ag (by omega),ag (by omega),ag (by omega),ag (by omega),ag (by omega),ag (by omega),ag (by omega),ag (by omega)];exact h9
 ·rw[ag (by omega),ag (by omega),ag (by omega),ag (by omega),ag (by omega),ag (by omega),ag (by omega),ag (by omega),ag (by omega),ag (by omega),ag (by omega),ag (by omega),ag (by omega)];exact h10
 ·rw[ag (by omega),ag (by omega),ag (by omega),ag (by omega),ag (by omega),ag (by omega),ag (by omega),ag (by omega),ag (by omega),ag (by omega),ag (by omega),ag (by omega),ag (by omega)];exact h11
 ·rw[ag (by omega),ag (by omega),ag (by omega),ag (by omega),ag (by omega),ag (by omega),ag (by omega),ag (by omega),ag (by omega),ag (by omega),ag (by omega),ag (by omega),ag (by omega)];exact h12
/-- The cells of rows; a slice of the call's own that holds rows. -/
def aD.cells(x:aD):List Value:=[.int .i64 x.ky,.int .i64 x.st,.int .i64 x.en,.int .i64 x.an,.int .i64 x.asu,.int .i64 x.ale,.int .i64 x.amo,.int .i64 x.fn,.int .i64 x.fsu,.int .i64 x.fle,.int .i64 x.fmo,.int .i64 x.td,.bool x.tm]
def aZ(xs:List aD):List Value:=xs.flatMap aD.cells
theorem fC(xs:List aD)(x:aD):aZ (xs++[x])=aZ xs++x.cells:=by simp[aZ]
theorem gd(xs:List aD):(aZ xs).length=xs.length*13:=by
 induction xs with
 |nil=>rfl
 |cons x r ih=>show(x.cells++aZ r).length=_;rw[List.length_append,ih];simp[aD.cells];omega
theorem iR{xs:List aD}{i:Nat}{x:aD}(h:xs[i]? =some x):(aZ xs)[i*13]? =some (.int .i64 x.ky)∧(aZ xs)[i*13+1]? =some (.int .i64 x.st)∧(aZ xs)[i*13+2]? =some (.int .i64 x.en)∧(aZ xs)[i*13+3]? =some (.int .i64 x.an)∧(aZ xs)[i*13+4]? =some (.int .i64 x.asu)∧(aZ xs)[i*13+5]? =some (.int .i64 x.ale)∧(aZ xs)[i*13+6]? =some (.int .i64 x.amo)∧(aZ xs)[i*13+7]? =some (.int .i64 x.fn)∧(aZ xs)[i*13+8]? =some (.int .i64 x.fsu)∧(aZ xs)[i*13+9]? =some (.int .i64 x.fle)∧(aZ xs)[i*13+10]? =some (.int .i64 x.fmo)∧(aZ xs)[i*13+11]? =some (.int .i64 x.td)∧(aZ xs)[i*13+12]? =some (.bool x.tm):=by
 induction xs generalizing i with
 |nil=>simp at h
 |cons y r ih=>
  have hf:aZ (y :: r)=y.cells++aZ r:=rfl
  cases i with
  |zero=>
   simp at h
   subst h
   rw[hf]
   exact⟨rfl,rfl,rfl,rfl,rfl,rfl,rfl,rfl,rfl,rfl,rfl,rfl,rfl⟩
  |succ i=>
   simp at h
   obtain⟨h0,h1,h2,h3,h4,h5,h6,h7,h8,h9,h10,h11,h12⟩:=ih h
   have hl:y.cells.length=13:=rfl
   rw[hf]
   refine⟨?_,?_,?_,?_,?_,?_,?_,?_,?_,?_,?_,?_,?_⟩
   ·rw[List.getElem?_append_right (by omega),hl,show(i+1)*13 - 13=i*13 by omega];exact h0
   ·rw[List.getElem?_append_right (by omega),hl,show(i+1)*13+1 - 13=i*13+1 by omega];exact h1
   ·rw[List.getElem?_append_right (by omega),hl,show(i+1)*13+2 - 13=i*13+2 by omega];exact h2
   ·rw[List.getElem?_append_right (by omega),hl,show(i+1)*13+3 - 13=i*13+3 by omega];exact h3
   ·rw[List.getElem?_append_right (by omega),hl,show(i+1)*13+4 - 13=i*13+4 by omega];exact h4
   ·rw[List.getElem?_append_right (by omega),hl,show(i+1)*13+5 - 13=i*13+5 by omega];exact h5
   ·rw[List.getElem?_append_right (by omega),hl,show(i+1)*13+6 - 13=i*13+6 by omega];exact h6
   ·rw[List.getElem?_append_right (by omega),hl,show(i+1)*13+7 - 13=i*13+7 by omega];exact h7
   ·rw[List.getElem?_append_right (by omega),hl,show(i+1)*13+8 - 13=i*13+8 by omega];exact h8
   ·rw[List.getElem?_append_right (by omega),hl,show(i+1)*13+9 - 13=i*13+9 by omega];exact h9
   ·rw[List.getElem?_append_right (by omega),hl,show(i+1)*13+10 - 13=i*13+10 by omega];exact h10
   ·rw[List.getElem?_append_right (by omega),hl,show(i+1)*13+11 - 13=i*13+11 by omega];exact h11
   ·rw[List.getElem?_append_right (by omega),hl,show(i+1)*13+12 - 13=i*13+12 by omega];exact h12
def aR(W:World)(B:Nat)(v:Value)(ys:List aD):Prop:=W.ownsRow B 42 13 v ys.length (aZ ys)
theorem bf{w1:World}{B:Nat}{v':Value}{ys:List aD}{x:aD}(ho:w1.ownsRow B 42 13 v' (ys.length+1) (aZ ys++x.cells)):aR w1 B v' (ys++[x]):=by
 unfold aR
 rw[fC]
 simpa using ho
theorem aV(w:World)(ky:Int)(st:Int)(en:Int)(an:Int)(asu:Int)(ale:Int)(amo:Int)(fn:Int)(fsu:Int)(fle:Int)(fmo:Int)(td:Int)(tm:Bool)(ty:Nat):∀j u,([.int .i64 ky,.int .i64 st,.int .i64 en,.int .i64 an,.int .i64 asu,.int .i64 ale,.int .i64 amo,.int .i64 fn,.int .i64 fsu,.int .i64 fle,.int .i64 fmo,.int .i64 td,.bool tm]:List Value)[j]? =some u→(w.alloc (.cells #[.int .i64 ky,.int .i64 st,.int .i64 en,.int .i64 an,.int .i64 asu,.int .i64 ale,.int .i64 amo,.int .i64 fn,.int .i64 fsu,.int .i64 fle,.int .i64 fmo,.int .i64 td,.bool tm] ty)).cell? ((⟨w.heap.size,0,none⟩:Addr).add j)=some u:=by
 intro j u hj
 have e:((⟨w.heap.size,0,none⟩:Addr).add j)=⟨w.heap.size,j,none⟩:=by
  unfold Addr.add
  split
  ·rename_i h0;rw[h0]
  ·simp
 rw[e]
 simpa[go_sem]using hj
def markOr(i:Nat):aD:=⟨1+13*(i:Int),1+13*(i:Int)+1,1+13*(i:Int)+1+1,1+13*(i:Int)+1+1+1,1+13*(i:Int)+1+1+1+1,1+13*(i:Int)+1+1+1+1+1,1+13*(i:Int)+1+1+1+1+1+1,1+13*(i:Int)+1+1+1+1+1+1+1,1+13*(i:Int)+1+1+1+1+1+1+1+1,1+13*(i:Int)+1+1+1+1+1+1+1+1+1,1+13*(i:Int)+1+1+1+1+1+1+1+1+1+1,1+13*(i:Int)+1+1+1+1+1+1+1+1+1+1+1,decide ((1+13*(i:Int)+1+1+1+1+1+1+1+1+1+1+1+1) % 3=0)⟩
def jv(W:World)(a:Option Addr)(n cap:Nat):Prop:=n=0∨∃g,a=some ⟨g,0,none⟩∧dd W g 42 cap∧n≤cap
def iS(W:World)(a:Option Addr)(n:Nat):Prop:=n=0∨∃g,a=some ⟨g,0,none⟩∧∀i,i<n→cf W g (i*13) (markOr i)
theorem iS.below{W W':World}{a:Option Addr}{n:Nat}(h:iS W a n)(hb:Below W.heap.size W W'):iS W' a n:=by
 rcases h with h|⟨g,ha,hM⟩
 ·exact Or.inl h
 ·exact Or.inr ⟨g,ha,fun i hi=>(hM i hi).below hb (hM i hi).lt⟩
theorem dS{W:World}{B:Nat}{v:Value}{ys:List aD}(h:aR W B v ys)(hl:ys.length≤1048576):
  ∃a cap,v= .slice a ys.length cap∧bw W a ys.length ys∧jv W a ys.length cap∧∀g o,0<ys.length→a=some ⟨g,o,none⟩→B≤g:=by
 have hm:ys.length≤maxLen:=by unfold maxLen;omega
 obtain⟨hlen,h|⟨g,cap,cur,rfl,hB,hblk,hnc,hcm,hsz,htk⟩⟩:=h
 ·obtain⟨rfl,h0⟩:=h
  rw[h0]
  exact⟨none,0,rfl,⟨h0,Nat.zero_le _,Or.inl rfl⟩,Or.inl rfl,fun _ _ hp=>by omega⟩
 ·refine⟨_,cap,rfl,⟨rfl,hm,Or.inr ⟨g,0,rfl,?_⟩⟩,Or.inr ⟨g,rfl,⟨cur,hblk,hsz⟩,hnc⟩,fun g' o' _ e=>by simp at e;omega⟩
  intro i x hx
  have hi:i<ys.length:=(List.getElem?_eq_some_iff.1 hx).1
  have hcell:∀j u,j<ys.length*13→(aZ ys)[j]? =some u→W.cell? ⟨g,j,none⟩=some u:=by
   intro j u hj hu
   rw[cA hblk j,←Array.getElem?_toList]
   rw[←htk,List.getElem?_take_of_lt hj]at hu
   exact hu
  obtain⟨f0,f1,f2,f3,f4,f5,f6,f7,f8,f9,f10,f11,f12⟩:=iR hx
  rw[Nat.zero_add]
  exact⟨hcell _ _ (by omega) f0,hcell _ _ (by omega) f1,hcell _ _ (by omega) f2,hcell _ _ (by omega) f3,hcell _ _ (by omega) f4,hcell _ _ (by omega) f5,hcell _ _ (by omega) f6,hcell _ _ (by omega) f7,hcell _ _ (by omega) f8,hcell _ _ (by omega) f9,hcell _ _ (by omega) f10,hcell _ _ (by omega) f11,hcell _ _ (by omega) f12⟩
theorem jv.below{W W':World}{a:Option Addr}{n cap:Nat}(h:jv W a n cap)(hb:Below W.heap.size W W'):jv W' a n cap:=by
 rcases h with h|⟨g,ha,hB,hc⟩
 ·exact Or.inl h
 ·exact Or.inr ⟨g,ha,hB.below hb hB.lt,hc⟩
theorem jv.grown{W W':World}{row:Option Nat}{a:Option Addr}{n cap:Nat}(h:jv W a n cap)(hg:W.grownBy W' row)(hne:∀g o,0<n→a=some ⟨g,o,none⟩→some g≠row):jv W' a n cap:=by
 rcases h with h|⟨g,ha,hB,hc⟩
 ·exact Or.inl h
 ·by_cases h0:n=0
  ·exact Or.inl h0
  ·obtain⟨cur,c1,c2⟩:=hB
   exact Or.inr ⟨g,ha,⟨cur,(hg.block g (Array.getElem?_eq_some_iff.1 c1).1 (hne g 0 (by omega) ha)).trans c1,c2⟩,hc⟩
end Go.Proofs.Ytdmhihcipkhecaa
namespace Go.Proofs.Ytdmhihcipkhecaa
open Go.RowKit Go.Sort Go.Lib
theorem cx(x:P3):¬ ca x x:=by unfold ca;omega
theorem dV{a b c:P3}(h:ca a b)(k:ca b c):ca a c:=by unfold ca at *;omega
theorem iT(a b:P3):ca a b∨a=b∨ca b a:=by
 obtain⟨a1,a2,a3⟩:=a
 obtain⟨b1,b2,b3⟩:=b
 unfold ca
 by_cases e1:a1=b1
 ·by_cases e2:a2=b2
  ·by_cases e3:a3=b3
   ·subst e1 e2 e3;exact .inr (.inl rfl)
   ·simp only;omega
  ·simp only;omega
 ·simp only;omega
theorem rise_eq:∀(xs zs:List P3),xs.Pairwise ca→zs.Pairwise ca→(∀q,q ∈ xs↔q ∈ zs)→xs=zs
 | [],[],_,_,_=>rfl
 | [],b :: zs,_,_,h=>by have:=(h b).2 (by simp);cases this
 |a :: xs,[],_,_,h=>by have:=(h a).1 (by simp);cases this
 |a :: xs,b :: zs,h1,h2,h=>by
  obtain⟨ha,ha2⟩:=List.pairwise_cons.1 h1
  obtain⟨hb,hb2⟩:=List.pairwise_cons.1 h2
  have e:a=b:=by
   rcases List.mem_cons.1 ((h a).1 (by simp))with e|e
   ·exact e
   ·rcases List.mem_cons.1 ((h b).2 (by simp))with e'|e'
    ·exact e'.symm
    ·exact absurd (dV (hb a e) (ha b e')) (cx _)
  subst e
  rw[rise_eq xs zs ha2 hb2 (fun q=>⟨fun hq=>?_,fun hq=>?_⟩)]
  ·rcases List.mem_cons.1 ((h q).1 (List.mem_cons_of_mem _ hq))with e|e
   ·subst e;exact absurd (ha _ hq) (cx _)
   ·exact e
  ·rcases List.mem_cons.1 ((h q).2 (List.mem_cons_of_mem _ hq))with e|e
   ·subst e;exact absurd (hb _ hq) (cx _)
   ·exact e
theorem srt_rise{ss:List P3}(h:ss.Nodup):(ft ss).Pairwise ca:=by
 have h1:(ft ss).Pairwise (fun x y=>(!(ltOf gb) y x)=true):=List.pairwise_mergeSort (fun a b c h1 h2=>by
   simp only[Bool.not_eq_true',dO]at*
   unfold ca at *;omega) (fun a b=>by
   rcases iT a b with h|h|h
   ·have:ltOf gb b a=false:=(dO b a).2 (fun h'=>cx _ (dV h h'))
    simp[this]
   ·subst h
    have:ltOf gb a a=false:=(dO a a).2 (cx _)
    simp[this]
   ·have:ltOf gb a b=false:=(dO a b).2 (fun h'=>cx _ (dV h h'))
    simp[this]) ss
 have h2:(ft ss).Nodup:=(fN ss).nodup_iff.2 h
 refine List.Pairwise.imp₂ (fun a b h3 h4=>?_) h1 h2
 simp only[Bool.not_eq_true',dO]at h3
 rcases iT a b with h|h|h
 ·exact h
 ·exact absurd h h4
 ·exact absurd h h3
/-- The place of a row; a row in its box. -/
def bj(x:aD):P3:=(x.ky,x.st,x.en)
abbrev cm:=Nat×aD
def ptrE(e:cm):Option Addr:=some ⟨e.1,0,none⟩
/-- What a map of boxes tells of a place. -/
def dJ(es:List cm)(q:P3):Option (Option Addr):=(es.find? (fun e=>decide (bj e.2=q))).map ptrE
def dT(es:List cm):Prop:=es.Pairwise (fun a b=>ca (bj a.2) (bj b.2))
theorem jI{es:List cm}{q:P3}(h:∀e ∈ es,¬ bj e.2=q):dJ es q=none:=by
 unfold dJ
 rw[List.find?_eq_none.2 (fun e he=>by simpa using h e he)]
 rfl
theorem dT.inj{es:List cm}(h:dT es){a b:cm}(ha:a ∈ es)(hb:b ∈ es)(e:bj a.2=bj b.2):a=b:=by
 induction es with
 |nil=>cases ha
 |cons x t ih=>
  have hc:=List.pairwise_cons.1 h
  rcases List.mem_cons.1 ha with rfl|h1<;>rcases List.mem_cons.1 hb with rfl|h2
  ·rfl
  ·have:=hc.1 b h2
   rw[e]at this
   exact absurd this (cx _)
  ·have:=hc.1 a h1
   rw[e]at this
   exact absurd this (cx _)
  ·exact ih hc.2 h1 h2
theorem mapE_mem{es:List cm}(h:dT es){e:cm}(he:e ∈ es):dJ es (bj e.2)=some (ptrE e):=by
 unfold dJ
 cases hf:es.find? (fun x=>decide (bj x.2=bj e.2))with
 |none=>
  have:=List.find?_eq_none.1 hf e he
  simp at this
 |some x=>
  have h1:x ∈ es:=List.mem_of_find?_eq_some hf
  have h2:bj x.2=bj e.2:=by simpa using List.find?_some hf
  rw[h.inj h1 he h2]
  rfl
theorem jJ{es:List cm}{q:P3}{a:Option Addr}(h:dJ es q=some a):∃e ∈ es,bj e.2=q∧a=ptrE e:=by
 unfold dJ at h
 cases hf:es.find? (fun x=>decide (bj x.2=q))with
 |none=>rw[hf]at h;cases h
 |some x=>
  rw[hf]at h
  simp at h
  exact⟨x,List.mem_of_find?_eq_some hf,by simpa using List.find?_some hf,h.symm⟩
theorem mapE_snoc{es:List cm}{e:cm}(hn:∀x ∈ es,¬ bj x.2=bj e.2):(fun q=>if q=bj e.2 then some (Value.pointer (ptrE e))else(dJ es q).map Value.pointer)=fun q=>(dJ (es++[e]) q).map Value.pointer:=by
 funext q
 unfold dJ
 rw[List.find?_append]
 by_cases h:q=bj e.2
 ·subst h
  rw[List.find?_eq_none.2 (fun x hx=>by simpa using hn x hx)]
  simp
 ·rw[if_neg h]
  cases hf:es.find? (fun x=>decide (bj x.2=q))with
  |none=>
   simp
   exact fun h9=>h h9.symm
  |some x=>simp
/-- The places are the same where the boxes are, and the rows' places. -/
theorem mapE_same(f:aD→aD)(hf:∀x,bj (f x)=bj x)(g:cm→Bool)(es:List cm):dJ (es.map (fun e=>(e.1,if g e=true then f e.2 else e.2)))=dJ es:=by
 funext q
 unfold dJ
 rw[List.find?_map,Option.map_map]
 have e1:((fun e:cm=>decide (bj e.2=q))∘fun e:cm=>(e.1,if g e=true then f e.2 else e.2))=fun e=>decide (bj e.2=q):=by
  funext e
  simp only[Function.comp]
  split
  ·rw[hf]
  ·rfl
 rw[e1]
 rfl
end Go.Proofs.Ytdmhihcipkhecaa
