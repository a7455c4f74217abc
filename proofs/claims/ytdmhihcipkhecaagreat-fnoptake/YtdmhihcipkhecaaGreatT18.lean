/- Laid together: what the claim needs of the texts that were built one by one. -/
import Derived.Test.YtdmhihcipkhecaaGreatT0
import Derived.Deep.RegionHeld3
import Derived.Test.YtdmhihcipkhecaaGreatT4
import Derived.Test.YtdmhihcipkhecaaGreatT14
import Derived.Test.YtdmhihcipkhecaaGreatT17
import Derived.Deep.DeepCutAuto
set_option linter.unusedVariables false
namespace Go.Proofs.YtdmhihcipkhecaaGreat
open Go.ChangeShapes Go.WideShapes Go.ChangeAt Go.RowKit
theorem Kp.frozen{R b o:Nat}{w w':World}(h:Kp R w w')(hb:b<w.heap.size)(hn:b≠R):w'.frozen? ⟨b,o,none⟩=w.frozen? ⟨b,o,none⟩:=by
 have:=h.all b hb hn
 simp only[World.frozen?,this]
theorem cK.up{B:Nat}{w w':World}{a:Option Addr}{len:Nat}(h:cK w a len)(hl:∀g o,a=some ⟨g,o,none⟩→0<len→g<B)(hb:Below B w w'):cK w' a len:=by
 rcases h with h|⟨g,o,ha,h⟩
 ·exact Or.inl h
 ·refine Or.inr ⟨g,o,ha,fun i hi=>?_⟩
  obtain⟨z,hz,h2⟩:=h i hi
  exact⟨z,(hb.cell (p:=⟨g,o+i,none⟩) (hl g o ha (by omega))).trans hz,h2⟩
theorem Rd.up{R:Nat}{w w':World}{a:Option Addr}{len cap p:Nat}(h:Rd R w a len cap p)(hb:Below (R+1) w w'):Rd R w' a len cap p:=by
 obtain⟨h1,h2,h3,h4,h5,h6,h7⟩:=h
 exact⟨(hb.cell (p:=⟨R,0,none⟩) (Nat.lt_succ_self R)).trans h1,(hb.cell (p:=⟨R,1,none⟩) (Nat.lt_succ_self R)).trans h2,(hb.frozen (p:=⟨R,1,none⟩) (Nat.lt_succ_self R)).trans h3,h4,h5,cK.up h6 (fun g o e h=>Nat.lt_succ_of_lt (h7 g o e h)) hb,h7⟩
theorem du{B:Nat}{w W:World}(h:Below B w W)(hB:B≤W.heap.size)(o:Obj):Below B w (W.alloc o):=h.alloc hB o
theorem cL{R:Nat}{w W:World}{p:Addr}(h:Kp R w W)(hp:w.heap.size≤p.block)(hR:R<w.heap.size)(v:Value):Kp R w (W.setCell p v):=
 ⟨h.low.setCell (Nat.le_trans (Nat.le_of_lt hR) hp) v,fun b hb hn=>(Below.heap_setCell _ _ _ _ (by omega)).trans (h.all b hb hn)⟩
theorem ce{R:Nat}{w W:World}(hR:R<w.heap.size)(h:Kp R w W)(o:Obj):Kp R w (W.alloc o):=h.trans (Kp.of_bel (Nat.le_of_lt (Nat.lt_of_lt_of_le hR h.low.size)) (aq _ _))
theorem cN{R:Nat}{w W:World}(h:Kp R w W):Kp R w W.drew:=⟨h.low.drew,h.all⟩
theorem ck{R:Nat}{w W:World}(h:Kp R w W)(n:Nat):Kp R w (W.drewN n):=h.trans (Kp.draws R W n)
theorem dy{R o:Nat}{w W:World}(h:Kp R w W)(v:Value):Kp R w (W.setCell ⟨R,o,none⟩ v):=h.trans (Kp.set v)
theorem six(x y:Int)(h1:0≤x)(h2:x<61)(h3:0≤y)(h4:y<6):∃t:Int,(#[Value.int .i64 0,.int .i64 1,.int .i64 5,.int .i64 20,.int .i64 60,.int .i64 x]:Array Value)[y.toNat]? =some (.int .i64 t)∧([Value.int .i64 0,.int .i64 1,.int .i64 5,.int .i64 20,.int .i64 60,.int .i64 x]:List Value)[y.toNat]? =some (.int .i64 t)∧(∀h,([Value.int .i64 0,.int .i64 1,.int .i64 5,.int .i64 20,.int .i64 60,.int .i64 x]:List Value)[y.toNat]'h= .int .i64 t)∧0≤t∧t≤60:=by
 have:y=0∨y=1∨y=2∨y=3∨y=4∨y=5:=by omega
 rcases this with rfl|rfl|rfl|rfl|rfl|rfl
 ·exact⟨0,rfl,rfl,fun _=>rfl,by omega,by omega⟩
 ·exact⟨1,rfl,rfl,fun _=>rfl,by omega,by omega⟩
 ·exact⟨5,rfl,rfl,fun _=>rfl,by omega,by omega⟩
 ·exact⟨20,rfl,rfl,fun _=>rfl,by omega,by omega⟩
 ·exact⟨60,rfl,rfl,fun _=>rfl,by omega,by omega⟩
 ·exact⟨x,rfl,rfl,fun _=>rfl,h1,by omega⟩
theorem mV{p:Prop}(h:p:=by repeat(first|(with_reducible refine cL ?_ (sA) (nK) _)|(with_reducible assumption)|(with_reducible exact Kp.refl _ _)|(with_reducible refine dy ?_ _)|(with_reducible refine ce (nK) ?_ _)|(with_reducible refine cN ?_)|(with_reducible refine ck ?_ _)|(with_reducible refine Kp.trans ?_ (nK)))):p:=h
theorem mY{p:Prop}(h:p:=by repeat(first|(with_reducible exact Below.refl _ _)|(with_reducible refine Below.setCell ?_ (nN) _)|(with_reducible refine du ?_ (nO) _)|(with_reducible refine Below.drew ?_))):p:=h
set_option maxRecDepth 20000 in
set_option maxHeartbeats 4000000 in
theorem lK(R:Nat)(a:Option Addr)(len cap p:Nat)(w:World)(hp:p≤999000)(hR:R<w.heap.size)(h:Rd R w a len cap p):Calls Tryz.prog 24 #[.pointer (some ⟨R,0,none⟩)] w fun e w'=>RecP R w a len cap p e w':=by
 have r0:=ae h
 have hn0:w.heap.size≠R:=by omega
 clear h
 go_enter Tryz.func24,Tryz.ntmps24
 go_wp2_with fail
 go_region_with (first
  |(go_at_call 25;(with_reducible refine(aG R a len cap p 61 _ (by omega) (by omega) ((ab r0).kp hR (na))).mono ?_);rintro e wa ⟨x,rfl,bx1,bx2,kwa,qwa⟩;have rwa:=ae (qwa (by omega));clear qwa;have zwa:=kwa.low.size;have hRwa:R<wa.heap.size:=(by(try simp at zwa);omega);have hnwa:wa.heap.size≠R:=(by omega);have hcwa:=(fun b o hb hn=>kwa.cell (b:=b) (o:=o) hb hn);have hfwa:=(fun b o hb hn=>kwa.frozen (b:=b) (o:=o) hb hn);have hzwa:w.heap.size<wa.heap.size:=(by(try simp at zwa);omega))
  |(go_at_call 25;(with_reducible refine(aG R a len cap (p+1) 6 _ (by omega) (by omega) ((ab rwa).kp hRwa (na))).mono ?_);rintro e wb ⟨y,rfl,by1,by2,kwb,qwb⟩;have rwb:=ae (qwb (by omega));clear qwb;have zwb:=kwb.low.size;have hRwb:R<wb.heap.size:=(by(try simp at zwb);omega);have hnwb:wb.heap.size≠R:=(by omega);have hcwb:=(fun b o hb hn=>kwb.cell (b:=b) (o:=o) hb hn);have hfwb:=(fun b o hb hn=>kwb.frozen (b:=b) (o:=o) hb hn);have hzwb:w.heap.size<wb.heap.size:=(by(try simp at zwb);omega);(try have ywawb:wa.heap.size<wb.heap.size:=(by(try simp at zwb);omega));obtain⟨t,ht,ht',ht'',bt1,bt2⟩:=six x y bx1 bx2 by1 by2)
  |(go_at_call 25;(with_reducible refine(aG R a len cap (p+2) 4 _ (by omega) (by omega) ((ab rwb).kp hRwb (na))).mono ?_);rintro e wc ⟨k,rfl,bk1,bk2,kwc,qwc⟩;have rwc:=ae (qwc (by omega));clear qwc;have zwc:=kwc.low.size;have hRwc:R<wc.heap.size:=(by(try simp at zwc);omega);have hnwc:wc.heap.size≠R:=(by omega);have hcwc:=(fun b o hb hn=>kwc.cell (b:=b) (o:=o) hb hn);have hfwc:=(fun b o hb hn=>kwc.frozen (b:=b) (o:=o) hb hn);have hzwc:w.heap.size<wc.heap.size:=(by(try simp at zwc);omega);(try have ywbwc:wb.heap.size<wc.heap.size:=(by(try simp at zwc);omega));(try have ywawc:wa.heap.size<wc.heap.size:=(by(try simp at zwc);omega)))
  |(go_at_call 25;(with_reducible refine(aG R a len cap (p+3) 19 _ (by omega) (by omega) ((ab rwc).kp hRwc (na))).mono ?_);rintro e wd ⟨v,rfl,bv1,bv2,kwd,qwd⟩;have rwd:=ae (qwd (by omega));clear qwd;have zwd:=kwd.low.size;have hRwd:R<wd.heap.size:=(by(try simp at zwd);omega);have hnwd:wd.heap.size≠R:=(by omega);have hcwd:=(fun b o hb hn=>kwd.cell (b:=b) (o:=o) hb hn);have hfwd:=(fun b o hb hn=>kwd.frozen (b:=b) (o:=o) hb hn);have hzwd:w.heap.size<wd.heap.size:=(by(try simp at zwd);omega);(try have ywcwd:wc.heap.size<wd.heap.size:=(by(try simp at zwd);omega));(try have ywbwd:wb.heap.size<wd.heap.size:=(by(try simp at zwd);omega));(try have ywawd:wa.heap.size<wd.heap.size:=(by(try simp at zwd);omega));have hwv:IntKind.i64.wrap (v - 9)=v - 9:=IntWalk.i64_in _ (by omega)))
 all_goals
  go_wp2
  refine bodyPost_ret (v:= .agg #[.int .i64 1,.int .i64 t,.int .i64 k,.int .i64 (v - 9),.int .i64 0]) (by simp(maxDischargeDepth:=9) [results,Tryz.results24,go_sem, *]) rfl ⟨t,k,v - 9,rfl,⟨bt1,bt2⟩,by omega,by omega,(mV),(ab rwd).up (mY)⟩
/-- What is told of each operation's value. -/
abbrev Prd:=Value→World→Prop
def Pd(ps:List Prd)(j:Nat)(v:Value)(w:World):Prop:=ps.getD j (fun _ _=>False) v w
def cC(lo hi:Int):Prd:=fun v _=>∃z:Int,v= .int .i64 z∧lo≤z∧z≤hi
def jZ:Prd:=fun v _=>∃z:Int,v= .int .i64 z
def PBool:Prd:=fun v _=>∃b:Bool,v= .bool b
def kF(u:Value):Prd:=fun v _=>v=u
def PSl(R n:Nat)(cs:Array Value):Prd:=fun v w=>∃g,v= .slice (some ⟨g,0,none⟩) n n∧g≠R∧w.heap[g]? =some (.cells cs 3 (0,0))
def PPt(R:Nat)(lo hi:Int):Prd:=fun v w=>∃g k z,v= .pointer (some ⟨g,k,none⟩)∧g≠R∧w.cell? ⟨g,k,none⟩=some (.int .i64 z)∧lo≤z∧z≤hi
def PBox(R B0:Nat)(cs:Array Value)(ty:Nat):Prd:=fun v w=>∃B,v= .pointer (some ⟨B,0,none⟩)∧B≠R∧B0≤B∧w.heap[B]? =some (.cells cs ty (0,0))
/-- It stays. -/
def St(R:Nat)(q:Prd):Prop:=∀v w w',Kp R w w'→q v w→q v w'
theorem cX(R:Nat)(lo hi:Int):St R (cC lo hi):=fun _ _ _ _ h=>h
theorem lL(R:Nat):St R jZ:=fun _ _ _ _ h=>h
theorem st_bool(R:Nat):St R PBool:=fun _ _ _ _ h=>h
theorem fb(R:Nat)(u:Value):St R (kF u):=fun _ _ _ _ h=>h
theorem ay{w:World}{g:Nat}{o:Obj}(h:w.heap[g]? =some o):g<w.heap.size:=(Array.getElem?_eq_some_iff.1 h).1
theorem st_sl(R n:Nat)(cs:Array Value):St R (PSl R n cs):=fun _ _ _ k ⟨g,e,hn,hb⟩=>⟨g,e,hn,(k.all g (ay hb) hn).trans hb⟩
theorem st_pt(R:Nat)(lo hi:Int):St R (PPt R lo hi):=fun _ w _ k ⟨g,o,z,e,hn,hc,b⟩=>⟨g,o,z,e,hn,(k.cell (World.block_lt_of_cell? w ⟨g,o,none⟩ hc) hn).trans hc,b⟩
theorem st_box(R B0:Nat)(cs:Array Value)(ty:Nat):St R (PBox R B0 cs ty):=fun _ _ _ k ⟨g,e,hn,h0,hb⟩=>⟨g,e,hn,h0,(k.all g (ay hb) hn).trans hb⟩
def kG(R:Nat):List Prd→Prop
 | []=>True
 |q :: qs=>St R q∧kG R qs
theorem jL{R:Nat}:∀(ps:List Prd),kG R ps→∀j,St R (Pd ps j)
 | [],_,j=>fun _ _ _ _ h=>by simp[Pd]at h
 |q :: qs,h,0=>h.1
 |q :: qs,h,j+1=>jL qs h.2 j
/-- How many of these are done. -/
def iC(L:Nat→Bool):List Nat→Nat
 | []=>0
 |j :: js=>(L j).toNat+iC L js
theorem jf(L:Nat→Bool)(i:Nat):∀js,iC L js≤iC (more L i) js
 | []=>Nat.le_refl _
 |j :: js=>by
  have h1:=jf L i js
  have h2:(L j).toNat≤(more L i j).toNat:=by
   by_cases h:j=i
   ·subst h;rw[ey];cases L j<;>decide
   ·rw[et h];exact Nat.le_refl _
  simp only[iC]
  omega
theorem dD{L:Nat→Bool}{i:Nat}(hL:L i=false):∀js,i ∈ js→iC L js+1≤iC (more L i) js
 | [],h=>by simp at h
 |j :: js,h=>by
  have h1:=jf L i js
  simp only[iC]
  by_cases hji:j=i
  ·subst hji
   rw[ey,hL]
   simp
   omega
  ·have h2:=dD hL js ((List.mem_cons.1 h).resolve_left (fun e=>hji e.symm))
   rw[et hji]
   omega
theorem cD(L:Nat→Bool):∀js,iC L js≤js.length
 | []=>Nat.le_refl _
 |j :: js=>by
  have h1:=cD L js
  have h2:(L j).toNat≤1:=by cases L j<;>decide
  simp only[iC,List.length_cons]
  omega
/-- The state of a region that draws. -/
def aP(R B0:Nat)(a:Option Addr)(len cap p:Nat)(w0:World)(ps:List Prd)(js:List Nat)(lit:(Nat→Value)→Array Value)(ds:List Deferred)(L:Nat→Bool)(ac:Act)(w:World):Prop:=∃V:Nat→Value,ac=⟨lit V,ds⟩∧(∀j,L j=true→Pd ps j (V j) w)∧Kp R w0 w∧B0≤w.heap.size∧R<B0∧∃p',p'≤p+iC L js∧Rd R w a len cap p'
def ch(V:Nat→Value)(i:Nat)(v:Value):Nat→Value:=fun j=>if j=i then v else V j
/-- An operation that leaves the world as it is. -/
theorem aP.pure{R B0:Nat}{a:Option Addr}{len cap p:Nat}{w0 w:World}{ps:List Prd}{js:List Nat}{lit:(Nat→Value)→Array Value}{ds:List Deferred}{L:Nat→Bool}{ac:Act}{V:Nat→Value}{i:Nat}(v:Value)(hP:∀j,L j=true→Pd ps j (V j) w)(hk:Kp R w0 w)(hB:B0≤w.heap.size)(hR:R<B0)(hr:∃p',p'≤p+iC L js∧Rd R w a len cap p')(hv:Pd ps i v w)(ha:ac=⟨lit (ch V i v),ds⟩):aP R B0 a len cap p w0 ps js lit ds (more L i) ac w:=by
 obtain⟨p',hp,hd⟩:=hr
 have hc:=jf L i js
 exact⟨ch V i v,ha,ll hP (fun _ _ h=>h) hv,hk,hB,hR,p',by omega,hd⟩
/-- An operation that makes one block more. -/
theorem aP.made{R B0:Nat}{a:Option Addr}{len cap p:Nat}{w0 w:World}{ps:List Prd}{js:List Nat}{lit:(Nat→Value)→Array Value}{ds:List Deferred}{L:Nat→Bool}{ac:Act}{V:Nat→Value}{i:Nat}(v:Value)(o:Obj)(hst:kG R ps)(hP:∀j,L j=true→Pd ps j (V j) w)(hk:Kp R w0 w)(hB:B0≤w.heap.size)(hR:R<B0)(hr:∃p',p'≤p+iC L js∧Rd R w a len cap p')(hv:Pd ps i v (w.alloc o))(ha:ac=⟨lit (ch V i v),ds⟩):aP R B0 a len cap p w0 ps js lit ds (more L i) ac (w.alloc o):=by
 obtain⟨p',hp,hd⟩:=hr
 have hc:=jf L i js
 have hb:Below w.heap.size w (w.alloc o):=aq _ _
 have hkp:Kp R w (w.alloc o):=Kp.of_bel (by omega) hb
 exact⟨ch V i v,ha,ll hP (fun j u h=>jL ps hst j u w _ hkp h) hv,hk.trans hkp,by have:=hb.size;omega,hR,p',by omega,hd.kp (by omega) hb⟩
/-- An operation that draws. -/
theorem aP.drew{R B0:Nat}{a:Option Addr}{len cap p:Nat}{w0 w w':World}{ps:List Prd}{js:List Nat}{lit:(Nat→Value)→Array Value}{ds:List Deferred}{L:Nat→Bool}{ac:Act}{V:Nat→Value}{i:Nat}(v:Value)(hst:kG R ps)(hP:∀j,L j=true→Pd ps j (V j) w)(hk:Kp R w0 w)(hB:B0≤w.heap.size)(hR:R<B0)(hkp:Kp R w w')(hr:∃p',p'≤p+iC (more L i) js∧Rd R w' a len cap p')(hv:Pd ps i v w')(ha:ac=⟨lit (ch V i v),ds⟩):aP R B0 a len cap p w0 ps js lit ds (more L i) ac w':=
 ⟨ch V i v,ha,ll hP (fun j u h=>jL ps hst j u w _ hkp h) hv,hk.trans hkp,Nat.le_trans hB hkp.low.size,hR,hr⟩
/-- A block that is there is written, and no other one. -/
theorem aj{R B o:Nat}{w0 w:World}{v:Value}(h:Kp R w0 w)(hR:R<B)(hB:w0.heap.size≤B):Kp R w0 (w.setCell ⟨B,o,none⟩ v):=⟨h.low.setCell (p:=⟨B,o,none⟩) (show R≤B by omega) v,fun b hb hn=>(Below.heap_setCell _ _ _ _ (show b≠B by omega)).trans (h.all b hb hn)⟩
theorem ai{R B o:Nat}{w:World}{v:Value}{a:Option Addr}{len cap p:Nat}(h:Rd R w a len cap p)(hR:R<B):Rd R (w.setCell ⟨B,o,none⟩ v) a len cap p:=h.up ((Below.refl (R+1) w).setCell (p:=⟨B,o,none⟩) (show R+1≤B by omega) v)
theorem ax{w:World}{g n:Nat}{cs:Array Value}{ty:Nat}(h:w.heap[g]? =some (.cells cs ty (0,0)))(i:Nat):w.cell? ⟨g,i,none⟩=cs[i]? ∧w.frozen? ⟨g,i,none⟩=false:=by
 constructor<;>simp[World.cell?,World.frozen?,h,go_sem]
end Go.Proofs.YtdmhihcipkhecaaGreat
namespace Go.Proofs.YtdmhihcipkhecaaGreat
open Go.ChangeShapes Go.WideShapes Go.ChangeAt Go.RowKit Go.Shelf Go.Maps
set_option linter.unusedSimpArgs false
theorem kH{z p t:Int}(hp:1≤p):∀(n:Nat) (s:Int),(bj z p t n s).length≤(t - s+1).toNat∧(bj z p t n s).length≤z.toNat
 |0,s=>⟨Nat.zero_le _,Nat.zero_le _⟩
 |n+1,s=>by
  have ih:=kH (z:=z) (t:=t) hp n (s+p)
  unfold bj
  split
  ·split
   ·rw[List.length_cons]
    exact⟨by omega,by omega⟩
   ·exact⟨by omega,ih.2⟩
  ·exact⟨Nat.zero_le _,Nat.zero_le _⟩
theorem wins_20{s t k z p l e v r T:Int}(hj:aV s t k z p l e v r=true):(aQ k z p T).length≤20:=by
 obtain⟨hk,hz,hp⟩:=bN hj
 unfold aQ
 split
 ·simp
 ·split
  ·simp
  ·rename_i h1 h3
   have h2:k=2:=by omega
   rw[h2,iZ]at hp
   simp only[Bool.and_eq_true]at hp
   have h8:=br.1 hp.1
   have h9:=(kH (z:=z) (p:=p) (t:=T) (by omega) 61 0).2
   omega
theorem tk_20(s t k z q l e:Int)(b:Bool)(v r m:Int)(xs:List aC)(x1 x2 x3 x4 x5:Int):(de s t k z q l e b v r m xs x1 x2 x3 x4 x5).2.1.length≤xs.length+20:=by
 cases h:ep s t k z q l e v r m xs x1 x2 x3 x4 x5 with
 |false=>
  rw[fx h]
  exact Nat.zero_le _
 |true=>
  have hok:cB s t k z q l e v r m xs=true:=by
   unfold ep at h
   simp only[Bool.and_eq_true]at h
   exact h.1
  have hw:=wins_20 (T:=x2) (fl hok)
  have h9:=sp_le (decide (k=3)) b l m x3 x4 (xs.length+(aQ k z q x2).length) (aQ k z q x2) xs [] [] (Nat.le_refl _)
  unfold de cm
  rw[if_pos h]
  exact Nat.le_trans h9.1 (by omega)
theorem jM{R B:Nat}{W W':World}{e:TypeId}{size n:Nat}{v:Value}{ys:List Value}(h:W.ownsRow B e size v n ys)(k:Kp R W W')(hR:R<B):W'.ownsRow B e size v n ys:=by
 have hlt:=World.ownsRow.lt h
 rcases h with⟨hl,h|⟨g,cap,cur,rfl,hB,hblk,r⟩⟩
 ·exact⟨hl,Or.inl h⟩
 ·exact⟨hl,Or.inr ⟨g,cap,cur,rfl,hB,(k.all g (ay hblk) (by omega)).trans hblk,r⟩⟩
/-- An operator while it is drawn: the job's box, the result's, the operator's own, and its rows. -/
structure OpI(R:Nat)(w W:World)(a:Option Addr)(len cap p:Nat)(s t k z q l e:Int)(b:Bool)(v r:Int)(m:Int)(au:Option Addr)(cu:Nat)(xs:List aC):Prop where
 J:W.heap[w.heap.size]? =some (.cells #[.int .i64 s,.int .i64 t,.int .i64 k,.int .i64 z,.int .i64 q,.int .i64 l,.int .i64 e,.bool b,.int .i64 v,.int .i64 r] 24 (0,0))
 Z:W.heap[w.heap.size+1]? =some (.cells #[.int .i64 0,.slice none 0 0] 27 (0,0))
 S:W.heap[w.heap.size+1+1]? =some (.cells #[.int .i64 m,.slice au xs.length cu] 27 (0,0))
 O:aS W w.heap.size (.slice au xs.length cu) xs
 K:Kp R w W
 D:Rd R W a len cap p
theorem OpI.kp{R:Nat}{w W:World}{a:Option Addr}{len cap p:Nat}{s t k z q l e:Int}{b:Bool}{v r m:Int}{au:Option Addr}{cu:Nat}{xs:List aC}{W2:World}{p2:Nat}(h:OpI R w W a len cap p s t k z q l e b v r m au cu xs)(hR:R<w.heap.size)(k9:Kp R W W2)(d:Rd R W2 a len cap p2):OpI R w W2 a len cap p2 s t k z q l e b v r m au cu xs:=
 ⟨(k9.all _ (ay h.J) (by omega)).trans h.J,(k9.all _ (ay h.Z) (by omega)).trans h.Z,(k9.all _ (ay h.S) (by omega)).trans h.S,jM h.O k9 hR,h.K.trans k9,d⟩
theorem OpI.bel{R:Nat}{w W:World}{a:Option Addr}{len cap p:Nat}{s t k z q l e:Int}{b:Bool}{v r m:Int}{au:Option Addr}{cu:Nat}{xs:List aC}{W2:World}(h:OpI R w W a len cap p s t k z q l e b v r m au cu xs)(hR:R<w.heap.size)(hb:Below W.heap.size W W2):OpI R w W2 a len cap p s t k z q l e b v r m au cu xs:=
 h.kp hR (Kp.of_bel (by have:=h.K.low.size;omega) hb) (h.D.kp (by have:=h.K.low.size;omega) hb)
theorem OpI.set{R:Nat}{w W:World}{a:Option Addr}{len cap p:Nat}{s t k z q l e:Int}{b:Bool}{v r m:Int}{au:Option Addr}{cu:Nat}{xs:List aC}(h:OpI R w W a len cap p s t k z q l e b v r m au cu xs)(hR:R<w.heap.size){m2:Int}{au2:Option Addr}{cu2:Nat}{ys:List aC}(hO:aS W w.heap.size (.slice au2 ys.length cu2) ys):OpI R w ((W.setCell ⟨w.heap.size+1+1,0,none⟩ (.int .i64 m2)).setCell ⟨w.heap.size+1+1,1,none⟩ (.slice au2 ys.length cu2)) a len cap p s t k z q l e b v r m2 au2 cu2 ys:=
 ⟨(Below.heap_setCell _ _ _ _ (by show _≠w.heap.size+1+1;omega)).trans ((Below.heap_setCell _ _ _ _ (by show _≠w.heap.size+1+1;omega)).trans h.J),(Below.heap_setCell _ _ _ _ (by show _≠w.heap.size+1+1;omega)).trans ((Below.heap_setCell _ _ _ _ (by show _≠w.heap.size+1+1;omega)).trans h.Z),Joins.block_setCell (Joins.block_setCell h.S _) _,al (al hO (af hO h.S (by decide))) (af hO h.S (by decide)),aj (aj h.K (by omega) (by omega)) (by omega) (by omega),ai (ai h.D (by omega)) (by omega)⟩
theorem OpI.setX{R:Nat}{w W:World}{a:Option Addr}{len cap p:Nat}{s t k z q l e:Int}{b:Bool}{v r m:Int}{au:Option Addr}{cu:Nat}{xs:List aC}{B o:Nat}{u:Value}{cs:Array Value}{ty:TypeId}(h:OpI R w W a len cap p s t k z q l e b v r m au cu xs)(hR:R<w.heap.size)(hX:W.heap[B]? =some (.cells cs ty (0,0)))(hty:ty≠57)(hB:w.heap.size+1+1<B):OpI R w (W.setCell ⟨B,o,none⟩ u) a len cap p s t k z q l e b v r m au cu xs:=
 ⟨(Below.heap_setCell _ _ _ _ (by show _≠B;omega)).trans h.J,(Below.heap_setCell _ _ _ _ (by show _≠B;omega)).trans h.Z,(Below.heap_setCell _ _ _ _ (by show _≠B;omega)).trans h.S,al h.O (af h.O hX hty),aj h.K (by omega) (by omega),ai h.D (by omega)⟩
theorem OpI.rows{R:Nat}{w W:World}{a:Option Addr}{len cap p:Nat}{s t k z q l e:Int}{b:Bool}{v r m:Int}{au:Option Addr}{cu:Nat}{xs:List aC}(h:OpI R w W a len cap p s t k z q l e b v r m au cu xs)(hl:xs.length≤1048576):cO W au xs.length xs:=by
 obtain⟨a9,c9,e9,h1,h2,_⟩:=eo h.O hl
 simp at e9
 obtain⟨rfl,rfl⟩:=e9
 exact h1
def OpDr(N R:Nat)(w:World)(a:Option Addr)(len cap p:Nat)(e':Ending)(w':World):Prop:=∃(m:Int) (au:Option Addr) (cu:Nat) (xs:List aC),e'= .returned (.agg #[.int .i64 m,.slice au xs.length cu])∧aS w' w.heap.size (.slice au xs.length cu) xs∧xs.length≤N∧(-1≤m∧m≤1001)∧Kp R w w'∧∃p',p'≤p+600∧Rd R w' a len cap p'
theorem OpI.done{R:Nat}{w W:World}{a:Option Addr}{len cap p:Nat}{s t k z q l e:Int}{b:Bool}{v r m:Int}{au:Option Addr}{cu:Nat}{xs:List aC}{p0 N:Nat}(h:OpI R w W a len cap p s t k z q l e b v r m au cu xs)(hR:R<w.heap.size)(hx:xs.length≤N)(hm: -1≤m∧m≤1001)(hp:p≤p0+600):OpDr N R w a len cap p0 (.returned (.agg #[.int .i64 m,.slice au xs.length cu])) ((W.setCell ⟨w.heap.size+1,0,none⟩ (.int .i64 m)).setCell ⟨w.heap.size+1,1,none⟩ (.slice au xs.length cu)):=
 ⟨m,au,cu,xs,rfl,al (al h.O (af h.O h.Z (by decide))) (af h.O h.Z (by decide)),hx,hm,aj (aj h.K (by omega) (by omega)) (by omega) (by omega),p,hp,ai (ai h.D (by omega)) (by omega)⟩
theorem mark_lo(s t k z q l e:Int)(b:Bool)(v r m:Int)(xs:List aC)(mark:Int)(hm:0≤m∧m≤1000):(0≤(ej s t k z q l e b v r m xs mark).1∧(ej s t k z q l e b v r m xs mark).1≤1000)∧(ej s t k z q l e b v r m xs mark).2.1.length≤xs.length:=by
 unfold ej
 split
 ·rename_i h9
  rw[Bool.and_eq_true]at h9
  have h8:=br.1 h9.2
  split
  ·exact⟨h8,kE _ _ _⟩
  ·exact⟨hm,Nat.le_refl _⟩
 ·exact⟨⟨Int.le_refl _,by decide⟩,Nat.zero_le _⟩
set_option linter.unusedSimpArgs false
set_option maxRecDepth 100000 in
set_option maxHeartbeats 8000000 in
theorem opd_any(R:Nat)(a:Option Addr)(len cap p:Nat)(s t k z q l e:Int)(b:Bool)(v r:Int)(w:World)(hp:p≤700000)(hR0:R<w.heap.size)(h:Rd R w a len cap p):Calls Tryz.prog 52 #[.pointer (some ⟨R,0,none⟩),.agg #[.int .i64 s,.int .i64 t,.int .i64 k,.int .i64 z,.int .i64 q,.int .i64 l,.int .i64 e,.bool b,.int .i64 v,.int .i64 r]] w fun e' w'=>OpDr 260 R w a len cap p e' w':=by
 have hb0:Below w.heap.size w (((w.alloc (.cells #[.int .i64 s,.int .i64 t,.int .i64 k,.int .i64 z,.int .i64 q,.int .i64 l,.int .i64 e,.bool b,.int .i64 v,.int .i64 r] 24)).alloc (.cells #[.int .i64 0,.slice none 0 0] 27)).alloc (.cells #[.int .i64 0,.slice none 0 0] 27)):=ag (ag (aq _ _) _) _
 have eJ:(((w.alloc (.cells #[.int .i64 s,.int .i64 t,.int .i64 k,.int .i64 z,.int .i64 q,.int .i64 l,.int .i64 e,.bool b,.int .i64 v,.int .i64 r] 24)).alloc (.cells #[.int .i64 0,.slice none 0 0] 27)).alloc (.cells #[.int .i64 0,.slice none 0 0] 27)).heap[w.heap.size]? =some (.cells #[.int .i64 s,.int .i64 t,.int .i64 k,.int .i64 z,.int .i64 q,.int .i64 l,.int .i64 e,.bool b,.int .i64 v,.int .i64 r] 24 (0,0)):=aN<|aN<|nA
 have eZ:(((w.alloc (.cells #[.int .i64 s,.int .i64 t,.int .i64 k,.int .i64 z,.int .i64 q,.int .i64 l,.int .i64 e,.bool b,.int .i64 v,.int .i64 r] 24)).alloc (.cells #[.int .i64 0,.slice none 0 0] 27)).alloc (.cells #[.int .i64 0,.slice none 0 0] 27)).heap[w.heap.size+1]? =some (.cells #[.int .i64 0,.slice none 0 0] 27 (0,0)):=aN<|nA
 have eS:(((w.alloc (.cells #[.int .i64 s,.int .i64 t,.int .i64 k,.int .i64 z,.int .i64 q,.int .i64 l,.int .i64 e,.bool b,.int .i64 v,.int .i64 r] 24)).alloc (.cells #[.int .i64 0,.slice none 0 0] 27)).alloc (.cells #[.int .i64 0,.slice none 0 0] 27)).heap[w.heap.size+1+1]? =some (.cells #[.int .i64 0,.slice none 0 0] 27 (0,0)):=nA
 have HI0:Hid (OpI R w (((w.alloc (.cells #[.int .i64 s,.int .i64 t,.int .i64 k,.int .i64 z,.int .i64 q,.int .i64 l,.int .i64 e,.bool b,.int .i64 v,.int .i64 r] 24)).alloc (.cells #[.int .i64 0,.slice none 0 0] 27)).alloc (.cells #[.int .i64 0,.slice none 0 0] 27)) a len cap (p) s t k z q l e b v r (0) none 0 []):=ae ⟨eJ,eZ,eS,World.ownsRow_nil _ _ _ _,Kp.of_bel (Nat.le_of_lt hR0) hb0,h.kp hR0 hb0⟩
 clear eJ eZ eS
 go_enter Tryz.func52,Tryz.ntmps52
 go_wp2_with fail
 refine(aG R a len cap p 14 _ (by decide) (by decide) (ab HI0).D).mono ?_
 rintro e' wb ⟨x,rfl,xl,xu,k9,r9⟩
 obtain⟨kx,rfl⟩:=Int.eq_ofNat_of_zero_le xl
 have HI1:=ae ((ab HI0).kp hR0 k9 (r9 (by omega)))
 clear k9 r9 HI0 hb0
 go_wp2
 go_loopw [6,7] (fun mv kv wr=>∃(n:Nat) (mk m:Int) (au:Option Addr) (cu:Nat) (xs:List aC) (p':Nat),mv= .int .i64 mk∧kv= .int .i64 n∧n≤13∧0≤mk∧mk+11*n≤143∧xs.length+20*n≤260∧(0≤m∧m≤1000)∧p'+40*n≤p+521∧Hid (OpI R w wr a len cap (p') s t k z q l e b v r (m) au cu xs)) (fun _ kv _=>(intOf kv).toNat)
 case atStart=>exact⟨kx,0,0,none,0,[],p+1,rfl,rfl,by omega,by omega,by omega,by show 0+20*kx≤260;omega,by omega,by omega,HI1⟩
 case round=>
  clear HI1
  obtain⟨n,mk,m,au,cu,xs,p',rfl,rfl,hn,hm0,hm1,hx,hmb,hp',HI⟩:=hrel
  have hRr:R<wr.heap.size:=by have:=(ab HI).K.low.size;omega
  obtain⟨j0,j1,j2,j3,j4,j5,j6,j7,j8,j9⟩:=cZ (ab HI).J
  obtain⟨s0,s1⟩:=c2 (ab HI).S
  obtain⟨z0,z1⟩:=c2 (ab HI).Z
  have f0:=cF (ab HI).S 0
  have g0:=cF (ab HI).Z 0
  have f1:=cF (ab HI).S 1
  have g1:=cF (ab HI).Z 1
  have zS:w.heap.size+1+1<wr.heap.size:=ay (ab HI).S
  by_cases hlt:0<(n:Int)
  ·have hlt2:decide (0<(n:Int))=true:=by simpa using hlt
   go_wp2_with fail
   refine(dz s t k z q l e b v r _).mono ?_
   rintro e' w1 ⟨rfl,hb1⟩
   obtain⟨ob,hob⟩:∃ob,aV s t k z q l e v r=ob:=⟨_,rfl⟩
   rw[hob]
   clear hob
   have HI1:=ae ((ab HI).bel hR0 hb1)
   clear j0 j1 j2 j3 j4 j5 j6 j7 j8 j9 s0 s1 f0 f1 z0 z1 g0 g1 zS
   clear HI hb1
   obtain⟨j0,j1,j2,j3,j4,j5,j6,j7,j8,j9⟩:=cZ (ab HI1).J
   obtain⟨s0,s1⟩:=c2 (ab HI1).S
   obtain⟨z0,z1⟩:=c2 (ab HI1).Z
   have f0:=cF (ab HI1).S 0
   have g0:=cF (ab HI1).Z 0
   have f1:=cF (ab HI1).S 1
   have g1:=cF (ab HI1).Z 1
   have zS:w.heap.size+1+1<w1.heap.size:=ay (ab HI1).S
   cases ob with
   |false=>
    go_wp2
    refine bodyPost_ret (v:= .agg #[.int .i64 m,.slice au xs.length cu]) (by simp(maxDischargeDepth:=9) [results,Tryz.results52,go_sem, *]) rfl ?_
    exact(ab HI1).done (p0:=p) (N:=260) hR0 (by omega) (by omega) (by omega)
   |true=>
    go_wp2_with fail
    refine(aG R a len cap p' 4 _ (by decide) (by decide) (ab HI1).D).mono ?_
    rintro e' w2 ⟨y,rfl,yl,yu,k9,r9⟩
    have HI2:=ae ((ab HI1).kp hR0 k9 (r9 (by omega)))
    clear j0 j1 j2 j3 j4 j5 j6 j7 j8 j9 s0 s1 f0 f1 z0 z1 g0 g1 zS
    clear HI1 k9 r9
    by_cases hy:y=0
    ·subst hy
     go_wp2_with fail
     refine(aG R a len cap (p'+1) 12 _ (by decide) (by decide) (ab HI2).D).mono ?_
     rintro e' w3 ⟨y2,rfl,y2l,y2u,k9,r9⟩
     have HI3:=ae ((ab HI2).kp hR0 k9 (r9 (by omega)))
     clear HI2 k9 r9
     have hw1:IntKind.i64.wrap (mk+y2)=mk+y2:=IntWalk.i64_in _ ⟨by omega,by omega⟩
     obtain⟨j0,j1,j2,j3,j4,j5,j6,j7,j8,j9⟩:=cZ (ab HI3).J
     obtain⟨s0,s1⟩:=c2 (ab HI3).S
     obtain⟨z0,z1⟩:=c2 (ab HI3).Z
     have f0:=cF (ab HI3).S 0
     have g0:=cF (ab HI3).Z 0
     have f1:=cF (ab HI3).S 1
     have g1:=cF (ab HI3).Z 1
     have zS:w.heap.size+1+1<w3.heap.size:=ay (ab HI3).S
     obtain⟨⟨M,R9,P⟩,hF⟩:∃r9,ej s t k z q l e b v r m xs (mk+y2)=r9:=⟨_,rfl⟩
     have hlo:=mark_lo s t k z q l e b v r m xs (mk+y2) hmb
     have HC:=lJ s t k z q l e b v r m au xs.length cu xs (mk+y2) w3 ((ab HI3).rows (by omega))
     rw[hF]at hlo HC
     dsimp only at hlo HC
     obtain⟨hM,hR9⟩:=hlo
     have HC:=ae HC
     clear hF
     go_wp2_with fail
     refine(ab HC).mono ?_
     rintro e' w4 ⟨v1,v2,rfl,hO4,_,hb4⟩
     obtain⟨a4,c4,rfl⟩:=dr hO4
     have zw3:=(ab HI3).K.low.size
     have HO4:Hid (aS w4 w.heap.size (.slice a4 R9.length c4) R9):=ae (World.ownsRow.mono hO4 (by show w.heap.size≤w3.heap.size;omega))
     have HI4:=ae ((ab HI3).bel hR0 hb4)
     clear j0 j1 j2 j3 j4 j5 j6 j7 j8 j9 s0 s1 f0 f1 z0 z1 g0 g1 zS
     clear HI3 HC hO4 hb4
     obtain⟨j0,j1,j2,j3,j4,j5,j6,j7,j8,j9⟩:=cZ (ab HI4).J
     obtain⟨s0,s1⟩:=c2 (ab HI4).S
     obtain⟨z0,z1⟩:=c2 (ab HI4).Z
     have f0:=cF (ab HI4).S 0
     have g0:=cF (ab HI4).Z 0
     have f1:=cF (ab HI4).S 1
     have g1:=cF (ab HI4).Z 1
     have zS:w.heap.size+1+1<w4.heap.size:=ay (ab HI4).S
     have HI5:=ae ((ab HI4).set hR0 (m2:=M) (ab HO4))
     go_wp2
     refine⟨⟨n - 1,mk+y2,M,a4,c4,R9,p'+1+1,rfl,?_,by omega,by omega,by omega,by omega,by omega,by omega,HI5⟩,by simp[intOf];omega⟩
     have h9:((n - 1:Nat):Int)=(n:Int) - 1:=by omega
     rw[h9]
    ·have hy2:(y==0)=false:=by simpa using hy
     go_wp2_with fail
     refine(lK R a len cap (p'+1) _ (by omega) (by have:=(ab HI2).K.low.size;show R<w2.heap.size;omega) (ab HI2).D).mono ?_
     rintro e' w3 ⟨T,K,V,rfl,hT,hK,hV,k9,r9⟩
     have HI3:=ae ((ab HI2).kp hR0 k9 r9)
     clear HI2 k9 r9
     have HXx:=ae (World.alloc_heap_new w3 (.cells #[.int .i64 1,.int .i64 T,.int .i64 K,.int .i64 V,.int .i64 0] 29))
     have hBX0:Hid (w.heap.size+1+1<w3.heap.size):=ae (ay (ab HI3).S)
     have HI4:=ae ((ab HI3).bel hR0 (aq w3 (.cells #[.int .i64 1,.int .i64 T,.int .i64 K,.int .i64 V,.int .i64 0] 29)))
     clear HI3
     go_wp2_with fail
     have hXx:=ab HXx
     have hBX:=ab hBX0
     clear HXx hBX0
     generalize w3.heap.size=X at hXx hBX ⊢
     generalize w3.alloc (.cells #[.int .i64 1,.int .i64 T,.int .i64 K,.int .i64 V,.int .i64 0] 29)=wx at HI4 hXx ⊢
     refine(aG R a len cap (p'+1+4) 2 _ (by decide) (by decide) (ab HI4).D).mono ?_
     rintro e' w4 ⟨K2,rfl,hK2,hK3,k9,r9⟩
     have HI5:=ae ((ab HI4).kp hR0 k9 (r9 (by omega)))
     have hX5:=(k9.all X (ay hXx) (by omega)).trans hXx
     clear HI4 k9 r9 hXx
     obtain⟨x0,x1,x2,x3,x4⟩:=c5 hX5
     obtain⟨xf0,xf1,xf2,xf3,xf4⟩:=f5 hX5
     have zX:X<w4.heap.size:=ay hX5
     go_wp2_with fail
     clear x0 x1 x2 x3 x4 xf0 xf1 xf2 xf3 xf4 zX
     have HI6:=ae ((ab HI5).setX hR0 hX5 (by decide) hBX (o:=2) (u:= .int .i64 K2))
     have hX6:(w4.setCell ⟨X,2,none⟩ (.int .i64 K2)).heap[X]? =some (.cells #[.int .i64 1,.int .i64 T,.int .i64 K2,.int .i64 V,.int .i64 0] 29 (0,0)):=Joins.block_setCell hX5 _
     clear HI5 hX5
     generalize w4.setCell ⟨X,2,none⟩ (.int .i64 K2)=w5 at HI6 hX6 ⊢
     refine(aG R a len cap (p'+1+4+1) 24 _ (by decide) (by decide) (ab HI6).D).mono ?_
     rintro e' w6 ⟨y3,rfl,y3l,y3u,k9,r9⟩
     have HI7:=ae ((ab HI6).kp hR0 k9 (r9 (by omega)))
     have hX7:=(k9.all X (ay hX6) (by omega)).trans hX6
     clear HI6 k9 r9 hX6
     have hw1:IntKind.i64.wrap (mk+y3)=mk+y3:=IntWalk.i64_in _ ⟨by omega,by omega⟩
     have hw2:IntKind.i64.wrap (mk+y3 - 10)=mk+y3 - 10:=IntWalk.i64_in _ ⟨by omega,by omega⟩
     obtain⟨T2,hT2⟩:∃T2,mk+y3 - 10=T2:=⟨_,rfl⟩
     rw[hT2]at hw2
     have hT3:mk+y3 - 10=T2:=hT2
     clear hT2
     obtain⟨x0,x1,x2,x3,x4⟩:=c5 hX7
     obtain⟨xf0,xf1,xf2,xf3,xf4⟩:=f5 hX7
     have zX:X<w6.heap.size:=ay hX7
     have HI8:=ae ((ab HI7).setX hR0 hX7 (by decide) hBX (o:=1) (u:= .int .i64 T2))
     have hX8:(w6.setCell ⟨X,1,none⟩ (.int .i64 T2)).heap[X]? =some (.cells #[.int .i64 1,.int .i64 T2,.int .i64 K2,.int .i64 V,.int .i64 0] 29 (0,0)):=Joins.block_setCell hX7 _
     go_wp2_with fail
     refine(aI _ _ _ _).mono ?_
     rintro e' w7 ⟨rfl,hw7⟩
     obtain rfl:=hw7.symm
     clear hw7 x0 x1 x2 x3 x4 xf0 xf1 xf2 xf3 xf4 zX HI7 hX7 hw1 hw2 hT3
     generalize w6.setCell ⟨X,1,none⟩ (.int .i64 T2)=w8 at HI8 hX8 ⊢
     obtain⟨ob,hob⟩:∃ob,bH T2 0 60=ob:=⟨_,rfl⟩
     rw[hob]
     clear hob
     obtain⟨j0,j1,j2,j3,j4,j5,j6,j7,j8,j9⟩:=cZ (ab HI8).J
     obtain⟨s0,s1⟩:=c2 (ab HI8).S
     obtain⟨z0,z1⟩:=c2 (ab HI8).Z
     have f0:=cF (ab HI8).S 0
     have g0:=cF (ab HI8).Z 0
     have f1:=cF (ab HI8).S 1
     have g1:=cF (ab HI8).Z 1
     have zS:w.heap.size+1+1<w8.heap.size:=ay (ab HI8).S
     obtain⟨x0,x1,x2,x3,x4⟩:=c5 hX8
     obtain⟨xf0,xf1,xf2,xf3,xf4⟩:=f5 hX8
     have zX:X<w8.heap.size:=ay hX8
     cases ob with
     |false=>
      go_wp2
      refine⟨⟨n - 1,mk,m,au,cu,xs,p'+1+4+1+1,rfl,?_,by omega,by omega,by omega,by omega,by omega,by omega,HI8⟩,by simp[intOf];omega⟩
      have h9:((n - 1:Nat):Int)=(n:Int) - 1:=by omega
      rw[h9]
     |true=>
      obtain⟨⟨M,R9,P,L⟩,hF⟩:∃r9,de s t k z q l e b v r m xs 1 T2 K2 V 0=r9:=⟨_,rfl⟩
      have hlo:=And.intro (tk_lo s t k z q l e b v r m xs 1 T2 K2 V 0).1 (tk_20 s t k z q l e b v r m xs 1 T2 K2 V 0)
      have HC:=ic s t k z q l e b v r m au xs.length cu xs 1 T2 K2 V 0 w8 ((ab HI8).rows (by omega))
      rw[hF]at hlo HC
      dsimp only at hlo HC
      obtain⟨hM,hR9⟩:=hlo
      have HC:=ae HC
      clear hF
      go_wp2_with fail
      refine(ab HC).mono ?_
      rintro e' w9 ⟨v1,v2,v3,rfl,hO4,_,_,hb4⟩
      obtain⟨a4,c4,rfl⟩:=dr hO4
      have zw3:=(ab HI8).K.low.size
      have HO4:Hid (aS w9 w.heap.size (.slice a4 R9.length c4) R9):=ae (World.ownsRow.mono hO4 (by show w.heap.size≤w8.heap.size;omega))
      have HI9:=ae ((ab HI8).bel hR0 hb4)
      clear j0 j1 j2 j3 j4 j5 j6 j7 j8 j9 s0 s1 f0 f1 z0 z1 g0 g1 zS
      clear HI8 HC hO4 hb4 x0 x1 x2 x3 x4 xf0 xf1 xf2 xf3 xf4 zX hX8
      obtain⟨j0,j1,j2,j3,j4,j5,j6,j7,j8,j9⟩:=cZ (ab HI9).J
      obtain⟨s0,s1⟩:=c2 (ab HI9).S
      obtain⟨z0,z1⟩:=c2 (ab HI9).Z
      have f0:=cF (ab HI9).S 0
      have g0:=cF (ab HI9).Z 0
      have f1:=cF (ab HI9).S 1
      have g1:=cF (ab HI9).Z 1
      have zS:w.heap.size+1+1<w9.heap.size:=ay (ab HI9).S
      have HI10:=ae ((ab HI9).set hR0 (m2:=M) (ab HO4))
      have hM2:0≤M∧M≤1000:=by omega
      clear hM
      go_wp2
      refine⟨⟨n - 1,mk,M,a4,c4,R9,p'+1+4+1+1,rfl,?_,by omega,by omega,by omega,by omega,by omega,by omega,HI10⟩,by simp[intOf];omega⟩
      have h9:((n - 1:Nat):Int)=(n:Int) - 1:=by omega
      rw[h9]
  ·have hlt2:decide (0<(n:Int))=false:=by simpa using hlt
   go_wp2
   refine bodyPost_ret (v:= .agg #[.int .i64 m,.slice au xs.length cu]) (by simp(maxDischargeDepth:=9) [results,Tryz.results52,go_sem, *]) rfl ?_
   exact(ab HI).done (p0:=p) (N:=260) hR0 (by omega) (by omega) (by omega)
end Go.Proofs.YtdmhihcipkhecaaGreat
namespace Go.Proofs.YtdmhihcipkhecaaGreat
open Go.ChangeShapes Go.WideShapes Go.ChangeAt Go.RowKit
theorem el5(x:Int)(bx1:0≤x)(bx2:x≤60)(y:Int)(h3:0≤y)(h4:y<5):∃t:Int,(#[Value.int .i64 0,.int .i64 5,.int .i64 20,.int .i64 60,.int .i64 x]:Array Value)[y.toNat]? =some (.int .i64 t)∧([Value.int .i64 0,.int .i64 5,.int .i64 20,.int .i64 60,.int .i64 x]:List Value)[y.toNat]? =some (.int .i64 t)∧(∀h,([Value.int .i64 0,.int .i64 5,.int .i64 20,.int .i64 60,.int .i64 x]:List Value)[y.toNat]'h= .int .i64 t)∧0≤t∧t≤60:=by
 have:y=0∨y=1∨y=2∨y=3∨y=4:=by omega
 rcases this with rfl|rfl|rfl|rfl|rfl
 ·exact⟨0,rfl,rfl,fun _=>rfl,by omega,by omega⟩
 ·exact⟨5,rfl,rfl,fun _=>rfl,by omega,by omega⟩
 ·exact⟨20,rfl,rfl,fun _=>rfl,by omega,by omega⟩
 ·exact⟨60,rfl,rfl,fun _=>rfl,by omega,by omega⟩
 ·exact⟨x,rfl,rfl,fun _=>rfl,by omega,by omega⟩
theorem el4(y:Int)(h3:0≤y)(h4:y<4):∃t:Int,(#[Value.int .i64 1,.int .i64 5,.int .i64 10,.int .i64 20]:Array Value)[y.toNat]? =some (.int .i64 t)∧([Value.int .i64 1,.int .i64 5,.int .i64 10,.int .i64 20]:List Value)[y.toNat]? =some (.int .i64 t)∧(∀h,([Value.int .i64 1,.int .i64 5,.int .i64 10,.int .i64 20]:List Value)[y.toNat]'h= .int .i64 t)∧1≤t∧t≤20:=by
 have:y=0∨y=1∨y=2∨y=3:=by omega
 rcases this with rfl|rfl|rfl|rfl
 ·exact⟨1,rfl,rfl,fun _=>rfl,by omega,by omega⟩
 ·exact⟨5,rfl,rfl,fun _=>rfl,by omega,by omega⟩
 ·exact⟨10,rfl,rfl,fun _=>rfl,by omega,by omega⟩
 ·exact⟨20,rfl,rfl,fun _=>rfl,by omega,by omega⟩
theorem el3(x:Int)(bx1:(-1)≤x)(bx2:x≤121)(y:Int)(h3:0≤y)(h4:y<3):∃t:Int,(#[Value.int .i64 (-1),.int .i64 61,.int .i64 x]:Array Value)[y.toNat]? =some (.int .i64 t)∧([Value.int .i64 (-1),.int .i64 61,.int .i64 x]:List Value)[y.toNat]? =some (.int .i64 t)∧(∀h,([Value.int .i64 (-1),.int .i64 61,.int .i64 x]:List Value)[y.toNat]'h= .int .i64 t)∧(-1)≤t∧t≤121:=by
 have:y=0∨y=1∨y=2:=by omega
 rcases this with rfl|rfl|rfl
 ·exact⟨(-1),rfl,rfl,fun _=>rfl,by omega,by omega⟩
 ·exact⟨61,rfl,rfl,fun _=>rfl,by omega,by omega⟩
 ·exact⟨x,rfl,rfl,fun _=>rfl,by omega,by omega⟩
theorem el4b(y:Int)(h3:0≤y)(h4:y<4):∃t:Int,(#[Value.int .i64 121,.int .i64 120,.int .i64 0,.int .i64 (-1)]:Array Value)[y.toNat]? =some (.int .i64 t)∧([Value.int .i64 121,.int .i64 120,.int .i64 0,.int .i64 (-1)]:List Value)[y.toNat]? =some (.int .i64 t)∧(∀h,([Value.int .i64 121,.int .i64 120,.int .i64 0,.int .i64 (-1)]:List Value)[y.toNat]'h= .int .i64 t)∧(-1)≤t∧t≤121:=by
 have:y=0∨y=1∨y=2∨y=3:=by omega
 rcases this with rfl|rfl|rfl|rfl
 ·exact⟨121,rfl,rfl,fun _=>rfl,by omega,by omega⟩
 ·exact⟨120,rfl,rfl,fun _=>rfl,by omega,by omega⟩
 ·exact⟨0,rfl,rfl,fun _=>rfl,by omega,by omega⟩
 ·exact⟨(-1),rfl,rfl,fun _=>rfl,by omega,by omega⟩
/-- A window in a box of its own; the box of the answer is empty. -/
structure WinAt(R:Nat)(w W:World)(B:Nat)(s0 e0:Int):Prop where
 c0:W.cell? ⟨B,0,none⟩=some (.int .i64 s0)
 c1:W.cell? ⟨B,1,none⟩=some (.int .i64 e0)
 f0:W.frozen? ⟨B,0,none⟩=false
 f1:W.frozen? ⟨B,1,none⟩=false
 r0:W.cell? ⟨w.heap.size,0,none⟩=some (.int .i64 0)
 r1:W.cell? ⟨w.heap.size,1,none⟩=some (.int .i64 0)
 g0:W.frozen? ⟨w.heap.size,0,none⟩=false
 g1:W.frozen? ⟨w.heap.size,1,none⟩=false
 lo:w.heap.size<B
 hi:B<W.heap.size
 nr:B≠R
 s1: -1≤s0
 s2:s0≤121
 e1: -1≤e0
 e2:e0≤121
 kp:Kp R w W
/-- What a drawn window is. -/
def WinP(R:Nat)(w:World)(a:Option Addr)(len cap p:Nat)(e:Ending)(w':World):Prop:=∃s0 e0:Int,e= .returned (.agg #[.int .i64 s0,.int .i64 e0])∧(-1≤s0∧s0≤121)∧(-1≤e0∧e0≤121)∧Kp R w w'∧∃p',p'≤p+7∧Rd R w' a len cap p'
set_option maxRecDepth 20000 in
set_option maxHeartbeats 4000000 in
theorem win_any(R:Nat)(a:Option Addr)(len cap p:Nat)(n:Int)(w:World)(hn:1≤n)(hn2:n≤100000)(hp:p≤900000)(hR:R<w.heap.size)(h:Rd R w a len cap p):Calls Tryz.prog 75 #[.pointer (some ⟨R,0,none⟩),.int .i64 n] w fun e w'=>WinP R w a len cap p e w':=by
 have r0:=ae h
 have hn0:w.heap.size≠R:=by omega
 clear h
 go_enter Tryz.func75,Tryz.ntmps75
 go_wp2_with (first
  |(go_at_call 25;(with_reducible refine(aG R a len cap p 40 _ (by omega) (by omega) ((ab r0).kp hR (na))).mono ?_);rintro e wa ⟨x,rfl,bx1,bx2,kwa,qwa⟩;have rwa:=ae (qwa (by omega));clear qwa;have zwa:=kwa.low.size;have hRwa:R<wa.heap.size:=(by(try simp at zwa);omega);have hnwa:wa.heap.size≠R:=(by omega);have hcwa:=(fun b o hb hn=>kwa.cell (b:=b) (o:=o) hb hn);have hfwa:=(fun b o hb hn=>kwa.frozen (b:=b) (o:=o) hb hn);have hzwa:w.heap.size<wa.heap.size:=(by(try simp at zwa);omega))
  |(go_at_call 25;(with_reducible refine(aG R a len cap (p+1) 5 _ (by omega) (by omega) ((ab rwa).kp hRwa (na))).mono ?_);rintro e wb ⟨y,rfl,by1,by2,kwb,qwb⟩;have rwb:=ae (qwb (by omega));clear qwb;have zwb:=kwb.low.size;have hRwb:R<wb.heap.size:=(by(try simp at zwb);omega);have hnwb:wb.heap.size≠R:=(by omega);have hcwb:=(fun b o hb hn=>kwb.cell (b:=b) (o:=o) hb hn);have hfwb:=(fun b o hb hn=>kwb.frozen (b:=b) (o:=o) hb hn);have hzwb:w.heap.size<wb.heap.size:=(by(try simp at zwb);omega);(try have ywawb:wa.heap.size<wb.heap.size:=(by(try simp at zwb);omega));obtain⟨t,ht,ht',ht'',bt1,bt2⟩:=el5 x (by omega) (by omega) y by1 by2;have hm2:wb.heap.size+1≠R:=(by omega);have hm3:wb.heap.size+1+1≠R:=(by omega)))
 go_cut [5] (fun pv W=>∃B s0 e0 p',pv= .pointer (some ⟨B,0,none⟩)∧WinAt R w W B s0 e0∧p'≤p+3∧Hid (Rd R W a len cap p'))
 case first=>
  go_region_with (first
   |(go_at_call 25;(with_reducible refine(aG R a len cap (p+2) 4 _ (by omega) (by omega) ((ab rwb).kp hRwb (na))).mono ?_);rintro e wc ⟨q,rfl,bq1,bq2,kwc,qwc⟩;have rwc:=ae (qwc (by omega));clear qwc;have zwc:=kwc.low.size;have hRwc:R<wc.heap.size:=(by(try simp at zwc);omega);have hnwc:wc.heap.size≠R:=(by omega);have hcwc:=(fun b o hb hn=>kwc.cell (b:=b) (o:=o) hb hn);have hfwc:=(fun b o hb hn=>kwc.frozen (b:=b) (o:=o) hb hn);have hzwc:w.heap.size<wc.heap.size:=(by(try simp at zwc);omega);(try have ywbwc:wb.heap.size<wc.heap.size:=(by(try simp at zwc);omega));(try have ywawc:wa.heap.size<wc.heap.size:=(by(try simp at zwc);omega));obtain⟨u,hu,hu',hu'',bu1,bu2⟩:=el4 q bq1 bq2;have hwu:IntKind.i64.wrap (t+u)=t+u:=IntWalk.i64_in _ (by omega)))
  all_goals
   go_wp2
   go_meet
   refine⟨wb.heap.size,t,t+u,p+3,rfl,⟨?_,?_,?_,?_,?_,?_,?_,?_,?_,?_,?_,?_,?_,?_,?_,?_⟩,Nat.le_refl _,ae ((ab rwc).up (mY))⟩
   all_goals first|omega|(simp(maxDischargeDepth:=9) [go_sem, *];done)|(simp;omega)|exact(mV)
 case rest=>
  obtain⟨B,s0,e0,p',rfl,⟨c0,c1,f0,f1,q0,q1,g0,g1,lo,hi,nr,b1,b2,b3,b4,kp⟩,hpp,rd⟩:=hcut
  rename World=>wk
  have hRk:R<wk.heap.size:=Nat.lt_of_lt_of_le hR kp.low.size
  have hne:wk.heap.size≠R:=by omega
  have hwk:w.heap.size<wk.heap.size:=by omega
  have KP:=kp
  clear kp
  clear r0
  go_wp2_with (first
   |(go_at_call 25;(with_reducible refine(aG R a len cap p' n _ (by omega) (by omega) ((ab rd).kp hRk (na))).mono ?_);rintro e wd ⟨v,rfl,bv1,bv2,kwd,qwd⟩;have rwd:=ae (qwd (by omega));clear qwd;have zwd:=kwd.low.size;have hRwd:R<wd.heap.size:=(by(try simp at zwd);omega);have hnwd:wd.heap.size≠R:=(by omega);have hcwd:=(fun b o hb hn=>kwd.cell (b:=b) (o:=o) hb hn);have hfwd:=(fun b o hb hn=>kwd.frozen (b:=b) (o:=o) hb hn);have hzwd:w.heap.size<wd.heap.size:=(by(try simp at zwd);omega);(try have ywcwd:wc.heap.size<wd.heap.size:=(by(try simp at zwd);omega));(try have ywbwd:wb.heap.size<wd.heap.size:=(by(try simp at zwd);omega));(try have ywawd:wa.heap.size<wd.heap.size:=(by(try simp at zwd);omega));have hywd:B<wd.heap.size:=(by(try simp at zwd);omega);have hylwd:B≤wd.heap.size:=(by omega);have hwlwd:w.heap.size≤wd.heap.size:=(by omega);have hn2wd:wd.heap.size+1≠R:=(by omega);(try have ykwd:wk.heap.size<wd.heap.size:=(by(try simp at zwd);omega));have hb0wd:wd.cell? ⟨B,0,none⟩=some (.int .i64 s0):=((hcwd _ 0 (nF) nr).trans (nf));have hbf0wd:wd.frozen? ⟨B,0,none⟩=false:=((hfwd _ 0 (nF) nr).trans (nf));have hb1wd:wd.cell? ⟨B,1,none⟩=some (.int .i64 e0):=((hcwd _ 1 (nF) nr).trans (nf));have hbf1wd:wd.frozen? ⟨B,1,none⟩=false:=((hfwd _ 1 (nF) nr).trans (nf));have hq0wd:wd.cell? ⟨w.heap.size,0,none⟩=some (.int .i64 0):=((hcwd _ 0 (nF) hn0).trans (nf));have hqf0wd:wd.frozen? ⟨w.heap.size,0,none⟩=false:=((hfwd _ 0 (nF) hn0).trans (nf));have hq1wd:wd.cell? ⟨w.heap.size,1,none⟩=some (.int .i64 0):=((hcwd _ 1 (nF) hn0).trans (nf));have hqf1wd:wd.frozen? ⟨w.heap.size,1,none⟩=false:=((hfwd _ 1 (nF) hn0).trans (nf))))
  ·go_wp2_with (first
    |(go_at_call 25;(with_reducible refine(aG R a len cap (p'+1) 2 _ (by omega) (by omega) ((ab rwd).kp hRwd (na))).mono ?_);rintro e wf ⟨v2,rfl,bv21,bv22,kwf,qwf⟩;have rwf:=ae (qwf (by omega));clear qwf;have zwf:=kwf.low.size;have hRwf:R<wf.heap.size:=(by(try simp at zwf);omega);have hnwf:wf.heap.size≠R:=(by omega);have hcwf:=(fun b o hb hn=>kwf.cell (b:=b) (o:=o) hb hn);have hfwf:=(fun b o hb hn=>kwf.frozen (b:=b) (o:=o) hb hn);have hzwf:w.heap.size<wf.heap.size:=(by(try simp at zwf);omega);(try have ywdwf:wd.heap.size<wf.heap.size:=(by(try simp at zwf);omega));(try have ywcwf:wc.heap.size<wf.heap.size:=(by(try simp at zwf);omega));(try have ywbwf:wb.heap.size<wf.heap.size:=(by(try simp at zwf);omega));(try have ywawf:wa.heap.size<wf.heap.size:=(by(try simp at zwf);omega));have hywf:B<wf.heap.size:=(by(try simp at zwf);omega);have hylwf:B≤wf.heap.size:=(by omega);have hwlwf:w.heap.size≤wf.heap.size:=(by omega);have hn2wf:wf.heap.size+1≠R:=(by omega);(try have ykwf:wk.heap.size<wf.heap.size:=(by(try simp at zwf);omega));have hb0wf:wf.cell? ⟨B,0,none⟩=some (.int .i64 s0):=((hcwf _ 0 (nF) nr).trans (nf));have hbf0wf:wf.frozen? ⟨B,0,none⟩=false:=((hfwf _ 0 (nF) nr).trans (nf));have hb1wf:wf.cell? ⟨B,1,none⟩=some (.int .i64 e0):=((hcwf _ 1 (nF) nr).trans (nf));have hbf1wf:wf.frozen? ⟨B,1,none⟩=false:=((hfwf _ 1 (nF) nr).trans (nf));have hq0wf:wf.cell? ⟨w.heap.size,0,none⟩=some (.int .i64 0):=((hcwf _ 0 (nF) hn0).trans (nf));have hqf0wf:wf.frozen? ⟨w.heap.size,0,none⟩=false:=((hfwf _ 0 (nF) hn0).trans (nf));have hq1wf:wf.cell? ⟨w.heap.size,1,none⟩=some (.int .i64 0):=((hcwf _ 1 (nF) hn0).trans (nf));have hqf1wf:wf.frozen? ⟨w.heap.size,1,none⟩=false:=((hfwf _ 1 (nF) hn0).trans (nf)))
    |(go_at_call 25;(with_reducible refine(aG R a len cap (p'+2) 4 _ (by omega) (by omega) ((ab rwf).kp hRwf (na))).mono ?_);rintro e wg ⟨q2,rfl,bq21,bq22,kwg,qwg⟩;have rwg:=ae (qwg (by omega));clear qwg;have zwg:=kwg.low.size;have hRwg:R<wg.heap.size:=(by(try simp at zwg);omega);have hnwg:wg.heap.size≠R:=(by omega);have hcwg:=(fun b o hb hn=>kwg.cell (b:=b) (o:=o) hb hn);have hfwg:=(fun b o hb hn=>kwg.frozen (b:=b) (o:=o) hb hn);have hzwg:w.heap.size<wg.heap.size:=(by(try simp at zwg);omega);(try have ywfwg:wf.heap.size<wg.heap.size:=(by(try simp at zwg);omega));(try have ywdwg:wd.heap.size<wg.heap.size:=(by(try simp at zwg);omega));(try have ywcwg:wc.heap.size<wg.heap.size:=(by(try simp at zwg);omega));(try have ywbwg:wb.heap.size<wg.heap.size:=(by(try simp at zwg);omega));(try have ywawg:wa.heap.size<wg.heap.size:=(by(try simp at zwg);omega));have hywg:B<wg.heap.size:=(by(try simp at zwg);omega);have hylwg:B≤wg.heap.size:=(by omega);have hwlwg:w.heap.size≤wg.heap.size:=(by omega);have hn2wg:wg.heap.size+1≠R:=(by omega);(try have ykwg:wk.heap.size<wg.heap.size:=(by(try simp at zwg);omega));have hb0wg:wg.cell? ⟨B,0,none⟩=some (.int .i64 s0):=((hcwg _ 0 (nF) nr).trans (nf));have hbf0wg:wg.frozen? ⟨B,0,none⟩=false:=((hfwg _ 0 (nF) nr).trans (nf));have hb1wg:wg.cell? ⟨B,1,none⟩=some (.int .i64 e0):=((hcwg _ 1 (nF) nr).trans (nf));have hbf1wg:wg.frozen? ⟨B,1,none⟩=false:=((hfwg _ 1 (nF) nr).trans (nf));have hq0wg:wg.cell? ⟨w.heap.size,0,none⟩=some (.int .i64 0):=((hcwg _ 0 (nF) hn0).trans (nf));have hqf0wg:wg.frozen? ⟨w.heap.size,0,none⟩=false:=((hfwg _ 0 (nF) hn0).trans (nf));have hq1wg:wg.cell? ⟨w.heap.size,1,none⟩=some (.int .i64 0):=((hcwg _ 1 (nF) hn0).trans (nf));have hqf1wg:wg.frozen? ⟨w.heap.size,1,none⟩=false:=((hfwg _ 1 (nF) hn0).trans (nf));obtain⟨u2,hu2,hu2',hu2'',bu3,bu4⟩:=el4b q2 bq21 bq22))
   ·go_region_with (first
     |(go_at_call 25;(with_reducible refine(aG R a len cap (p'+2) 3 _ (by omega) (by omega) ((ab rwf).kp hRwf (na))).mono ?_);rintro e wg ⟨q3,rfl,bq31,bq32,kwg,qwg⟩;have rwg:=ae (qwg (by omega));clear qwg;have zwg:=kwg.low.size;have hRwg:R<wg.heap.size:=(by(try simp at zwg);omega);have hnwg:wg.heap.size≠R:=(by omega);have hcwg:=(fun b o hb hn=>kwg.cell (b:=b) (o:=o) hb hn);have hfwg:=(fun b o hb hn=>kwg.frozen (b:=b) (o:=o) hb hn);have hzwg:w.heap.size<wg.heap.size:=(by(try simp at zwg);omega);(try have ywfwg:wf.heap.size<wg.heap.size:=(by(try simp at zwg);omega));(try have ywdwg:wd.heap.size<wg.heap.size:=(by(try simp at zwg);omega));(try have ywcwg:wc.heap.size<wg.heap.size:=(by(try simp at zwg);omega));(try have ywbwg:wb.heap.size<wg.heap.size:=(by(try simp at zwg);omega));(try have ywawg:wa.heap.size<wg.heap.size:=(by(try simp at zwg);omega));have hywg:B<wg.heap.size:=(by(try simp at zwg);omega);have hylwg:B≤wg.heap.size:=(by omega);have hwlwg:w.heap.size≤wg.heap.size:=(by omega);have hn2wg:wg.heap.size+1≠R:=(by omega);(try have ykwg:wk.heap.size<wg.heap.size:=(by(try simp at zwg);omega));have hb0wg:wg.cell? ⟨B,0,none⟩=some (.int .i64 s0):=((hcwg _ 0 (nF) nr).trans (nf));have hbf0wg:wg.frozen? ⟨B,0,none⟩=false:=((hfwg _ 0 (nF) nr).trans (nf));have hb1wg:wg.cell? ⟨B,1,none⟩=some (.int .i64 e0):=((hcwg _ 1 (nF) nr).trans (nf));have hbf1wg:wg.frozen? ⟨B,1,none⟩=false:=((hfwg _ 1 (nF) nr).trans (nf));have hq0wg:wg.cell? ⟨w.heap.size,0,none⟩=some (.int .i64 0):=((hcwg _ 0 (nF) hn0).trans (nf));have hqf0wg:wg.frozen? ⟨w.heap.size,0,none⟩=false:=((hfwg _ 0 (nF) hn0).trans (nf));have hq1wg:wg.cell? ⟨w.heap.size,1,none⟩=some (.int .i64 0):=((hcwg _ 1 (nF) hn0).trans (nf));have hqf1wg:wg.frozen? ⟨w.heap.size,1,none⟩=false:=((hfwg _ 1 (nF) hn0).trans (nf));obtain⟨t3,ht3,ht3',ht3'',bt3,bt4⟩:=el3 e0 b3 b4 q3 bq31 bq32))
    all_goals
     go_wp2
     refine bodyPost_ret (v:= .agg #[.int .i64 t3,.int .i64 e0]) (nk) rfl ⟨t3,e0,rfl,⟨bt3,bt4⟩,⟨b3,b4⟩,(mV),p'+3,by omega,(ab rwg).up (mY)⟩
   ·refine bodyPost_ret (v:= .agg #[.int .i64 s0,.int .i64 u2]) (nk) rfl ⟨s0,u2,rfl,⟨b1,b2⟩,⟨bu3,bu4⟩,(mV),p'+3,by omega,(ab rwg).up (mY)⟩
  ·refine bodyPost_ret (v:= .agg #[.int .i64 s0,.int .i64 e0]) (nk) rfl ⟨s0,e0,rfl,⟨b1,b2⟩,⟨b3,b4⟩,(mV),p'+1,by omega,(ab rwd).up (mY)⟩
end Go.Proofs.YtdmhihcipkhecaaGreat
