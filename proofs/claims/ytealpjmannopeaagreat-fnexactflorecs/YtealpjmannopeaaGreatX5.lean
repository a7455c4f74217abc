/- Laid together: what the claim needs of the texts that were built one by one. -/
import Derived.Test.YtealpjmannopeaaGreatX2
import Derived.Deep.RegionHeld3
import Derived.Test.YtealpjmannopeaaGreatX0
set_option linter.unusedVariables false
namespace Go.Proofs.YtealpjmannopeaaGreat
open Go.ChangeShapes Go.WideShapes Go.ChangeAt Go.RowKit Go.Deep
/-- A log. -/
structure bS where
 q:List bF
def fb(W:World)(B g o:Nat)(x:bS):Prop:=∃(a0:Option Addr) (l0 c0:Nat),(W.cell? ⟨g,o,none⟩=some (.slice a0 l0 c0))∧gI W B a0 l0 x.q
def ep(W:World)(B:Nat)(a:Option Addr)(len:Nat)(xs:List bS):Prop:=xs.length=len∧len≤maxLen∧(len=0∨∃g o,a=some ⟨g,o,none⟩∧BG W B g∧∀(i:Nat) (x:bS),xs[i]? =some x→fb W B g (o+i*1) x)
theorem fb.lt{W:World}{B g o:Nat}{x:bS}(h:fb W B g o x):g<W.heap.size:=by
 obtain⟨a0,l0,c0,h0,k0⟩:=h
 exact aA h0
theorem fb.below{W W':World}{B g o:Nat}{x:bS}(h:fb W B g o x)(hb:Below W.heap.size W W'):fb W' B g o x:=by
 have hg:=h.lt
 obtain⟨a0,l0,c0,h0,k0⟩:=h
 exact⟨a0,l0,c0,(hb.cell (p:=⟨g,_,none⟩) hg).trans h0,k0.below hb⟩
theorem fb.less{W:World}{B B' g o:Nat}{x:bS}(h:fb W B g o x)(hB:B'≤B):fb W B' g o x:=by
 obtain⟨a0,l0,c0,h0,k0⟩:=h
 exact⟨a0,l0,c0,h0,k0.less hB⟩
theorem fb.set{W:World}{B g o:Nat}{p:Addr}{v:Value}{x:bS}(h:fb W B g o x)(hg:p.block≠g)(hp:p.block<B):fb (W.setCell p v) B g o x:=by
 obtain⟨a0,l0,c0,h0,k0⟩:=h
 exact⟨a0,l0,c0,(aH hg).trans h0,k0.set hp⟩
theorem ep.below{W W':World}{B:Nat}{a:Option Addr}{len:Nat}{xs:List bS}(h:ep W B a len xs)(hb:Below W.heap.size W W'):ep W' B a len xs:=by
 obtain⟨h1,h2,h3⟩:=h
 refine⟨h1,h2,?_⟩
 rcases h3 with h3|⟨g,o,ha,hB9,hr⟩
 ·exact Or.inl h3
 ·exact Or.inr ⟨g,o,ha,hB9.below hb,fun i x hx=>(hr i x hx).below hb⟩
theorem ep.less{W:World}{B B':Nat}{a:Option Addr}{len:Nat}{xs:List bS}(h:ep W B a len xs)(hB:B'≤B):ep W B' a len xs:=by
 obtain⟨h1,h2,h3⟩:=h
 refine⟨h1,h2,?_⟩
 rcases h3 with h3|⟨g,o,ha,hB9,hr⟩
 ·exact Or.inl h3
 ·exact Or.inr ⟨g,o,ha,hB9.less hB,fun i x hx=>(hr i x hx).less hB⟩
theorem ep.set{W:World}{B:Nat}{p:Addr}{v:Value}{a:Option Addr}{len:Nat}{xs:List bS}(h:ep W B a len xs)(hp:p.block<B):ep (W.setCell p v) B a len xs:=by
 obtain⟨h1,h2,h3⟩:=h
 refine⟨h1,h2,?_⟩
 rcases h3 with h3|⟨g,o,ha,hB9,hr⟩
 ·exact Or.inl h3
 ·exact Or.inr ⟨g,o,ha,hB9.set hp,fun i x hx=>(hr i x hx).set (by have:=hB9.1;omega) hp⟩
theorem ep.len{W:World}{B:Nat}{a:Option Addr}{len:Nat}{xs:List bS}(h:ep W B a len xs):xs.length=len∧len≤maxLen:=⟨h.1,h.2.1⟩
/-- A block of such, known whole; one that is being filled. -/
def iO(W:World)(g o:Nat)(v0:Value):World:=(W.setCell ⟨g,o,none⟩ v0)
def dF(W:World)(g ty len:Nat):Prop:=∃cur,W.heap[g]? =some (.cells cur ty (0,0))∧cur.size=len*1
theorem dF.set{W:World}{g ty len i:Nat}(h:dF W g ty len)(v:Value):dF (W.setCell ⟨g,i,none⟩ v) g ty len:=by
 obtain⟨cur,h1,h2⟩:=h
 exact⟨_,Joins.block_setCell h1 v,by simp[h2]⟩
theorem dF.below{W W':World}{g ty len B:Nat}(h:dF W g ty len)(hb:Below B W W')(hg:g<B):dF W' g ty len:=by
 obtain⟨cur,h1,h2⟩:=h
 exact⟨cur,(hb.block g hg).trans h1,h2⟩
theorem dF.lt{W:World}{g ty len:Nat}(h:dF W g ty len):g<W.heap.size:=by
 obtain⟨cur,h1,h2⟩:=h
 exact(Array.getElem?_eq_some_iff.1 h1).1
theorem dF.cell{W:World}{g ty len i:Nat}(h:dF W g ty len)(hi:i<len*1):∃u,W.cell? ⟨g,i,none⟩=some u:=by
 obtain⟨cur,h1,h2⟩:=h
 exact⟨_,(cA h1 i).trans (Array.getElem?_eq_getElem (by omega))⟩
theorem dF.frozen{W:World}{g ty len i:Nat}(h:dF W g ty len):W.frozen? ⟨g,i,none⟩=false:=by
 obtain⟨cur,h1,h2⟩:=h
 exact Joins.unfrozen_of_block h1 i
theorem Lg_this{W:World}{g ty len i:Nat}{v:Value}(h:dF W g ty len)(hi:i<len*1):(W.setCell ⟨g,i,none⟩ v).cell? ⟨g,i,none⟩=some v:=by
 obtain⟨u,hu⟩:=h.cell hi
 exact World.cell?_setCell_same _ _ _ hu
theorem setLg_this{W:World}{g ty len k:Nat}{x:bS}{a0:Option Addr}{l0 c0:Nat}(h:dF W g ty len)(hk:k<len)(k0:gI W (g+1) a0 l0 x.q):fb (iO W g (k*1) (.slice a0 l0 c0)) (g+1) g (k*1) x:=by
 unfold iO
 refine⟨a0,l0,c0,?_,(k0.set (by simp))⟩
 ·rw[Lg_this h (by omega)]
theorem setLg_ne{W:World}{g i k:Nat}{x:bS}{v0:Value}(h:fb W (g+1) g (i*1) x)(hk:i≠k):fb (iO W g (k*1) v0) (g+1) g (i*1) x:=by
 unfold iO
 obtain⟨a0,l0,c0,h0,k0⟩:=h
 refine⟨a0,l0,c0,?_,(k0.set (by simp))⟩
 ·rw[am (by omega)];exact h0
def eH(W:World)(g ty len:Nat)(ys:List bS):Prop:=dF W g ty len∧∀(i:Nat) (x:bS),ys[i]? =some x→fb W (g+1) g (i*1) x
theorem eH.step{wr w':World}{g ty len k:Nat}{xs:List bS}{x:bS}{a0:Option Addr}{l0 c0:Nat}(h:eH wr g ty len (xs.take k))(hb:Below wr.heap.size wr w')(hk:k<len)(hx:xs[k]? =some x)(k0:gI w' (g+1) a0 l0 x.q):eH (iO w' g (k*1) (.slice a0 l0 c0)) g ty len (xs.take (k+1)):=by
 have hB:=h.1.below hb h.1.lt
 refine⟨(hB.set _),fun i y hy=>?_⟩
 have hik:i<k+1:=by
  rcases Nat.lt_or_ge i (k+1)with h'|h'
  ·exact h'
  ·rw[List.getElem?_eq_none (jJ)]at hy;cases hy
 rw[List.getElem?_take_of_lt hik]at hy
 by_cases he:i=k
 ·subst he
  rw[hx]at hy
  cases hy
  exact setLg_this hB hk k0
 ·refine setLg_ne ?_ he
  exact(h.2 i y (by rw[List.getElem?_take_of_lt (by omega)];exact hy)).below hb
theorem eH.start{w:World}{ty len:Nat}{C:Array Value}(hC:C.size=len*1)(xs:List bS):eH (w.alloc (.cells C ty)) w.heap.size ty len (xs.take 0):=
 ⟨⟨C,by show(w.heap.push _)[w.heap.size]? =_;simp,hC⟩,fun i x h=>by simp at h⟩
theorem eH.done{W:World}{g ty len k:Nat}{xs:List bS}(h:eH W g ty len (xs.take k))(hk:xs.length≤k)(hl:xs.length=len)(hm:len≤maxLen):ep W g (some ⟨g,0,none⟩) len xs:=by
 refine⟨hl,hm,Or.inr ⟨g,0,rfl,(by obtain⟨c9,e9,_⟩:=h.1;exact BG.of (Nat.le_refl _) e9),fun i x hx=>?_⟩⟩
 rw[List.take_of_length_le hk]at h
 have:=(h.2 i x hx).less (B':=g) (by omega)
 simpa using this
theorem below_setLg{B g o:Nat}{W W':World}{v0:Value}(h:Below B W W')(hg:B≤g):Below B W (iO W' g o v0):=(h.setCell hg _)
section
variable {H : Type} {enc : TypeId × Value → H} {P : Program} {w : World} {base : Nat} {spare : Nat → Bool} {held : Bool}
def bS.ok64(x:bS):Prop:=(∀y ∈ x.q,y.ok64)
theorem cellsLg{a:Addr}{cs:List Value}{t0 e0:TypeId}(u0a:P.underlying t0=some (.slice e0))(u0b:bf P 5 e0=some [false,false,false,false,false])(u0c:P.cellsOf e0=5)(h:w.cells? base a 1=some cs)(f0:cj enc P w base spare held cs [.s t0]):a.spot=none∧∃x:bS,fb w 0 a.block a.off x∧x.ok64:=by
 obtain⟨a0,l0,c0,d0,p0,r0,rfl,y0,f1⟩:=fitT_s f0
 obtain rfl:=fitT_nil f1
 clear f0 f1
 obtain⟨x0,q0,o0⟩:=openIw u0a u0b u0c y0
 obtain⟨_,hlen,hc⟩:=World.cells?_some h
 have b0:=hc 0 (by omega)
 obtain⟨g,o,sp⟩:=a
 have ha0:(⟨g,o,sp⟩:Addr).add 0=⟨g,o,sp⟩:=by simp[Addr.add]
 have hsp:sp=none:=World.cell?_spot (w:=w) (a:=⟨g,o,sp⟩) (v:= .slice a0 l0 c0) (by rw[←ha0];simpa using b0)
 subst hsp
 exact⟨rfl,⟨x0⟩,⟨a0,l0,c0,by simpa[Addr.add]using b0,⟨q0,fun g9 _ _ _=>BG.zero _ g9⟩⟩,o0⟩
theorem openLg{t e:TypeId}{t0 e0:TypeId}{a:Option Addr}{len cap:Nat}{d:DataW H}{p:List MemPlace}(ht:P.underlying t=some (.slice e))(hk:dw P 5 e=some [.s t0])(hC:P.cellsOf e=1)(u0a:P.underlying t0=some (.slice e0))(u0b:bf P 5 e0=some [false,false,false,false,false])(u0c:P.cellsOf e0=5)
  (h:DataW.Trod enc P w base spare held t (.slice a len cap) d p):∃xs:List bS,ep w 0 a len xs∧∀x ∈ xs,x.ok64:=by
 obtain⟨fuel,hf⟩:=h
 rcases open_slice ht hf with⟨hcs,_⟩|⟨a',len',cap',m,n,D,Pl,hcs,_,hl,hm,hmm,_,hx⟩
 ·simp[Value.cells]at hcs
  obtain⟨rfl,rfl,rfl⟩:=hcs
  exact⟨[],⟨rfl,Nat.zero_le _,Or.inl rfl⟩,by simp⟩
 ·simp[Value.cells]at hcs
  obtain⟨rfl,rfl,rfl⟩:=hcs
  have hlm:len≤m:=by rw[hmm];split<;>omega
  have hall:∀i,i<len→∃x:bS,(i=0→a'.spot=none)∧fb w 0 a'.block (a'.off+i*1) x∧x.ok64:=by
   intro i hi
   obtain⟨cs',h1,h2⟩:=hx i (by omega)
   rw[hC]at h1
   obtain⟨hsp,x,hxa,hxo⟩:=cellsLg u0a u0b u0c h1 (cH 5 hk h2)
   have hb:(a'.add (i*1)).block=a'.block∧(a'.add (i*1)).off=a'.off+i*1:=by
    unfold Addr.add
    split
    ·exact⟨rfl,by omega⟩
    ·exact⟨rfl,rfl⟩
   rw[hb.1,hb.2]at hxa
   refine⟨x,fun h0=>?_,hxa,hxo⟩
   subst h0
   simpa[Addr.add]using hsp
  by_cases h0:len=0
  ·subst h0
   exact⟨[],⟨rfl,Nat.zero_le _,Or.inl rfl⟩,by simp⟩
  have hinh:Inhabited bS:=⟨⟨[]⟩⟩
  obtain⟨f,hf'⟩:=choose_lt hall
  have hsp:=(hf' 0 (by omega)).1 rfl
  refine⟨(List.range len).map f,⟨by simp,by omega,Or.inr ⟨a'.block,a'.off,by cases a';simp_all,BG.zero _ _,?_⟩⟩,?_⟩
  ·intro i x hix
   simp only[List.getElem?_map,Option.map_eq_some_iff]at hix
   obtain⟨j,hj,rfl⟩:=hix
   have hil:i<len:=by
    rcases Nat.lt_or_ge i len with h'|h'
    ·exact h'
    ·rw[List.getElem?_eq_none (by simpa using h')]at hj;cases hj
   rw[List.getElem?_eq_getElem (by simpa using hil)]at hj
   simp at hj
   subst hj
   exact(hf' i hil).2.1
  ·intro x hxm
   simp only[List.mem_map,List.mem_range]at hxm
   obtain⟨i,hi,rfl⟩:=hxm
   exact(hf' i hi).2.2
end
def bS.sm(x:bS):Prop:=x.q.length≤1048576
theorem smLg_of(x:bS){l0:Nat}(h0:x.q.length=l0)(h:l0≤1048576):x.sm:=by subst h0;exact h
theorem of_smLg(x:bS){l0:Nat}(h0:x.q.length=l0)(h:x.sm):l0≤1048576:=by subst h0;exact h
/-- How many elements there are, in all of it. -/
def fl:List bS→Nat
 | []=>0
 |x :: xs=>(1+(x.q.length))+fl xs
theorem cLg_app(xs ys:List bS):fl (xs++ys)=fl xs+fl ys:=by
 induction xs with
 |nil=>simp[fl]
 |cons x xs ih=>
  show(1+(x.q.length))+fl (xs++ys)=(1+(x.q.length))+fl xs+fl ys
  omega
theorem cLg_take{xs:List bS}{i:Nat}{x:bS}(h:xs[i]? =some x):fl (xs.take (i+1))=fl (xs.take i)+(1+(x.q.length)):=by
 rw[List.take_add_one,h,cLg_app]
 simp[fl]
theorem cLg_0(xs:List bS):fl (xs.take 0)=0:=by simp[fl]
theorem szLg_one(x:bS)(a0:Option Addr)(l0 c0:Nat)(L:Int)(w:World)(h0:gI w 0 a0 l0 x.q)(h0L:0≤L)(hL:L≤1048576):Calls Tryz.prog 54 #[.slice a0 l0 c0,.int .i64 L] w fun e w'=>gG (L - ((l0:Nat):Int)) (l0≤1048576) e∧Below w.heap.size w w':=
 (szIw_p a0 l0 c0 L w h0.len.2 h0L hL).mono fun e w' ⟨he,hw⟩=>⟨he,by rw[hw];exact Below.refl _ _⟩
theorem toLg_one(x:bS)(a0:Option Addr)(l0 c0:Nat)(w:World)(h0:gI w 0 a0 l0 x.q)(m0:l0≤1048576):Calls Tryz.prog 66 #[.slice a0 l0 c0] w fun e w'=>∃b0,e= .returned (.slice b0 l0 l0)∧gI w' w.heap.size b0 l0 x.q∧Below w.heap.size w w':=toIw_b 0 a0 l0 c0 x.q w h0 m0
theorem eqLg_one(B1 B2:Nat)(x:bS)(a0x a0y:Option Addr)(l0 c0x c0y:Nat)(w:World)(h0x:gI w B1 a0x l0 x.q)(h0y:gI w B2 a0y l0 x.q):Calls Tryz.prog 22 #[.slice a0x l0 c0x,.slice a0y l0 c0y] w fun e w'=>e= .returned (.bool true)∧Below w.heap.size w w':=eqIw_b B1 B2 a0x a0y l0 c0x c0y x.q w h0x h0y
set_option maxRecDepth 20000 in
set_option maxHeartbeats 1000000 in
theorem szLg_p(a:Option Addr)(len cap:Nat)(xs:List bS)(L:Int)(w:World)(h:ep w 0 a len xs)(h0:0≤L)(hL:L≤1048576):Calls Tryz.prog 25 #[.slice a len cap,.int .i64 L] w fun e w'=>gG (L - (fl xs:Int)) (len≤1048576∧∀x ∈ xs,x.sm) e∧Below w.heap.size w w':=by
 have hm:=h.2.1
 unfold maxLen at hm
 by_cases h1:(len:Int)≤L
 ·go_enter Tryz.func25,Tryz.ntmps25
  go_wp2
  go_loopw [1,5] (fun lv i wr=>∃(k:Nat) (l:Int),k≤len∧i= .int .i64 k∧lv= .int .i64 l∧0≤l∧l≤L - (fl (xs.take k):Int) - ((len:Int) - (k:Int))∧(∀(i:Nat) (x:bS),i<k→xs[i]? =some x→x.sm)∧Below w.heap.size w wr) (fun _ i _=>len - (intOf i).toNat)
  case atStart=>exact⟨0,_,Nat.zero_le _,rfl,rfl,by omega,by have:=cLg_0 xs;omega,fun i x hi=>absurd hi (by omega),Below.refl _ _⟩
  case round=>
   obtain⟨k,l,hk,rfl,rfl,hl0,hl1,hq,hbw⟩:=hrel
   by_cases hlt:k<len
   ·obtain⟨hxl,hml,hx⟩:=h
    obtain⟨g,o,rfl,_,hr⟩:=hx.resolve_left (by omega)
    obtain⟨x,hxk⟩:∃x,xs[k]? =some x:=⟨_,List.getElem?_eq_getElem (by omega)⟩
    have hX:=ab hxk
    have hct:=ab (cLg_take hxk)
    have hkl:((k+1:Nat):Int)=(k:Int)+1:=by omega
    have hKL:=ab hkl
    clear hkl
    have HQ:=ab hq
    obtain⟨a0,l0,c0,c0z,k0⟩:=(hr k _ hxk).below hbw
    simp only[Nat.mul_one]at c0z
    have hsm:=ab (smLg_of x k0.len.1)
    have hcl:=ab (And.intro hxl (show x.q.length=l0 from k0.len.1))
    clear hx hxk hr hq
    go_wp2_with fail
    refine(szLg_one x a0 l0 c0 l _ k0 hl0 (by omega)).mono ?_
    rintro e w1 ⟨⟨r,rfl,hr⟩,hb⟩
    rcases hr with rfl|⟨h2,h3,h4⟩
    ·go_wp2
     go_ret
     exact⟨⟨_,rfl,Or.inl rfl⟩,(ar)⟩
    ·have HC:Hid (r≤L - (fl (xs.take (k+1)):Int) - ((len:Int) - ((k+1:Nat):Int))):=ab (by
      have h8:=aa hct
      obtain⟨_,f0⟩:=aa hcl
      omega)
     clear hct hcl hKL h3
     have HS:=ab (aa hsm h4)
     clear h4 hsm
     go_wp2
     go_roundw
     case rel=>
      refine⟨k+1,r,by omega,by go_num,rfl,h2,aa HC,fun i y hi hy=>?_,(ar)⟩
      by_cases he:i=k
      ·subst he
       rw[aa hX]at hy
       cases hy
       exact aa HS
      ·exact aa HQ i y (by omega) hy
     case measure=>simp[intOf];omega
   ·go_wp2
    go_ret
    refine⟨⟨_,rfl,Or.inr ⟨hl0,(by have h9:=hl1;rw[List.take_of_length_le (by have:=h.1;omega)]at h9;omega),by omega,fun x hx=>?_⟩⟩,hbw⟩
    obtain⟨i,hi,rfl⟩:=List.getElem_of_mem hx
    exact hq i _ (by have:=h.1;omega) (List.getElem?_eq_getElem hi)
 ·go_enter Tryz.func25,Tryz.ntmps25
  go_wp2
  go_ret
  exact⟨⟨_,rfl,Or.inl rfl⟩,Below.refl _ _⟩
theorem Tryz.infoLg:(Tryz.prog.info? 62).map (fun i=>(i.zero,i.size,i.bytes))=some (some (.slice none 0 0),1,24):=by kernel_rfl
theorem mkLg(len:Nat)(hl:len≤1048576):∃C:Array Value,C.size=len*1∧∀w:World,(Instr.makeSlice 41 (.int .i64 (len:Int)) (.int .i64 (len:Int))).run Tryz.prog w= .ok (.slice (some ⟨w.heap.size,0,none⟩) len len) (w.alloc (.cells C 62)):=by
 obtain⟨i0,hi,hz0,hz1,hz2⟩:=info_parts Tryz.infoLg
 refine⟨madeCells (Value.slice none 0 0).cells (len*i0.size),by rw[size_madeCells,hz1],fun w=>?_⟩
 have h:=run_make (P:=Tryz.prog) w 41 62 i0 _ Tryz.underlying41 hi hz0 .i64 .i64 len len (by omega) (Int.le_refl _) (by rw[hz2];omega) (by omega)
 simpa using h
set_option maxRecDepth 20000 in
set_option maxHeartbeats 1000000 in
theorem toLg_b(B:Nat)(a:Option Addr)(len cap:Nat)(xs:List bS)(w:World)(h:ep w B a len xs)(hl:len≤1048576∧∀x ∈ xs,x.sm):Calls Tryz.prog 32 #[.slice a len cap] w fun e w'=>∃a',e= .returned (.slice a' len len)∧ep w' w.heap.size a' len xs∧Below w.heap.size w w':=by
 obtain⟨hl,hq⟩:=hl
 replace h:=h.less (Nat.zero_le B)
 obtain⟨C,hC,hmk⟩:=mkLg len hl
 go_enter Tryz.func32,Tryz.ntmps32
 go_wp2
 go_loopw [4] (fun i wr=>∃k:Nat,k≤len∧i= .int .i64 k∧eH wr w.heap.size 62 len (xs.take k)∧Below w.heap.size w wr) (fun i _=>len - (intOf i).toNat)
 case atStart=>exact⟨0,Nat.zero_le _,rfl,eH.start hC xs,ai _ _⟩
 case round=>
  obtain⟨k,hk,rfl,hF,hbw⟩:=hrel
  by_cases hlt:k<len
  ·obtain⟨hxl,hml,hx⟩:=h
   obtain⟨g,o,rfl,_,hr⟩:=hx.resolve_left (by omega)
   obtain⟨x,hxk⟩:∃x,xs[k]? =some x:=⟨_,List.getElem?_eq_getElem (by omega)⟩
   have hX:=ab hxk
   have hqk:=hq x (List.mem_of_getElem? hxk)
   obtain⟨a0,l0,c0,c0z,k0⟩:=(hr k _ hxk).below hbw
   simp only[Nat.mul_one]at c0z
   have m0:=of_smLg x k0.len.1 hqk
   obtain⟨u0,d0⟩:=hF.1.cell (i:=k*1) (by omega)
   have f0:=hF.1.frozen (i:=k*1)
   rw[Nat.mul_one]at d0 f0
   have hz:=hF.1.lt
   clear hx hxk hr hqk
   go_wp2_with (go_at_call 66;refine(toLg_one x a0 l0 c0 _ k0 m0).mono ?_;rintro e w' ⟨b0,rfl,H0,hb⟩;obtain⟨hc,hf,hs⟩:=ac hb)
   go_roundw
   case rel=>exact⟨k+1,by omega,by go_num,(by have h9:=hF.step hb hlt (aa hX) (c0:=l0) (H0.less (by omega));rw[Nat.mul_one]at h9;exact h9),below_setLg (ae hbw hb) (Nat.le_refl _)⟩
   case measure=>simp[intOf];omega
  ·go_wp2
   go_ret
   exact⟨_,rfl,hF.done (by have:=h.1;omega) h.1 h.2.1,hbw⟩
theorem hd_1_1{b0 b1 a0 c0:Nat}{k0 l0:Value}{W W':World}(h:((W.cell? ⟨b0,a0,none⟩=some k0∧W.cell? ⟨b1,c0,none⟩=some l0)∧b0<W.heap.size∧b1<W.heap.size))(hb:Below W.heap.size W W'):((W'.cell? ⟨b0,a0,none⟩=some k0∧W'.cell? ⟨b1,c0,none⟩=some l0)∧b0<W'.heap.size∧b1<W'.heap.size):=by
 obtain⟨h99,s0,s1⟩:=h
 have e0:∀z,W'.cell? ⟨b0,z,none⟩=W.cell? ⟨b0,z,none⟩:=fun z=>hb.cell s0
 have e1:∀z,W'.cell? ⟨b1,z,none⟩=W.cell? ⟨b1,z,none⟩:=fun z=>hb.cell s1
 refine⟨?_,Nat.lt_of_lt_of_le s0 hb.size,Nat.lt_of_lt_of_le s1 hb.size⟩
 simp only[e0,e1]
 exact h99
set_option maxRecDepth 20000 in
set_option maxHeartbeats 1000000 in
theorem eqLg_b(B1 B2:Nat)(a1 a2:Option Addr)(len cap1 cap2:Nat)(xs:List bS)(w:World)(h1:ep w B1 a1 len xs)(h2:ep w B2 a2 len xs):Calls Tryz.prog 40 #[.slice a1 len cap1,.slice a2 len cap2] w fun e w'=>e= .returned (.bool true)∧Below w.heap.size w w':=by
 have hm:=h1.2.1
 unfold maxLen at hm
 go_enter Tryz.func40,Tryz.ntmps40
 go_wp2
 go_loopw [5] (fun i wr=>∃k:Nat,k≤len∧i= .int .i64 k∧Below w.heap.size w wr) (fun i _=>len - (intOf i).toNat)
 case atStart=>exact⟨0,Nat.zero_le _,rfl,Below.refl _ _⟩
 case round=>
  obtain⟨k,hk,rfl,hbw⟩:=hrel
  by_cases hlt:k<len
  ·obtain⟨hl1,_,hx1⟩:=h1
   obtain⟨hl2,_,hx2⟩:=h2
   obtain⟨g1,o1,rfl,_,hr1⟩:=hx1.resolve_left (by omega)
   obtain⟨g2,o2,rfl,_,hr2⟩:=hx2.resolve_left (by omega)
   obtain⟨x,hxk⟩:∃x,xs[k]? =some x:=⟨_,List.getElem?_eq_getElem (by omega)⟩
   have t1:=(hr1 k _ hxk).below hbw
   have t2:=(hr2 k _ hxk).below hbw
   have hs1:=t1.lt
   have hs2:=t2.lt
   obtain⟨a0x,l0,c0x,c0z,k0x⟩:=t1
   obtain⟨a0y,l0y,c0y,d0z,k0y⟩:=t2
   simp only[Nat.mul_one]at c0z d0z
   obtain rfl:l0=l0y:=by have e1:=k0x.len.1;have e2:=k0y.len.1;omega
   have hS:((wr.cell? ⟨g1,o1+k,none⟩=some (.slice a0x l0 c0x)∧wr.cell? ⟨g2,o2+k,none⟩=some (.slice a0y l0 c0y))∧g1<wr.heap.size∧g2<wr.heap.size):=⟨⟨c0z,d0z⟩,hs1,hs2⟩
   clear hx1 hx2 hxk hr1 hr2
   go_wp2
   go_region_held3 (fun W=>((W.cell? ⟨g1,o1+k,none⟩=some (.slice a0x l0 c0x)∧W.cell? ⟨g2,o2+k,none⟩=some (.slice a0y l0 c0y))∧g1<W.heap.size∧g2<W.heap.size)) ((first|((repeat(first|(with_reducible assumption)|(with_reducible refine hd_1_1 ?_ (jF))|(with_reducible refine hd_1_1 ?_ (aj (Below.refl _ _)))|(with_reducible refine hd_1_1 ?_ (ai _ _))));done)|(refine⟨⟨?_,?_⟩,?_,?_⟩<;>first|(go_keep;done)|(simp;done)|(simp;omega)|omega)))
    (first
    |(go_at_call 22;refine(eqLg_one B1 B2 x a0x a0y l0 c0x c0y _ (k0x.below (ak)) (k0y.below (ak))).mono ?_;rintro e w' ⟨rfl,hb⟩;obtain⟨hc,hf,hs⟩:=ac hb))
   go_wp2
   go_roundw
   case rel=>exact⟨k+1,by omega,by go_num,(ak)⟩
   case measure=>simp[intOf];omega
  ·go_wp2
   go_ret
   exact⟨rfl,hbw⟩
/-- What is kept of a task. -/
structure cD where
 ma:Int
 rows:List bK
 marks:List Int
def fc(W:World)(B g o:Nat)(x:cD):Prop:=∃(a1:Option Addr) (l1 c1:Nat) (a2:Option Addr) (l2 c2:Nat),(W.cell? ⟨g,o,none⟩=some (.int .i64 x.ma)∧W.cell? ⟨g,o+1,none⟩=some (.slice a1 l1 c1)∧W.cell? ⟨g,o+2,none⟩=some (.slice a2 l2 c2))∧dN W B a1 l1 x.rows∧bn W B a2 l2 x.marks
def bE(W:World)(B:Nat)(a:Option Addr)(len:Nat)(xs:List cD):Prop:=xs.length=len∧len≤maxLen∧(len=0∨∃g o,a=some ⟨g,o,none⟩∧BG W B g∧∀(i:Nat) (x:cD),xs[i]? =some x→fc W B g (o+i*3) x)
theorem fc.lt{W:World}{B g o:Nat}{x:cD}(h:fc W B g o x):g<W.heap.size:=by
 obtain⟨a1,l1,c1,a2,l2,c2,⟨h0,h1,h2⟩,k1,k2⟩:=h
 exact aA h0
theorem fc.below{W W':World}{B g o:Nat}{x:cD}(h:fc W B g o x)(hb:Below W.heap.size W W'):fc W' B g o x:=by
 have hg:=h.lt
 obtain⟨a1,l1,c1,a2,l2,c2,⟨h0,h1,h2⟩,k1,k2⟩:=h
 exact⟨a1,l1,c1,a2,l2,c2,⟨(hb.cell (p:=⟨g,_,none⟩) hg).trans h0,(hb.cell (p:=⟨g,_,none⟩) hg).trans h1,(hb.cell (p:=⟨g,_,none⟩) hg).trans h2⟩,k1.below hb,k2.below hb⟩
theorem fc.less{W:World}{B B' g o:Nat}{x:cD}(h:fc W B g o x)(hB:B'≤B):fc W B' g o x:=by
 obtain⟨a1,l1,c1,a2,l2,c2,⟨h0,h1,h2⟩,k1,k2⟩:=h
 exact⟨a1,l1,c1,a2,l2,c2,⟨h0,h1,h2⟩,k1.less hB,k2.less hB⟩
theorem fc.set{W:World}{B g o:Nat}{p:Addr}{v:Value}{x:cD}(h:fc W B g o x)(hg:p.block≠g)(hp:p.block<B):fc (W.setCell p v) B g o x:=by
 obtain⟨a1,l1,c1,a2,l2,c2,⟨h0,h1,h2⟩,k1,k2⟩:=h
 exact⟨a1,l1,c1,a2,l2,c2,⟨(aH hg).trans h0,(aH hg).trans h1,(aH hg).trans h2⟩,k1.set hp,k2.set hp⟩
theorem bE.below{W W':World}{B:Nat}{a:Option Addr}{len:Nat}{xs:List cD}(h:bE W B a len xs)(hb:Below W.heap.size W W'):bE W' B a len xs:=by
 obtain⟨h1,h2,h3⟩:=h
 refine⟨h1,h2,?_⟩
 rcases h3 with h3|⟨g,o,ha,hB9,hr⟩
 ·exact Or.inl h3
 ·exact Or.inr ⟨g,o,ha,hB9.below hb,fun i x hx=>(hr i x hx).below hb⟩
theorem bE.less{W:World}{B B':Nat}{a:Option Addr}{len:Nat}{xs:List cD}(h:bE W B a len xs)(hB:B'≤B):bE W B' a len xs:=by
 obtain⟨h1,h2,h3⟩:=h
 refine⟨h1,h2,?_⟩
 rcases h3 with h3|⟨g,o,ha,hB9,hr⟩
 ·exact Or.inl h3
 ·exact Or.inr ⟨g,o,ha,hB9.less hB,fun i x hx=>(hr i x hx).less hB⟩
theorem bE.set{W:World}{B:Nat}{p:Addr}{v:Value}{a:Option Addr}{len:Nat}{xs:List cD}(h:bE W B a len xs)(hp:p.block<B):bE (W.setCell p v) B a len xs:=by
 obtain⟨h1,h2,h3⟩:=h
 refine⟨h1,h2,?_⟩
 rcases h3 with h3|⟨g,o,ha,hB9,hr⟩
 ·exact Or.inl h3
 ·exact Or.inr ⟨g,o,ha,hB9.set hp,fun i x hx=>(hr i x hx).set (by have:=hB9.1;omega) hp⟩
theorem bE.len{W:World}{B:Nat}{a:Option Addr}{len:Nat}{xs:List cD}(h:bE W B a len xs):xs.length=len∧len≤maxLen:=⟨h.1,h.2.1⟩
/-- A block of such, known whole; one that is being filled. -/
def iP(W:World)(g o:Nat)(v0 v1 v2:Value):World:=(((W.setCell ⟨g,o,none⟩ v0).setCell ⟨g,o+1,none⟩ v1).setCell ⟨g,o+2,none⟩ v2)
def dG(W:World)(g ty len:Nat):Prop:=∃cur,W.heap[g]? =some (.cells cur ty (0,0))∧cur.size=len*3
theorem dG.set{W:World}{g ty len i:Nat}(h:dG W g ty len)(v:Value):dG (W.setCell ⟨g,i,none⟩ v) g ty len:=by
 obtain⟨cur,h1,h2⟩:=h
 exact⟨_,Joins.block_setCell h1 v,by simp[h2]⟩
theorem dG.below{W W':World}{g ty len B:Nat}(h:dG W g ty len)(hb:Below B W W')(hg:g<B):dG W' g ty len:=by
 obtain⟨cur,h1,h2⟩:=h
 exact⟨cur,(hb.block g hg).trans h1,h2⟩
theorem dG.lt{W:World}{g ty len:Nat}(h:dG W g ty len):g<W.heap.size:=by
 obtain⟨cur,h1,h2⟩:=h
 exact(Array.getElem?_eq_some_iff.1 h1).1
theorem dG.cell{W:World}{g ty len i:Nat}(h:dG W g ty len)(hi:i<len*3):∃u,W.cell? ⟨g,i,none⟩=some u:=by
 obtain⟨cur,h1,h2⟩:=h
 exact⟨_,(cA h1 i).trans (Array.getElem?_eq_getElem (by omega))⟩
theorem dG.frozen{W:World}{g ty len i:Nat}(h:dG W g ty len):W.frozen? ⟨g,i,none⟩=false:=by
 obtain⟨cur,h1,h2⟩:=h
 exact Joins.unfrozen_of_block h1 i
theorem je{W:World}{g ty len i:Nat}{v:Value}(h:dG W g ty len)(hi:i<len*3):(W.setCell ⟨g,i,none⟩ v).cell? ⟨g,i,none⟩=some v:=by
 obtain⟨u,hu⟩:=h.cell hi
 exact World.cell?_setCell_same _ _ _ hu
theorem setSn_this{W:World}{g ty len k:Nat}{x:cD}{a1:Option Addr}{l1 c1:Nat}{a2:Option Addr}{l2 c2:Nat}(h:dG W g ty len)(hk:k<len)(k1:dN W (g+1) a1 l1 x.rows)(k2:bn W (g+1) a2 l2 x.marks):fc (iP W g (k*3) (.int .i64 x.ma) (.slice a1 l1 c1) (.slice a2 l2 c2)) (g+1) g (k*3) x:=by
 unfold iP
 refine⟨a1,l1,c1,a2,l2,c2,⟨?_,?_,?_⟩,(((k1.set (by simp)).set (by simp)).set (by simp)),(((k2.set (by simp)).set (by simp)).set (by simp))⟩
 ·rw[am (by omega),am (by omega),je h (by omega)]
 ·rw[am (by omega),je (h.set _) (by omega)]
 ·rw[je ((h.set _).set _) (by omega)]
theorem setSn_ne{W:World}{g i k:Nat}{x:cD}{v0 v1 v2:Value}(h:fc W (g+1) g (i*3) x)(hk:i≠k):fc (iP W g (k*3) v0 v1 v2) (g+1) g (i*3) x:=by
 unfold iP
 obtain⟨a1,l1,c1,a2,l2,c2,⟨h0,h1,h2⟩,k1,k2⟩:=h
 refine⟨a1,l1,c1,a2,l2,c2,⟨?_,?_,?_⟩,(((k1.set (by simp)).set (by simp)).set (by simp)),(((k2.set (by simp)).set (by simp)).set (by simp))⟩
 ·rw[am (by omega),am (by omega),am (by omega)];exact h0
 ·rw[am (by omega),am (by omega),am (by omega)];exact h1
 ·rw[am (by omega),am (by omega),am (by omega)];exact h2
def eI(W:World)(g ty len:Nat)(ys:List cD):Prop:=dG W g ty len∧∀(i:Nat) (x:cD),ys[i]? =some x→fc W (g+1) g (i*3) x
theorem eI.step{wr w':World}{g ty len k:Nat}{xs:List cD}{x:cD}{a1:Option Addr}{l1 c1:Nat}{a2:Option Addr}{l2 c2:Nat}(h:eI wr g ty len (xs.take k))(hb:Below wr.heap.size wr w')(hk:k<len)(hx:xs[k]? =some x)(k1:dN w' (g+1) a1 l1 x.rows)(k2:bn w' (g+1) a2 l2 x.marks):eI (iP w' g (k*3) (.int .i64 x.ma) (.slice a1 l1 c1) (.slice a2 l2 c2)) g ty len (xs.take (k+1)):=by
 have hB:=h.1.below hb h.1.lt
 refine⟨(((hB.set _).set _).set _),fun i y hy=>?_⟩
 have hik:i<k+1:=by
  rcases Nat.lt_or_ge i (k+1)with h'|h'
  ·exact h'
  ·rw[List.getElem?_eq_none (jJ)]at hy;cases hy
 rw[List.getElem?_take_of_lt hik]at hy
 by_cases he:i=k
 ·subst he
  rw[hx]at hy
  cases hy
  exact setSn_this hB hk k1 k2
 ·refine setSn_ne ?_ he
  exact(h.2 i y (by rw[List.getElem?_take_of_lt (by omega)];exact hy)).below hb
theorem eI.start{w:World}{ty len:Nat}{C:Array Value}(hC:C.size=len*3)(xs:List cD):eI (w.alloc (.cells C ty)) w.heap.size ty len (xs.take 0):=
 ⟨⟨C,by show(w.heap.push _)[w.heap.size]? =_;simp,hC⟩,fun i x h=>by simp at h⟩
theorem eI.done{W:World}{g ty len k:Nat}{xs:List cD}(h:eI W g ty len (xs.take k))(hk:xs.length≤k)(hl:xs.length=len)(hm:len≤maxLen):bE W g (some ⟨g,0,none⟩) len xs:=by
 refine⟨hl,hm,Or.inr ⟨g,0,rfl,(by obtain⟨c9,e9,_⟩:=h.1;exact BG.of (Nat.le_refl _) e9),fun i x hx=>?_⟩⟩
 rw[List.take_of_length_le hk]at h
 have:=(h.2 i x hx).less (B':=g) (by omega)
 simpa using this
theorem below_setSn{B g o:Nat}{W W':World}{v0 v1 v2:Value}(h:Below B W W')(hg:B≤g):Below B W (iP W' g o v0 v1 v2):=(((h.setCell hg _).setCell hg _).setCell hg _)
section
variable {H : Type} {enc : TypeId × Value → H} {P : Program} {w : World} {base : Nat} {spare : Nat → Bool} {held : Bool}
def cD.ok64(x:cD):Prop:=(-9223372036854775808≤x.ma∧x.ma≤9223372036854775807)∧(∀y ∈ x.rows,y.ok64)∧∀y ∈ x.marks,-9223372036854775808≤y∧y≤9223372036854775807
theorem cellsSn{a:Addr}{cs:List Value}{t1 e1:TypeId}{t2 e2:TypeId}(u1:P.underlying t1=some (.slice e1))(u2:bf P 5 e1=some [false,false,false,false,false,false,false,false,false,false,false,false,true])(u3:P.cellsOf e1=13)(u4:P.underlying t2=some (.slice e2))(u5:P.underlying e2=some (.int .i64))(u6:P.cellsOf e2=1)(h:w.cells? base a 3=some cs)(f0:cj enc P w base spare held cs [.i,.s t1,.s t2]):a.spot=none∧∃x:cD,fc w 0 a.block a.off x∧x.ok64:=by
 obtain⟨z0,r0,rfl,y0,f1⟩:=fitT_i f0
 obtain⟨a1,l1,c1,d1,p1,r1,rfl,y1,f2⟩:=fitT_s f1
 obtain⟨a2,l2,c2,d2,p2,r2,rfl,y2,f3⟩:=fitT_s f2
 obtain rfl:=fitT_nil f3
 clear f0 f1 f2 f3
 obtain⟨x1,q1,o1⟩:=openOr u1 u2 u3 y1
 obtain⟨x2,q2,o2⟩:=openIn u4 u5 u6 y2
 obtain⟨_,hlen,hc⟩:=World.cells?_some h
 have b0:=hc 0 (by omega)
 have b1:=hc 1 (by omega)
 have b2:=hc 2 (by omega)
 obtain⟨g,o,sp⟩:=a
 have ha0:(⟨g,o,sp⟩:Addr).add 0=⟨g,o,sp⟩:=by simp[Addr.add]
 have hsp:sp=none:=World.cell?_spot (w:=w) (a:=⟨g,o,sp⟩) (v:= .int .i64 z0) (by rw[←ha0];simpa using b0)
 subst hsp
 exact⟨rfl,⟨z0,x1,x2⟩,⟨a1,l1,c1,a2,l2,c2,⟨by simpa[Addr.add]using b0,by simpa[Addr.add]using b1,by simpa[Addr.add]using b2⟩,⟨q1,fun g9 _ _ _=>BG.zero _ g9⟩,⟨q2,fun g9 _ _ _=>BG.zero _ g9⟩⟩,aW y0,o1,o2⟩
theorem openSn{t e:TypeId}{t1 e1:TypeId}{t2 e2:TypeId}{a:Option Addr}{len cap:Nat}{d:DataW H}{p:List MemPlace}(ht:P.underlying t=some (.slice e))(hk:dw P 5 e=some [.i,.s t1,.s t2])(hC:P.cellsOf e=3)(u1:P.underlying t1=some (.slice e1))(u2:bf P 5 e1=some [false,false,false,false,false,false,false,false,false,false,false,false,true])(u3:P.cellsOf e1=13)(u4:P.underlying t2=some (.slice e2))(u5:P.underlying e2=some (.int .i64))(u6:P.cellsOf e2=1)
  (h:DataW.Trod enc P w base spare held t (.slice a len cap) d p):∃xs:List cD,bE w 0 a len xs∧∀x ∈ xs,x.ok64:=by
 obtain⟨fuel,hf⟩:=h
 rcases open_slice ht hf with⟨hcs,_⟩|⟨a',len',cap',m,n,D,Pl,hcs,_,hl,hm,hmm,_,hx⟩
 ·simp[Value.cells]at hcs
  obtain⟨rfl,rfl,rfl⟩:=hcs
  exact⟨[],⟨rfl,Nat.zero_le _,Or.inl rfl⟩,by simp⟩
 ·simp[Value.cells]at hcs
  obtain⟨rfl,rfl,rfl⟩:=hcs
  have hlm:len≤m:=by rw[hmm];split<;>omega
  have hall:∀i,i<len→∃x:cD,(i=0→a'.spot=none)∧fc w 0 a'.block (a'.off+i*3) x∧x.ok64:=by
   intro i hi
   obtain⟨cs',h1,h2⟩:=hx i (by omega)
   rw[hC]at h1
   obtain⟨hsp,x,hxa,hxo⟩:=cellsSn u1 u2 u3 u4 u5 u6 h1 (cH 5 hk h2)
   have hb:(a'.add (i*3)).block=a'.block∧(a'.add (i*3)).off=a'.off+i*3:=by
    unfold Addr.add
    split
    ·exact⟨rfl,by omega⟩
    ·exact⟨rfl,rfl⟩
   rw[hb.1,hb.2]at hxa
   refine⟨x,fun h0=>?_,hxa,hxo⟩
   subst h0
   simpa[Addr.add]using hsp
  by_cases h0:len=0
  ·subst h0
   exact⟨[],⟨rfl,Nat.zero_le _,Or.inl rfl⟩,by simp⟩
  have hinh:Inhabited cD:=⟨⟨0,[],[]⟩⟩
  obtain⟨f,hf'⟩:=choose_lt hall
  have hsp:=(hf' 0 (by omega)).1 rfl
  refine⟨(List.range len).map f,⟨by simp,by omega,Or.inr ⟨a'.block,a'.off,by cases a';simp_all,BG.zero _ _,?_⟩⟩,?_⟩
  ·intro i x hix
   simp only[List.getElem?_map,Option.map_eq_some_iff]at hix
   obtain⟨j,hj,rfl⟩:=hix
   have hil:i<len:=by
    rcases Nat.lt_or_ge i len with h'|h'
    ·exact h'
    ·rw[List.getElem?_eq_none (by simpa using h')]at hj;cases hj
   rw[List.getElem?_eq_getElem (by simpa using hil)]at hj
   simp at hj
   subst hj
   exact(hf' i hil).2.1
  ·intro x hxm
   simp only[List.mem_map,List.mem_range]at hxm
   obtain⟨i,hi,rfl⟩:=hxm
   exact(hf' i hi).2.2
end
def cD.sm(x:cD):Prop:=x.rows.length≤1048576∧x.marks.length≤1048576
theorem smSn_of(x:cD){l1 l2:Nat}(h1:x.rows.length=l1)(h2:x.marks.length=l2)(h:l1≤1048576∧l2≤1048576):x.sm:=⟨by omega,by omega⟩
theorem of_smSn(x:cD){l1 l2:Nat}(h1:x.rows.length=l1)(h2:x.marks.length=l2)(h:x.sm):l1≤1048576∧l2≤1048576:=by obtain⟨h3,h4⟩:=h;exact⟨by omega,by omega⟩
/-- How many elements there are, in all of it. -/
def di:List cD→Nat
 | []=>0
 |x :: xs=>(1+(x.rows.length+x.marks.length))+di xs
theorem cSn_app(xs ys:List cD):di (xs++ys)=di xs+di ys:=by
 induction xs with
 |nil=>simp[di]
 |cons x xs ih=>
  show(1+(x.rows.length+x.marks.length))+di (xs++ys)=(1+(x.rows.length+x.marks.length))+di xs+di ys
  omega
theorem cSn_take{xs:List cD}{i:Nat}{x:cD}(h:xs[i]? =some x):di (xs.take (i+1))=di (xs.take i)+(1+(x.rows.length+x.marks.length)):=by
 rw[List.take_add_one,h,cSn_app]
 simp[di]
theorem cSn_0(xs:List cD):di (xs.take 0)=0:=by simp[di]
set_option maxRecDepth 20000 in
set_option maxHeartbeats 1000000 in
theorem szSn_one(x:cD)(a1:Option Addr)(l1 c1:Nat)(a2:Option Addr)(l2 c2:Nat)(L:Int)(w:World)(h1:dN w 0 a1 l1 x.rows)(h2:bn w 0 a2 l2 x.marks)(h0L:0≤L)(hL:L≤1048576):Calls Tryz.prog 103 #[.agg #[.int .i64 x.ma,.slice a1 l1 c1,.slice a2 l2 c2],.int .i64 L] w fun e w'=>gG (L - ((l1+l2:Nat):Int)) (l1≤1048576∧l2≤1048576) e∧Below w.heap.size w w':=by
 go_enter Tryz.func103,Tryz.ntmps103
 go_wp2_with fail
 refine(szSt_p x.ma a1 l1 c1 L _ h1.len.2 (by omega) (by omega)).mono ?_
 rintro e y0 ⟨⟨r0,rfl,hr⟩,hb0⟩
 obtain⟨hc0,hf0,hs0⟩:=ac hb0
 have hz0:w.heap.size<y0.heap.size:=by have h9:=hb0.size;(try simp at h9);omega
 rcases hr with rfl|⟨p0,q0,s0⟩
 ·go_wp2
  go_ret
  exact⟨⟨_,rfl,Or.inl rfl⟩,(ar)⟩
 go_wp2_with fail
 refine(szIn_p a2 l2 c2 r0 _ h2.len.2 (by omega) (by omega)).mono ?_
 rintro e w1x ⟨⟨r1,rfl,hr⟩,hw⟩
 obtain rfl:=hw.symm
 clear hw
 rcases hr with rfl|⟨p1,q1,s1⟩
 ·go_wp2
  go_ret
  exact⟨⟨_,rfl,Or.inl rfl⟩,(ar)⟩
 go_wp2
 go_ret
 exact⟨⟨_,rfl,Or.inr ⟨p1,by omega,s0,s1⟩⟩,(ar)⟩
set_option maxRecDepth 20000 in
set_option maxHeartbeats 2000000 in
theorem toSn_one(x:cD)(a1:Option Addr)(l1 c1:Nat)(a2:Option Addr)(l2 c2:Nat)(w:World)(h1:dN w 0 a1 l1 x.rows)(h2:bn w 0 a2 l2 x.marks)(m1:l1≤1048576)(m2:l2≤1048576):Calls Tryz.prog 122 #[.agg #[.int .i64 x.ma,.slice a1 l1 c1,.slice a2 l2 c2]] w fun e w'=>∃b1 b2,e= .returned (.agg #[.int .i64 x.ma,.slice b1 l1 l1,.slice b2 l2 l2])∧dN w' w.heap.size b1 l1 x.rows∧bn w' w.heap.size b2 l2 x.marks∧Below w.heap.size w w':=by
 go_enter Tryz.func122,Tryz.ntmps122
 go_wp2_with (first
  |(go_at_call 117;refine(toSt_b 0 x.ma a1 l1 c1 x.rows _ (h1.below (ar)) m1).mono ?_;rintro e' w0 ⟨b1,rfl,H1,hb0⟩;obtain⟨hc0,hf0,hs0⟩:=ac hb0;have hz00:w.heap.size<w0.heap.size:=(by have h9:=hb0.size;(try simp at h9);omega);have hz01:w.heap.size+1<w0.heap.size:=(by have h9:=hb0.size;(try simp at h9);omega);have hz02:w.heap.size+1+1<w0.heap.size:=(by have h9:=hb0.size;(try simp at h9);omega))
  |(go_at_call 70;refine(toIn_b 0 a2 l2 c2 x.marks _ (h2.below (ar)) m2).mono ?_;rintro e' w1 ⟨b2,rfl,H2,hb1⟩;obtain⟨hc1,hf1,hs1⟩:=ac hb1;have hz10:w.heap.size<w1.heap.size:=(by have h9:=hb1.size;(try simp at h9);omega);have hz11:w.heap.size+1<w1.heap.size:=(by have h9:=hb1.size;(try simp at h9);omega);have hz12:w.heap.size+1+1<w1.heap.size:=(by have h9:=hb1.size;(try simp at h9);omega)))
 have G1:dN w0 (w.heap.size+3) b1 l1 x.rows:=H1.less (jH)
 have G2:bn w1 (w.heap.size+3) b2 l2 x.marks:=H2.less (jH)
 refine bodyPost_ret (v:= .agg #[.int .i64 x.ma,.slice b1 l1 l1,.slice b2 l2 l2]) (by simp(maxDischargeDepth:=9) [results,Tryz.results122,go_sem, *]) rfl ⟨b1,b2,rfl,dN.less (B:=w.heap.size+3) ?_ (by omega),bn.less (B:=w.heap.size+3) ?_ (by omega),?_⟩
 ·repeat(first|(with_reducible exact G1)|(with_reducible refine dN.set ?_ (jH))|(with_reducible refine dN.below ?_ hb1))
 ·repeat(first|(with_reducible exact G2)|(with_reducible refine bn.set ?_ (jH)))
 ·exact(ar)
set_option maxRecDepth 20000 in
set_option maxHeartbeats 1000000 in
theorem eqSn_one(B1 B2:Nat)(x:cD)(a1x a1y:Option Addr)(l1 c1x c1y:Nat)(a2x a2y:Option Addr)(l2 c2x c2y:Nat)(w:World)(h1x:dN w B1 a1x l1 x.rows)(h1y:dN w B2 a1y l1 x.rows)(h2x:bn w B1 a2x l2 x.marks)(h2y:bn w B2 a2y l2 x.marks):Calls Tryz.prog 138 #[.agg #[.int .i64 x.ma,.slice a1x l1 c1x,.slice a2x l2 c2x],.agg #[.int .i64 x.ma,.slice a1y l1 c1y,.slice a2y l2 c2y]] w fun e w'=>e= .returned (.bool true)∧Below w.heap.size w w':=by
 go_enter Tryz.func138,Tryz.ntmps138
 go_wp2_with (first
  |(go_at_call 135;refine(eqSt_b B1 B2 x.ma a1x a1y l1 c1x c1y x.rows _ (h1x.below (ar)) (h1y.below (ar))).mono ?_;rintro e' w0 ⟨rfl,hb0⟩;obtain⟨hc0,hf0,hs0⟩:=ac hb0;have hz00:w.heap.size<w0.heap.size:=(by have h9:=hb0.size;(try simp at h9);omega);have hz01:w.heap.size+1<w0.heap.size:=(by have h9:=hb0.size;(try simp at h9);omega))
  |(go_at_call 84;refine(eqIn_b B1 B2 a2x a2y l2 c2x c2y x.marks _ (h2x.below (ar)) (h2y.below (ar))).mono ?_;rintro e' w1 ⟨rfl,hb1⟩;obtain⟨hc1,hf1,hs1⟩:=ac hb1;have hz10:w.heap.size<w1.heap.size:=(by have h9:=hb1.size;(try simp at h9);omega);have hz11:w.heap.size+1<w1.heap.size:=(by have h9:=hb1.size;(try simp at h9);omega)))
 go_ret
 exact⟨rfl,(ar)⟩
set_option maxRecDepth 20000 in
set_option maxHeartbeats 1000000 in
theorem szSn_p(a:Option Addr)(len cap:Nat)(xs:List cD)(L:Int)(w:World)(h:bE w 0 a len xs)(h0:0≤L)(hL:L≤1048576):Calls Tryz.prog 59 #[.slice a len cap,.int .i64 L] w fun e w'=>gG (L - (di xs:Int)) (len≤1048576∧∀x ∈ xs,x.sm) e∧Below w.heap.size w w':=by
 have hm:=h.2.1
 unfold maxLen at hm
 by_cases h1:(len:Int)≤L
 ·go_enter Tryz.func59,Tryz.ntmps59
  go_wp2
  go_loopw [1,5] (fun lv i wr=>∃(k:Nat) (l:Int),k≤len∧i= .int .i64 k∧lv= .int .i64 l∧0≤l∧l≤L - (di (xs.take k):Int) - ((len:Int) - (k:Int))∧(∀(i:Nat) (x:cD),i<k→xs[i]? =some x→x.sm)∧Below w.heap.size w wr) (fun _ i _=>len - (intOf i).toNat)
  case atStart=>exact⟨0,_,Nat.zero_le _,rfl,rfl,by omega,by have:=cSn_0 xs;omega,fun i x hi=>absurd hi (by omega),Below.refl _ _⟩
  case round=>
   obtain⟨k,l,hk,rfl,rfl,hl0,hl1,hq,hbw⟩:=hrel
   by_cases hlt:k<len
   ·obtain⟨hxl,hml,hx⟩:=h
    obtain⟨g,o,rfl,_,hr⟩:=hx.resolve_left (by omega)
    obtain⟨x,hxk⟩:∃x,xs[k]? =some x:=⟨_,List.getElem?_eq_getElem (by omega)⟩
    have hX:=ab hxk
    have hct:=ab (cSn_take hxk)
    have hkl:((k+1:Nat):Int)=(k:Int)+1:=by omega
    have hKL:=ab hkl
    clear hkl
    have HQ:=ab hq
    obtain⟨a1,l1,c1,a2,l2,c2,⟨c0z,c1z,c2z⟩,k1,k2⟩:=(hr k _ hxk).below hbw
    have hsm:=ab (smSn_of x k1.len.1 k2.len.1)
    have hcl:=ab (And.intro hxl (And.intro (show x.rows.length=l1 from k1.len.1) (show x.marks.length=l2 from k2.len.1)))
    clear hx hxk hr hq
    go_wp2_with fail
    refine(szSn_one x a1 l1 c1 a2 l2 c2 l _ k1 k2 hl0 (by omega)).mono ?_
    rintro e w1 ⟨⟨r,rfl,hr⟩,hb⟩
    rcases hr with rfl|⟨h2,h3,h4⟩
    ·go_wp2
     go_ret
     exact⟨⟨_,rfl,Or.inl rfl⟩,(ar)⟩
    ·have HC:Hid (r≤L - (di (xs.take (k+1)):Int) - ((len:Int) - ((k+1:Nat):Int))):=ab (by
      have h8:=aa hct
      obtain⟨_,f0,f1⟩:=aa hcl
      omega)
     clear hct hcl hKL h3
     have HS:=ab (aa hsm h4)
     clear h4 hsm
     go_wp2
     go_roundw
     case rel=>
      refine⟨k+1,r,by omega,by go_num,rfl,h2,aa HC,fun i y hi hy=>?_,(ar)⟩
      by_cases he:i=k
      ·subst he
       rw[aa hX]at hy
       cases hy
       exact aa HS
      ·exact aa HQ i y (by omega) hy
     case measure=>simp[intOf];omega
   ·go_wp2
    go_ret
    refine⟨⟨_,rfl,Or.inr ⟨hl0,(by have h9:=hl1;rw[List.take_of_length_le (by have:=h.1;omega)]at h9;omega),by omega,fun x hx=>?_⟩⟩,hbw⟩
    obtain⟨i,hi,rfl⟩:=List.getElem_of_mem hx
    exact hq i _ (by have:=h.1;omega) (List.getElem?_eq_getElem hi)
 ·go_enter Tryz.func59,Tryz.ntmps59
  go_wp2
  go_ret
  exact⟨⟨_,rfl,Or.inl rfl⟩,Below.refl _ _⟩
theorem Tryz.infoSn:(Tryz.prog.info? 186).map (fun i=>(i.zero,i.size,i.bytes))=some (some (.agg #[.int .i64 0,.slice none 0 0,.slice none 0 0]),3,56):=by kernel_rfl
theorem mkSn(len:Nat)(hl:len≤1048576):∃C:Array Value,C.size=len*3∧∀w:World,(Instr.makeSlice 45 (.int .i64 (len:Int)) (.int .i64 (len:Int))).run Tryz.prog w= .ok (.slice (some ⟨w.heap.size,0,none⟩) len len) (w.alloc (.cells C 186)):=by
 obtain⟨i0,hi,hz0,hz1,hz2⟩:=info_parts Tryz.infoSn
 refine⟨madeCells (Value.agg #[.int .i64 0,.slice none 0 0,.slice none 0 0]).cells (len*i0.size),by rw[size_madeCells,hz1],fun w=>?_⟩
 have h:=run_make (P:=Tryz.prog) w 45 186 i0 _ Tryz.underlying45 hi hz0 .i64 .i64 len len (by omega) (Int.le_refl _) (by rw[hz2];omega) (by omega)
 simpa using h
set_option maxRecDepth 20000 in
set_option maxHeartbeats 1000000 in
theorem toSn_b(B:Nat)(a:Option Addr)(len cap:Nat)(xs:List cD)(w:World)(h:bE w B a len xs)(hl:len≤1048576∧∀x ∈ xs,x.sm):Calls Tryz.prog 72 #[.slice a len cap] w fun e w'=>∃a',e= .returned (.slice a' len len)∧bE w' w.heap.size a' len xs∧Below w.heap.size w w':=by
 obtain⟨hl,hq⟩:=hl
 replace h:=h.less (Nat.zero_le B)
 obtain⟨C,hC,hmk⟩:=mkSn len hl
 go_enter Tryz.func72,Tryz.ntmps72
 go_wp2
 go_loopw [4] (fun i wr=>∃k:Nat,k≤len∧i= .int .i64 k∧eI wr w.heap.size 186 len (xs.take k)∧Below w.heap.size w wr) (fun i _=>len - (intOf i).toNat)
 case atStart=>exact⟨0,Nat.zero_le _,rfl,eI.start hC xs,ai _ _⟩
 case round=>
  obtain⟨k,hk,rfl,hF,hbw⟩:=hrel
  by_cases hlt:k<len
  ·obtain⟨hxl,hml,hx⟩:=h
   obtain⟨g,o,rfl,_,hr⟩:=hx.resolve_left (by omega)
   obtain⟨x,hxk⟩:∃x,xs[k]? =some x:=⟨_,List.getElem?_eq_getElem (by omega)⟩
   have hX:=ab hxk
   have hqk:=hq x (List.mem_of_getElem? hxk)
   obtain⟨a1,l1,c1,a2,l2,c2,⟨c0z,c1z,c2z⟩,k1,k2⟩:=(hr k _ hxk).below hbw
   obtain⟨m1,m2⟩:=of_smSn x k1.len.1 k2.len.1 hqk
   obtain⟨u0,d0⟩:=hF.1.cell (i:=k*3) (by omega)
   have f0:=hF.1.frozen (i:=k*3)
   obtain⟨u1,d1⟩:=hF.1.cell (i:=k*3+1) (by omega)
   have f1:=hF.1.frozen (i:=k*3+1)
   obtain⟨u2,d2⟩:=hF.1.cell (i:=k*3+2) (by omega)
   have f2:=hF.1.frozen (i:=k*3+2)
   have hz:=hF.1.lt
   clear hx hxk hr hqk
   go_wp2_with (go_at_call 122;refine(toSn_one x a1 l1 c1 a2 l2 c2 _ k1 k2 m1 m2).mono ?_;rintro e w' ⟨b1,b2,rfl,H1,H2,hb⟩;obtain⟨hc,hf,hs⟩:=ac hb)
   go_roundw
   case rel=>exact⟨k+1,by omega,by go_num,hF.step hb hlt (aa hX) (H1.less (by omega)) (H2.less (by omega)),below_setSn (ae hbw hb) (Nat.le_refl _)⟩
   case measure=>simp[intOf];omega
  ·go_wp2
   go_ret
   exact⟨_,rfl,hF.done (by have:=h.1;omega) h.1 h.2.1,hbw⟩
set_option maxRecDepth 20000 in
set_option maxHeartbeats 1000000 in
theorem eqSn_b(B1 B2:Nat)(a1 a2:Option Addr)(len cap1 cap2:Nat)(xs:List cD)(w:World)(h1:bE w B1 a1 len xs)(h2:bE w B2 a2 len xs):Calls Tryz.prog 86 #[.slice a1 len cap1,.slice a2 len cap2] w fun e w'=>e= .returned (.bool true)∧Below w.heap.size w w':=by
 have hm:=h1.2.1
 unfold maxLen at hm
 go_enter Tryz.func86,Tryz.ntmps86
 go_wp2
 go_loopw [5] (fun i wr=>∃k:Nat,k≤len∧i= .int .i64 k∧Below w.heap.size w wr) (fun i _=>len - (intOf i).toNat)
 case atStart=>exact⟨0,Nat.zero_le _,rfl,Below.refl _ _⟩
 case round=>
  obtain⟨k,hk,rfl,hbw⟩:=hrel
  by_cases hlt:k<len
  ·obtain⟨hl1,_,hx1⟩:=h1
   obtain⟨hl2,_,hx2⟩:=h2
   obtain⟨g1,o1,rfl,_,hr1⟩:=hx1.resolve_left (by omega)
   obtain⟨g2,o2,rfl,_,hr2⟩:=hx2.resolve_left (by omega)
   obtain⟨x,hxk⟩:∃x,xs[k]? =some x:=⟨_,List.getElem?_eq_getElem (by omega)⟩
   have t1:=(hr1 k _ hxk).below hbw
   have t2:=(hr2 k _ hxk).below hbw
   have hs1:=t1.lt
   have hs2:=t2.lt
   obtain⟨a1x,l1,c1x,a2x,l2,c2x,⟨c0z,c1z,c2z⟩,k1x,k2x⟩:=t1
   obtain⟨a1y,l1y,c1y,a2y,l2y,c2y,⟨d0z,d1z,d2z⟩,k1y,k2y⟩:=t2
   obtain rfl:l1=l1y:=by have e1:=k1x.len.1;have e2:=k1y.len.1;omega
   obtain rfl:l2=l2y:=by have e1:=k2x.len.1;have e2:=k2y.len.1;omega
   have hS:((wr.cell? ⟨g1,o1+k*3,none⟩=some (.int .i64 x.ma)∧wr.cell? ⟨g1,o1+k*3+1,none⟩=some (.slice a1x l1 c1x)∧wr.cell? ⟨g1,o1+k*3+2,none⟩=some (.slice a2x l2 c2x)∧wr.cell? ⟨g2,o2+k*3,none⟩=some (.int .i64 x.ma)∧wr.cell? ⟨g2,o2+k*3+1,none⟩=some (.slice a1y l1 c1y)∧wr.cell? ⟨g2,o2+k*3+2,none⟩=some (.slice a2y l2 c2y))∧g1<wr.heap.size∧g2<wr.heap.size):=⟨⟨c0z,c1z,c2z,d0z,d1z,d2z⟩,hs1,hs2⟩
   clear hx1 hx2 hxk hr1 hr2
   go_wp2
   go_region_held3 (fun W=>((W.cell? ⟨g1,o1+k*3,none⟩=some (.int .i64 x.ma)∧W.cell? ⟨g1,o1+k*3+1,none⟩=some (.slice a1x l1 c1x)∧W.cell? ⟨g1,o1+k*3+2,none⟩=some (.slice a2x l2 c2x)∧W.cell? ⟨g2,o2+k*3,none⟩=some (.int .i64 x.ma)∧W.cell? ⟨g2,o2+k*3+1,none⟩=some (.slice a1y l1 c1y)∧W.cell? ⟨g2,o2+k*3+2,none⟩=some (.slice a2y l2 c2y))∧g1<W.heap.size∧g2<W.heap.size)) ((first|((repeat(first|(with_reducible assumption)|(with_reducible refine dh ?_ (jF))|(with_reducible refine dh ?_ (aj (Below.refl _ _)))|(with_reducible refine dh ?_ (ai _ _))));done)|(refine⟨⟨?_,?_,?_,?_,?_,?_⟩,?_,?_⟩<;>first|(go_keep;done)|(simp;done)|(simp;omega)|omega)))
    (first
    |(go_at_call 138;refine(eqSn_one B1 B2 x a1x a1y l1 c1x c1y a2x a2y l2 c2x c2y _ (k1x.below (ak)) (k1y.below (ak)) (k2x.below (ak)) (k2y.below (ak))).mono ?_;rintro e w' ⟨rfl,hb⟩;obtain⟨hc,hf,hs⟩:=ac hb))
   go_wp2
   go_roundw
   case rel=>exact⟨k+1,by omega,by go_num,(ak)⟩
   case measure=>simp[intOf];omega
  ·go_wp2
   go_ret
   exact⟨rfl,hbw⟩
/-- What is safe. -/
structure CsD where
 sfn:Int
 at_:List Int
 ssn:List cD
/-- Checkpoints. -/
structure iQ where
 n:Int
 op:Bool
 src:List Int
 tsk:List Bool
 sn:List cD
 sfn:Int
 at_:List Int
 ssn:List cD
set_option maxRecDepth 20000 in
set_option maxHeartbeats 1000000 in
theorem szCs_one(x:CsD)(a1:Option Addr)(l1 c1:Nat)(a2:Option Addr)(l2 c2:Nat)(L:Int)(w:World)(h1:bn w 0 a1 l1 x.at_)(h2:bE w 0 a2 l2 x.ssn)(h0L:0≤L)(hL:L≤1048576):Calls Tryz.prog 60 #[.agg #[.int .i64 x.sfn,.slice a1 l1 c1,.slice a2 l2 c2],.int .i64 L] w fun e w'=>gG (L - ((l1+di x.ssn:Nat):Int)) (l1≤1048576∧(l2≤1048576∧∀y ∈ x.ssn,y.sm)) e∧Below w.heap.size w w':=by
 go_enter Tryz.func60,Tryz.ntmps60
 go_wp2_with fail
 refine(szIn_p a1 l1 c1 L _ h1.len.2 (by omega) (by omega)).mono ?_
 rintro e w0x ⟨⟨r0,rfl,hr⟩,hw⟩
 obtain rfl:=hw.symm
 clear hw
 rcases hr with rfl|⟨p0,q0,s0⟩
 ·go_wp2
  go_ret
  exact⟨⟨_,rfl,Or.inl rfl⟩,(ar)⟩
 go_wp2_with fail
 refine(szSn_p a2 l2 c2 x.ssn r0 _ (h2.below (ar)) (by omega) (by omega)).mono ?_
 rintro e y1 ⟨⟨r1,rfl,hr⟩,hb1⟩
 obtain⟨hc1,hf1,hs1⟩:=ac hb1
 have hz1:w.heap.size<y1.heap.size:=by have h9:=hb1.size;(try simp at h9);omega
 rcases hr with rfl|⟨p1,q1,s1⟩
 ·go_wp2
  go_ret
  exact⟨⟨_,rfl,Or.inl rfl⟩,(ar)⟩
 go_wp2
 go_ret
 exact⟨⟨_,rfl,Or.inr ⟨p1,by omega,s0,s1⟩⟩,(ar)⟩
set_option maxRecDepth 20000 in
set_option maxHeartbeats 2000000 in
theorem toCs_one(x:CsD)(a1:Option Addr)(l1 c1:Nat)(a2:Option Addr)(l2 c2:Nat)(w:World)(h1:bn w 0 a1 l1 x.at_)(h2:bE w 0 a2 l2 x.ssn)(m1:l1≤1048576)(m2:(l2≤1048576∧∀y ∈ x.ssn,y.sm)):Calls Tryz.prog 73 #[.agg #[.int .i64 x.sfn,.slice a1 l1 c1,.slice a2 l2 c2]] w fun e w'=>∃b1 b2,e= .returned (.agg #[.int .i64 x.sfn,.slice b1 l1 l1,.slice b2 l2 l2])∧bn w' w.heap.size b1 l1 x.at_∧bE w' w.heap.size b2 l2 x.ssn∧Below w.heap.size w w':=by
 go_enter Tryz.func73,Tryz.ntmps73
 go_wp2_with (first
  |(go_at_call 70;refine(toIn_b 0 a1 l1 c1 x.at_ _ (h1.below (ar)) m1).mono ?_;rintro e' w0 ⟨b1,rfl,H1,hb0⟩;obtain⟨hc0,hf0,hs0⟩:=ac hb0;have hz00:w.heap.size<w0.heap.size:=(by have h9:=hb0.size;(try simp at h9);omega);have hz01:w.heap.size+1<w0.heap.size:=(by have h9:=hb0.size;(try simp at h9);omega);have hz02:w.heap.size+1+1<w0.heap.size:=(by have h9:=hb0.size;(try simp at h9);omega))
  |(go_at_call 72;refine(toSn_b 0 a2 l2 c2 x.ssn _ (h2.below (ar)) m2).mono ?_;rintro e' w1 ⟨b2,rfl,H2,hb1⟩;obtain⟨hc1,hf1,hs1⟩:=ac hb1;have hz10:w.heap.size<w1.heap.size:=(by have h9:=hb1.size;(try simp at h9);omega);have hz11:w.heap.size+1<w1.heap.size:=(by have h9:=hb1.size;(try simp at h9);omega);have hz12:w.heap.size+1+1<w1.heap.size:=(by have h9:=hb1.size;(try simp at h9);omega)))
 have G1:bn w0 (w.heap.size+3) b1 l1 x.at_:=H1.less (jH)
 have G2:bE w1 (w.heap.size+3) b2 l2 x.ssn:=H2.less (jH)
 refine bodyPost_ret (v:= .agg #[.int .i64 x.sfn,.slice b1 l1 l1,.slice b2 l2 l2]) (by simp(maxDischargeDepth:=9) [results,Tryz.results73,go_sem, *]) rfl ⟨b1,b2,rfl,bn.less (B:=w.heap.size+3) ?_ (by omega),bE.less (B:=w.heap.size+3) ?_ (by omega),?_⟩
 ·repeat(first|(with_reducible exact G1)|(with_reducible refine bn.set ?_ (jH))|(with_reducible refine bn.below ?_ hb1))
 ·repeat(first|(with_reducible exact G2)|(with_reducible refine bE.set ?_ (jH)))
 ·exact(ar)
set_option maxRecDepth 20000 in
set_option maxHeartbeats 1000000 in
theorem eqCs_one(B1 B2:Nat)(x:CsD)(a1x a1y:Option Addr)(l1 c1x c1y:Nat)(a2x a2y:Option Addr)(l2 c2x c2y:Nat)(w:World)(h1x:bn w B1 a1x l1 x.at_)(h1y:bn w B2 a1y l1 x.at_)(h2x:bE w B1 a2x l2 x.ssn)(h2y:bE w B2 a2y l2 x.ssn):Calls Tryz.prog 87 #[.agg #[.int .i64 x.sfn,.slice a1x l1 c1x,.slice a2x l2 c2x],.agg #[.int .i64 x.sfn,.slice a1y l1 c1y,.slice a2y l2 c2y]] w fun e w'=>e= .returned (.bool true)∧Below w.heap.size w w':=by
 go_enter Tryz.func87,Tryz.ntmps87
 go_wp2_with (first
  |(go_at_call 84;refine(eqIn_b B1 B2 a1x a1y l1 c1x c1y x.at_ _ (h1x.below (ar)) (h1y.below (ar))).mono ?_;rintro e' w0 ⟨rfl,hb0⟩;obtain⟨hc0,hf0,hs0⟩:=ac hb0;have hz00:w.heap.size<w0.heap.size:=(by have h9:=hb0.size;(try simp at h9);omega);have hz01:w.heap.size+1<w0.heap.size:=(by have h9:=hb0.size;(try simp at h9);omega))
  |(go_at_call 86;refine(eqSn_b B1 B2 a2x a2y l2 c2x c2y x.ssn _ (h2x.below (ar)) (h2y.below (ar))).mono ?_;rintro e' w1 ⟨rfl,hb1⟩;obtain⟨hc1,hf1,hs1⟩:=ac hb1;have hz10:w.heap.size<w1.heap.size:=(by have h9:=hb1.size;(try simp at h9);omega);have hz11:w.heap.size+1<w1.heap.size:=(by have h9:=hb1.size;(try simp at h9);omega)))
 go_ret
 exact⟨rfl,(ar)⟩
set_option maxRecDepth 20000 in
set_option maxHeartbeats 1000000 in
theorem szCk_one(x:iQ)(a2:Option Addr)(l2 c2:Nat)(a3:Option Addr)(l3 c3:Nat)(a4:Option Addr)(l4 c4:Nat)(a6:Option Addr)(l6 c6:Nat)(a7:Option Addr)(l7 c7:Nat)(L:Int)(w:World)(h2:bn w 0 a2 l2 x.src)(h3:dO w 0 a3 l3 x.tsk)(h4:bE w 0 a4 l4 x.sn)(h6:bn w 0 a6 l6 x.at_)(h7:bE w 0 a7 l7 x.ssn)(h0L:0≤L)(hL:L≤1048576):Calls Tryz.prog 29 #[.agg #[.int .i64 x.n,.bool x.op,.slice a2 l2 c2,.slice a3 l3 c3,.slice a4 l4 c4,.int .i64 x.sfn,.slice a6 l6 c6,.slice a7 l7 c7],.int .i64 L] w fun e w'=>gG (L - ((l2+l3+di x.sn+(l6+di x.ssn):Nat):Int)) (l2≤1048576∧l3≤1048576∧(l4≤1048576∧∀y ∈ x.sn,y.sm)∧l6≤1048576∧(l7≤1048576∧∀y ∈ x.ssn,y.sm)) e∧Below w.heap.size w w':=by
 go_enter Tryz.func29,Tryz.ntmps29
 go_wp2_with fail
 refine(szIn_p a2 l2 c2 L _ h2.len.2 (by omega) (by omega)).mono ?_
 rintro e w0x ⟨⟨r0,rfl,hr⟩,hw⟩
 obtain rfl:=hw.symm
 clear hw
 rcases hr with rfl|⟨p0,q0,s0⟩
 ·go_wp2
  go_ret
  exact⟨⟨_,rfl,Or.inl rfl⟩,(ar)⟩
 go_wp2_with fail
 refine(szBo_p a3 l3 c3 r0 _ h3.len.2 (by omega) (by omega)).mono ?_
 rintro e w1x ⟨⟨r1,rfl,hr⟩,hw⟩
 obtain rfl:=hw.symm
 clear hw
 rcases hr with rfl|⟨p1,q1,s1⟩
 ·go_wp2
  go_ret
  exact⟨⟨_,rfl,Or.inl rfl⟩,(ar)⟩
 go_wp2_with fail
 refine(szSn_p a4 l4 c4 x.sn r1 _ (h4.below (ar)) (by omega) (by omega)).mono ?_
 rintro e y2 ⟨⟨r2,rfl,hr⟩,hb2⟩
 obtain⟨hc2,hf2,hs2⟩:=ac hb2
 have hz2:w.heap.size<y2.heap.size:=by have h9:=hb2.size;(try simp at h9);omega
 rcases hr with rfl|⟨p2,q2,s2⟩
 ·go_wp2
  go_ret
  exact⟨⟨_,rfl,Or.inl rfl⟩,(ar)⟩
 go_wp2_with fail
 refine(szCs_one ⟨x.sfn,x.at_,x.ssn⟩ a6 l6 c6 a7 l7 c7 r2 _ (h6.below (ar)) (h7.below (ar)) (by omega) (by omega)).mono ?_
 rintro e y3 ⟨⟨r3,rfl,hr⟩,hb3⟩
 obtain⟨hc3,hf3,hs3⟩:=ac hb3
 have hz3:w.heap.size<y3.heap.size:=by have h9:=hb3.size;(try simp at h9);omega
 rcases hr with rfl|⟨p3,q3,s3⟩
 ·go_wp2
  go_ret
  exact⟨⟨_,rfl,Or.inl rfl⟩,(ar)⟩
 go_wp2
 go_ret
 exact⟨⟨_,rfl,Or.inr ⟨p3,by omega,s0,s1,s2,s3.1,s3.2⟩⟩,(ar)⟩
set_option maxRecDepth 20000 in
set_option maxHeartbeats 2000000 in
theorem toCk_one(x:iQ)(a2:Option Addr)(l2 c2:Nat)(a3:Option Addr)(l3 c3:Nat)(a4:Option Addr)(l4 c4:Nat)(a6:Option Addr)(l6 c6:Nat)(a7:Option Addr)(l7 c7:Nat)(w:World)(h2:bn w 0 a2 l2 x.src)(h3:dO w 0 a3 l3 x.tsk)(h4:bE w 0 a4 l4 x.sn)(h6:bn w 0 a6 l6 x.at_)(h7:bE w 0 a7 l7 x.ssn)(m2:l2≤1048576)(m3:l3≤1048576)(m4:(l4≤1048576∧∀y ∈ x.sn,y.sm))(m6:l6≤1048576)(m7:(l7≤1048576∧∀y ∈ x.ssn,y.sm)):Calls Tryz.prog 36 #[.agg #[.int .i64 x.n,.bool x.op,.slice a2 l2 c2,.slice a3 l3 c3,.slice a4 l4 c4,.int .i64 x.sfn,.slice a6 l6 c6,.slice a7 l7 c7]] w fun e w'=>∃b2 b3 b4 b6 b7,e= .returned (.agg #[.int .i64 x.n,.bool x.op,.slice b2 l2 l2,.slice b3 l3 l3,.slice b4 l4 l4,.int .i64 x.sfn,.slice b6 l6 l6,.slice b7 l7 l7])∧bn w' w.heap.size b2 l2 x.src∧dO w' w.heap.size b3 l3 x.tsk∧bE w' w.heap.size b4 l4 x.sn∧bn w' w.heap.size b6 l6 x.at_∧bE w' w.heap.size b7 l7 x.ssn∧Below w.heap.size w w':=by
 go_enter Tryz.func36,Tryz.ntmps36
 go_wp2_with (first
  |(go_at_call 70;refine(toIn_b 0 a2 l2 c2 x.src _ (h2.below (ar)) m2).mono ?_;rintro e' w0 ⟨b2,rfl,H2,hb0⟩;obtain⟨hc0,hf0,hs0⟩:=ac hb0;have hz00:w.heap.size<w0.heap.size:=(by have h9:=hb0.size;(try simp at h9);omega);have hz01:w.heap.size+1<w0.heap.size:=(by have h9:=hb0.size;(try simp at h9);omega);have hz02:w.heap.size+1+1<w0.heap.size:=(by have h9:=hb0.size;(try simp at h9);omega))
  |(go_at_call 71;refine(toBo_b 0 a3 l3 c3 x.tsk _ (h3.below (ar)) m3).mono ?_;rintro e' w1 ⟨b3,rfl,H3,hb1⟩;obtain⟨hc1,hf1,hs1⟩:=ac hb1;have hz10:w.heap.size<w1.heap.size:=(by have h9:=hb1.size;(try simp at h9);omega);have hz11:w.heap.size+1<w1.heap.size:=(by have h9:=hb1.size;(try simp at h9);omega);have hz12:w.heap.size+1+1<w1.heap.size:=(by have h9:=hb1.size;(try simp at h9);omega))
  |(go_at_call 72;refine(toSn_b 0 a4 l4 c4 x.sn _ (h4.below (ar)) m4).mono ?_;rintro e' w2 ⟨b4,rfl,H4,hb2⟩;obtain⟨hc2,hf2,hs2⟩:=ac hb2;have hz20:w.heap.size<w2.heap.size:=(by have h9:=hb2.size;(try simp at h9);omega);have hz21:w.heap.size+1<w2.heap.size:=(by have h9:=hb2.size;(try simp at h9);omega);have hz22:w.heap.size+1+1<w2.heap.size:=(by have h9:=hb2.size;(try simp at h9);omega))
  |(go_at_call 73;refine(toCs_one ⟨x.sfn,x.at_,x.ssn⟩ a6 l6 c6 a7 l7 c7 _ (h6.below (ar)) (h7.below (ar)) m6 m7).mono ?_;rintro e' w3 ⟨b6,b7,rfl,H6,H7,hb3⟩;obtain⟨hc3,hf3,hs3⟩:=ac hb3;have hz30:w.heap.size<w3.heap.size:=(by have h9:=hb3.size;(try simp at h9);omega);have hz31:w.heap.size+1<w3.heap.size:=(by have h9:=hb3.size;(try simp at h9);omega);have hz32:w.heap.size+1+1<w3.heap.size:=(by have h9:=hb3.size;(try simp at h9);omega)))
 have G2:bn w0 (w.heap.size+3) b2 l2 x.src:=H2.less (jH)
 have G3:dO w1 (w.heap.size+3) b3 l3 x.tsk:=H3.less (jH)
 have G4:bE w2 (w.heap.size+3) b4 l4 x.sn:=H4.less (jH)
 have G6:bn w3 (w.heap.size+3) b6 l6 x.at_:=H6.less (jH)
 have G7:bE w3 (w.heap.size+3) b7 l7 x.ssn:=H7.less (jH)
 refine bodyPost_ret (v:= .agg #[.int .i64 x.n,.bool x.op,.slice b2 l2 l2,.slice b3 l3 l3,.slice b4 l4 l4,.int .i64 x.sfn,.slice b6 l6 l6,.slice b7 l7 l7]) (by simp(maxDischargeDepth:=9) [results,Tryz.results36,go_sem, *]) rfl ⟨b2,b3,b4,b6,b7,rfl,bn.less (B:=w.heap.size+3) ?_ (by omega),dO.less (B:=w.heap.size+3) ?_ (by omega),bE.less (B:=w.heap.size+3) ?_ (by omega),bn.less (B:=w.heap.size+3) ?_ (by omega),bE.less (B:=w.heap.size+3) ?_ (by omega),?_⟩
 ·repeat(first|(with_reducible exact G2)|(with_reducible refine bn.set ?_ (jH))|(with_reducible refine bn.below ?_ hb3)|(with_reducible refine bn.below ?_ hb2)|(with_reducible refine bn.below ?_ hb1))
 ·repeat(first|(with_reducible exact G3)|(with_reducible refine dO.set ?_ (jH))|(with_reducible refine dO.below ?_ hb3)|(with_reducible refine dO.below ?_ hb2))
 ·repeat(first|(with_reducible exact G4)|(with_reducible refine bE.set ?_ (jH))|(with_reducible refine bE.below ?_ hb3))
 ·repeat(first|(with_reducible exact G6)|(with_reducible refine bn.set ?_ (jH)))
 ·repeat(first|(with_reducible exact G7)|(with_reducible refine bE.set ?_ (jH)))
 ·exact(ar)
set_option maxRecDepth 20000 in
set_option maxHeartbeats 1000000 in
theorem eqCk_one(B1 B2:Nat)(x:iQ)(a2x a2y:Option Addr)(l2 c2x c2y:Nat)(a3x a3y:Option Addr)(l3 c3x c3y:Nat)(a4x a4y:Option Addr)(l4 c4x c4y:Nat)(a6x a6y:Option Addr)(l6 c6x c6y:Nat)(a7x a7y:Option Addr)(l7 c7x c7y:Nat)(w:World)(h2x:bn w B1 a2x l2 x.src)(h2y:bn w B2 a2y l2 x.src)(h3x:dO w B1 a3x l3 x.tsk)(h3y:dO w B2 a3y l3 x.tsk)(h4x:bE w B1 a4x l4 x.sn)(h4y:bE w B2 a4y l4 x.sn)(h6x:bn w B1 a6x l6 x.at_)(h6y:bn w B2 a6y l6 x.at_)(h7x:bE w B1 a7x l7 x.ssn)(h7y:bE w B2 a7y l7 x.ssn):Calls Tryz.prog 44 #[.agg #[.int .i64 x.n,.bool x.op,.slice a2x l2 c2x,.slice a3x l3 c3x,.slice a4x l4 c4x,.int .i64 x.sfn,.slice a6x l6 c6x,.slice a7x l7 c7x],.agg #[.int .i64 x.n,.bool x.op,.slice a2y l2 c2y,.slice a3y l3 c3y,.slice a4y l4 c4y,.int .i64 x.sfn,.slice a6y l6 c6y,.slice a7y l7 c7y]] w fun e w'=>e= .returned (.bool true)∧Below w.heap.size w w':=by
 go_enter Tryz.func44,Tryz.ntmps44
 go_wp2_with (first
  |(go_at_call 84;refine(eqIn_b B1 B2 a2x a2y l2 c2x c2y x.src _ (h2x.below (ar)) (h2y.below (ar))).mono ?_;rintro e' w0 ⟨rfl,hb0⟩;obtain⟨hc0,hf0,hs0⟩:=ac hb0;have hz00:w.heap.size<w0.heap.size:=(by have h9:=hb0.size;(try simp at h9);omega);have hz01:w.heap.size+1<w0.heap.size:=(by have h9:=hb0.size;(try simp at h9);omega))
  |(go_at_call 85;refine(eqBo_b B1 B2 a3x a3y l3 c3x c3y x.tsk _ (h3x.below (ar)) (h3y.below (ar))).mono ?_;rintro e' w1 ⟨rfl,hb1⟩;obtain⟨hc1,hf1,hs1⟩:=ac hb1;have hz10:w.heap.size<w1.heap.size:=(by have h9:=hb1.size;(try simp at h9);omega);have hz11:w.heap.size+1<w1.heap.size:=(by have h9:=hb1.size;(try simp at h9);omega))
  |(go_at_call 86;refine(eqSn_b B1 B2 a4x a4y l4 c4x c4y x.sn _ (h4x.below (ar)) (h4y.below (ar))).mono ?_;rintro e' w2 ⟨rfl,hb2⟩;obtain⟨hc2,hf2,hs2⟩:=ac hb2;have hz20:w.heap.size<w2.heap.size:=(by have h9:=hb2.size;(try simp at h9);omega);have hz21:w.heap.size+1<w2.heap.size:=(by have h9:=hb2.size;(try simp at h9);omega))
  |(go_at_call 87;refine(eqCs_one B1 B2 ⟨x.sfn,x.at_,x.ssn⟩ a6x a6y l6 c6x c6y a7x a7y l7 c7x c7y _ (h6x.below (ar)) (h6y.below (ar)) (h7x.below (ar)) (h7y.below (ar))).mono ?_;rintro e' w3 ⟨rfl,hb3⟩;obtain⟨hc3,hf3,hs3⟩:=ac hb3;have hz30:w.heap.size<w3.heap.size:=(by have h9:=hb3.size;(try simp at h9);omega);have hz31:w.heap.size+1<w3.heap.size:=(by have h9:=hb3.size;(try simp at h9);omega)))
 go_ret
 exact⟨rfl,(ar)⟩
end Go.Proofs.YtealpjmannopeaaGreat
