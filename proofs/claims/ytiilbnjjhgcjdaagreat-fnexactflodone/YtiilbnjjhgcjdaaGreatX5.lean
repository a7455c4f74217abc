/- Laid together: what the claim needs of the texts that were built one by one. -/
import Derived.Test.YtiilbnjjhgcjdaaGreatX2
import Derived.Deep.RegionHeld3
import Derived.Test.YtiilbnjjhgcjdaaGreatX0
set_option linter.unusedVariables false
namespace Go.Proofs.YtiilbnjjhgcjdaaGreat
open Go.ChangeShapes Go.WideShapes Go.ChangeAt Go.RowKit Go.Deep
/-- A log. -/
structure cr where
 q:List cH
def eL(W:World)(B g o:Nat)(x:cr):Prop:=∃(a0:Option Addr) (l0 c0:Nat),(W.cell? ⟨g,o,none⟩=some (.slice a0 l0 c0))∧gl W B a0 l0 x.q
def eu(W:World)(B:Nat)(a:Option Addr)(len:Nat)(xs:List cr):Prop:=xs.length=len∧len≤maxLen∧(len=0∨∃g o,a=some ⟨g,o,none⟩∧B≤g∧∀(i:Nat) (x:cr),xs[i]? =some x→eL W B g (o+i*1) x)
theorem eL.lt{W:World}{B g o:Nat}{x:cr}(h:eL W B g o x):g<W.heap.size:=by
 obtain⟨a0,l0,c0,h0,k0⟩:=h
 exact bg h0
theorem eL.below{W W':World}{B g o:Nat}{x:cr}(h:eL W B g o x)(hb:Below W.heap.size W W'):eL W' B g o x:=by
 have hg:=h.lt
 obtain⟨a0,l0,c0,h0,k0⟩:=h
 exact⟨a0,l0,c0,(hb.cell (p:=⟨g,_,none⟩) hg).trans h0,k0.below hb⟩
theorem eL.less{W:World}{B B' g o:Nat}{x:cr}(h:eL W B g o x)(hB:B'≤B):eL W B' g o x:=by
 obtain⟨a0,l0,c0,h0,k0⟩:=h
 exact⟨a0,l0,c0,h0,k0.less hB⟩
theorem eL.set{W:World}{B g o:Nat}{p:Addr}{v:Value}{x:cr}(h:eL W B g o x)(hg:p.block≠g)(hp:p.block<B):eL (W.setCell p v) B g o x:=by
 obtain⟨a0,l0,c0,h0,k0⟩:=h
 exact⟨a0,l0,c0,(aF hg).trans h0,k0.set hp⟩
theorem eu.below{W W':World}{B:Nat}{a:Option Addr}{len:Nat}{xs:List cr}(h:eu W B a len xs)(hb:Below W.heap.size W W'):eu W' B a len xs:=by
 obtain⟨h1,h2,h3⟩:=h
 refine⟨h1,h2,?_⟩
 rcases h3 with h3|⟨g,o,ha,hB9,hr⟩
 ·exact Or.inl h3
 ·exact Or.inr ⟨g,o,ha,hB9,fun i x hx=>(hr i x hx).below hb⟩
theorem eu.less{W:World}{B B':Nat}{a:Option Addr}{len:Nat}{xs:List cr}(h:eu W B a len xs)(hB:B'≤B):eu W B' a len xs:=by
 obtain⟨h1,h2,h3⟩:=h
 refine⟨h1,h2,?_⟩
 rcases h3 with h3|⟨g,o,ha,hB9,hr⟩
 ·exact Or.inl h3
 ·exact Or.inr ⟨g,o,ha,Nat.le_trans hB hB9,fun i x hx=>(hr i x hx).less hB⟩
theorem eu.set{W:World}{B:Nat}{p:Addr}{v:Value}{a:Option Addr}{len:Nat}{xs:List cr}(h:eu W B a len xs)(hp:p.block<B):eu (W.setCell p v) B a len xs:=by
 obtain⟨h1,h2,h3⟩:=h
 refine⟨h1,h2,?_⟩
 rcases h3 with h3|⟨g,o,ha,hB9,hr⟩
 ·exact Or.inl h3
 ·exact Or.inr ⟨g,o,ha,hB9,fun i x hx=>(hr i x hx).set (by omega) hp⟩
theorem eu.len{W:World}{B:Nat}{a:Option Addr}{len:Nat}{xs:List cr}(h:eu W B a len xs):xs.length=len∧len≤maxLen:=⟨h.1,h.2.1⟩
/-- A block of such, known whole; one that is being filled. -/
def gN(W:World)(g o:Nat)(v0:Value):World:=(W.setCell ⟨g,o,none⟩ v0)
def du(W:World)(g ty len:Nat):Prop:=∃cur,W.heap[g]? =some (.cells cur ty (0,0))∧cur.size=len*1
theorem du.set{W:World}{g ty len i:Nat}(h:du W g ty len)(v:Value):du (W.setCell ⟨g,i,none⟩ v) g ty len:=by
 obtain⟨cur,h1,h2⟩:=h
 exact⟨_,Joins.block_setCell h1 v,by simp[h2]⟩
theorem du.below{W W':World}{g ty len B:Nat}(h:du W g ty len)(hb:Below B W W')(hg:g<B):du W' g ty len:=by
 obtain⟨cur,h1,h2⟩:=h
 exact⟨cur,(hb.block g hg).trans h1,h2⟩
theorem du.lt{W:World}{g ty len:Nat}(h:du W g ty len):g<W.heap.size:=by
 obtain⟨cur,h1,h2⟩:=h
 exact(Array.getElem?_eq_some_iff.1 h1).1
theorem du.cell{W:World}{g ty len i:Nat}(h:du W g ty len)(hi:i<len*1):∃u,W.cell? ⟨g,i,none⟩=some u:=by
 obtain⟨cur,h1,h2⟩:=h
 exact⟨_,(cA h1 i).trans (Array.getElem?_eq_getElem (by omega))⟩
theorem du.frozen{W:World}{g ty len i:Nat}(h:du W g ty len):W.frozen? ⟨g,i,none⟩=false:=by
 obtain⟨cur,h1,h2⟩:=h
 exact Joins.unfrozen_of_block h1 i
theorem Lg_this{W:World}{g ty len i:Nat}{v:Value}(h:du W g ty len)(hi:i<len*1):(W.setCell ⟨g,i,none⟩ v).cell? ⟨g,i,none⟩=some v:=by
 obtain⟨u,hu⟩:=h.cell hi
 exact World.cell?_setCell_same _ _ _ hu
theorem setLg_this{W:World}{g ty len k:Nat}{x:cr}{a0:Option Addr}{l0 c0:Nat}(h:du W g ty len)(hk:k<len)(k0:gl W (g+1) a0 l0 x.q):eL (gN W g (k*1) (.slice a0 l0 c0)) (g+1) g (k*1) x:=by
 unfold gN
 refine⟨a0,l0,c0,?_,(k0.set (by simp))⟩
 ·rw[Lg_this h (by omega)]
theorem setLg_ne{W:World}{g i k:Nat}{x:cr}{v0:Value}(h:eL W (g+1) g (i*1) x)(hk:i≠k):eL (gN W g (k*1) v0) (g+1) g (i*1) x:=by
 unfold gN
 obtain⟨a0,l0,c0,h0,k0⟩:=h
 refine⟨a0,l0,c0,?_,(k0.set (by simp))⟩
 ·rw[al (by omega)];exact h0
def ev(W:World)(g ty len:Nat)(ys:List cr):Prop:=du W g ty len∧∀(i:Nat) (x:cr),ys[i]? =some x→eL W (g+1) g (i*1) x
theorem ev.step{wr w':World}{g ty len k:Nat}{xs:List cr}{x:cr}{a0:Option Addr}{l0 c0:Nat}(h:ev wr g ty len (xs.take k))(hb:Below wr.heap.size wr w')(hk:k<len)(hx:xs[k]? =some x)(k0:gl w' (g+1) a0 l0 x.q):ev (gN w' g (k*1) (.slice a0 l0 c0)) g ty len (xs.take (k+1)):=by
 have hB:=h.1.below hb h.1.lt
 refine⟨(hB.set _),fun i y hy=>?_⟩
 have hik:i<k+1:=by
  rcases Nat.lt_or_ge i (k+1)with h'|h'
  ·exact h'
  ·rw[List.getElem?_eq_none (iT)]at hy;cases hy
 rw[List.getElem?_take_of_lt hik]at hy
 by_cases he:i=k
 ·subst he
  rw[hx]at hy
  cases hy
  exact setLg_this hB hk k0
 ·refine setLg_ne ?_ he
  exact(h.2 i y (by rw[List.getElem?_take_of_lt (by omega)];exact hy)).below hb
theorem ev.start{w:World}{ty len:Nat}{C:Array Value}(hC:C.size=len*1)(xs:List cr):ev (w.alloc (.cells C ty)) w.heap.size ty len (xs.take 0):=
 ⟨⟨C,by show(w.heap.push _)[w.heap.size]? =_;simp,hC⟩,fun i x h=>by simp at h⟩
theorem ev.done{W:World}{g ty len k:Nat}{xs:List cr}(h:ev W g ty len (xs.take k))(hk:xs.length≤k)(hl:xs.length=len)(hm:len≤maxLen):eu W g (some ⟨g,0,none⟩) len xs:=by
 refine⟨hl,hm,Or.inr ⟨g,0,rfl,Nat.le_refl _,fun i x hx=>?_⟩⟩
 rw[List.take_of_length_le hk]at h
 have:=(h.2 i x hx).less (B':=g) (by omega)
 simpa using this
theorem below_setLg{B g o:Nat}{W W':World}{v0:Value}(h:Below B W W')(hg:B≤g):Below B W (gN W' g o v0):=(h.setCell hg _)
section
variable {H : Type} {enc : TypeId × Value → H} {P : Program} {w : World} {base : Nat} {spare : Nat → Bool} {held : Bool}
def cr.ok64(x:cr):Prop:=(∀y ∈ x.q,y.ok64)
theorem cellsLg{a:Addr}{cs:List Value}{t0 e0:TypeId}(u0a:P.underlying t0=some (.slice e0))(u0b:bc P 5 e0=some [false,false,false,false,false])(u0c:P.cellsOf e0=5)(h:w.cells? base a 1=some cs)(f0:ca enc P w base spare held cs [.s t0]):a.spot=none∧∃x:cr,eL w 0 a.block a.off x∧x.ok64:=by
 obtain⟨a0,l0,c0,d0,p0,r0,rfl,y0,f1⟩:=fitT_s f0
 obtain rfl:=fitT_nil f1
 clear f0 f1
 obtain⟨x0,q0,o0⟩:=openIw u0a u0b u0c y0
 obtain⟨_,hlen,hc⟩:=World.cells?_some h
 have b0:=hc 0 (by omega)
 obtain⟨g,o,sp⟩:=a
 have ha0:(⟨g,o,sp⟩:Addr).add 0=⟨g,o,sp⟩:=by simp[Addr.add]
 have hsp:sp=none:=World.cell?_spot (w:=w) (a:=⟨g,o,sp⟩) (v:= .slice a0 l0 c0) (by rw[←ha0];simpa using b0)
 subst hsp
 exact⟨rfl,⟨x0⟩,⟨a0,l0,c0,by simpa[Addr.add]using b0,⟨q0,fun _ _ _ _=>Nat.zero_le _⟩⟩,o0⟩
theorem openLg{t e:TypeId}{t0 e0:TypeId}{a:Option Addr}{len cap:Nat}{d:DataW H}{p:List MemPlace}(ht:P.underlying t=some (.slice e))(hk:dh P 5 e=some [.s t0])(hC:P.cellsOf e=1)(u0a:P.underlying t0=some (.slice e0))(u0b:bc P 5 e0=some [false,false,false,false,false])(u0c:P.cellsOf e0=5)
  (h:DataW.Trod enc P w base spare held t (.slice a len cap) d p):∃xs:List cr,eu w 0 a len xs∧∀x ∈ xs,x.ok64:=by
 obtain⟨fuel,hf⟩:=h
 rcases open_slice ht hf with⟨hcs,_⟩|⟨a',len',cap',m,n,D,Pl,hcs,_,hl,hm,hmm,_,hx⟩
 ·simp[Value.cells]at hcs
  obtain⟨rfl,rfl,rfl⟩:=hcs
  exact⟨[],⟨rfl,Nat.zero_le _,Or.inl rfl⟩,by simp⟩
 ·simp[Value.cells]at hcs
  obtain⟨rfl,rfl,rfl⟩:=hcs
  have hlm:len≤m:=by rw[hmm];split<;>omega
  have hall:∀i,i<len→∃x:cr,(i=0→a'.spot=none)∧eL w 0 a'.block (a'.off+i*1) x∧x.ok64:=by
   intro i hi
   obtain⟨cs',h1,h2⟩:=hx i (by omega)
   rw[hC]at h1
   obtain⟨hsp,x,hxa,hxo⟩:=cellsLg u0a u0b u0c h1 (cv 5 hk h2)
   have hb:(a'.add (i*1)).block=a'.block∧(a'.add (i*1)).off=a'.off+i*1:=by
    unfold Addr.add
    split
    ·exact⟨rfl,by omega⟩
    ·exact⟨rfl,rfl⟩
   rw[hb.1,hb.2]at hxa
   refine⟨x,fun h0=>?_,hxa,hxo⟩
   subst h0
   simpa[Addr.add]using hsp
  by_cases h0:len=0
  ·subst h0
   exact⟨[],⟨rfl,Nat.zero_le _,Or.inl rfl⟩,by simp⟩
  have hinh:Inhabited cr:=⟨⟨[]⟩⟩
  obtain⟨f,hf'⟩:=choose_lt hall
  have hsp:=(hf' 0 (by omega)).1 rfl
  refine⟨(List.range len).map f,⟨by simp,by omega,Or.inr ⟨a'.block,a'.off,by cases a';simp_all,Nat.zero_le _,?_⟩⟩,?_⟩
  ·intro i x hix
   simp only[List.getElem?_map,Option.map_eq_some_iff]at hix
   obtain⟨j,hj,rfl⟩:=hix
   have hil:i<len:=by
    rcases Nat.lt_or_ge i len with h'|h'
    ·exact h'
    ·rw[List.getElem?_eq_none (by simpa using h')]at hj;cases hj
   rw[List.getElem?_eq_getElem (by simpa using hil)]at hj
   simp at hj
   subst hj
   exact(hf' i hil).2.1
  ·intro x hxm
   simp only[List.mem_map,List.mem_range]at hxm
   obtain⟨i,hi,rfl⟩:=hxm
   exact(hf' i hi).2.2
end
def cr.sm(x:cr):Prop:=x.q.length≤1048576
theorem smLg_of(x:cr){l0:Nat}(h0:x.q.length=l0)(h:l0≤1048576):x.sm:=by subst h0;exact h
theorem of_smLg(x:cr){l0:Nat}(h0:x.q.length=l0)(h:x.sm):l0≤1048576:=by subst h0;exact h
theorem szLg_one(x:cr)(a0:Option Addr)(l0 c0:Nat)(L:Int)(w:World)(h0:gl w 0 a0 l0 x.q)(h0L:0≤L)(hL:L≤1048576):Calls Tryz.prog 73 #[.slice a0 l0 c0,.int .i64 L] w fun e w'=>fV L (l0≤1048576) e∧Below w.heap.size w w':=
 (szIw_p a0 l0 c0 L w h0.len.2 h0L hL).mono fun e w' ⟨he,hw⟩=>⟨he,by rw[hw];exact Below.refl _ _⟩
theorem toLg_one(x:cr)(a0:Option Addr)(l0 c0:Nat)(w:World)(h0:gl w 0 a0 l0 x.q)(m0:l0≤1048576):Calls Tryz.prog 91 #[.slice a0 l0 c0] w fun e w'=>∃b0,e= .returned (.slice b0 l0 l0)∧gl w' w.heap.size b0 l0 x.q∧Below w.heap.size w w':=toIw_b 0 a0 l0 c0 x.q w h0 m0
theorem eqLg_one(B1 B2:Nat)(x:cr)(a0x a0y:Option Addr)(l0 c0x c0y:Nat)(w:World)(h0x:gl w B1 a0x l0 x.q)(h0y:gl w B2 a0y l0 x.q):Calls Tryz.prog 27 #[.slice a0x l0 c0x,.slice a0y l0 c0y] w fun e w'=>e= .returned (.bool true)∧Below w.heap.size w w':=eqIw_b B1 B2 a0x a0y l0 c0x c0y x.q w h0x h0y
set_option maxRecDepth 20000 in
set_option maxHeartbeats 1000000 in
theorem szLg_p(a:Option Addr)(len cap:Nat)(xs:List cr)(L:Int)(w:World)(h:eu w 0 a len xs)(h0:0≤L)(hL:L≤1048576):Calls Tryz.prog 34 #[.slice a len cap,.int .i64 L] w fun e w'=>fV L (len≤1048576∧∀x ∈ xs,x.sm) e∧Below w.heap.size w w':=by
 have hm:=h.2.1
 unfold maxLen at hm
 by_cases h1:(len:Int)≤L
 ·go_enter Tryz.func34,Tryz.ntmps34
  go_wp2
  go_loopw [1,5] (fun lv i wr=>∃(k:Nat) (l:Int),k≤len∧i= .int .i64 k∧lv= .int .i64 l∧0≤l∧l≤L∧(∀(i:Nat) (x:cr),i<k→xs[i]? =some x→x.sm)∧Below w.heap.size w wr) (fun _ i _=>len - (intOf i).toNat)
  case atStart=>exact⟨0,_,Nat.zero_le _,rfl,rfl,by omega,by omega,fun i x hi=>absurd hi (by omega),Below.refl _ _⟩
  case round=>
   obtain⟨k,l,hk,rfl,rfl,hl0,hl1,hq,hbw⟩:=hrel
   by_cases hlt:k<len
   ·obtain⟨hxl,hml,hx⟩:=h
    obtain⟨g,o,rfl,_,hr⟩:=hx.resolve_left (by omega)
    obtain⟨x,hxk⟩:∃x,xs[k]? =some x:=⟨_,List.getElem?_eq_getElem (by omega)⟩
    have hX:=ab hxk
    have HQ:=ab hq
    obtain⟨a0,l0,c0,c0z,k0⟩:=(hr k _ hxk).below hbw
    simp only[Nat.mul_one]at c0z
    have hsm:=ab (smLg_of x k0.len.1)
    clear hx hxk hr hq
    go_wp2_with fail
    refine(szLg_one x a0 l0 c0 l _ k0 hl0 (by omega)).mono ?_
    rintro e w1 ⟨⟨r,rfl,hr⟩,hb⟩
    rcases hr with rfl|⟨h2,h3,h4⟩
    ·go_wp2
     go_ret
     exact⟨⟨_,rfl,Or.inl rfl⟩,(ar)⟩
    ·have HS:=ab (aa hsm h4)
     clear h4 hsm
     go_wp2
     go_roundw
     case rel=>
      refine⟨k+1,r,by omega,by go_num,rfl,h2,by omega,fun i y hi hy=>?_,(ar)⟩
      by_cases he:i=k
      ·subst he
       rw[aa hX]at hy
       cases hy
       exact aa HS
      ·exact aa HQ i y (by omega) hy
     case measure=>simp[intOf];omega
   ·go_wp2
    go_ret
    refine⟨⟨_,rfl,Or.inr ⟨hl0,hl1,by omega,fun x hx=>?_⟩⟩,hbw⟩
    obtain⟨i,hi,rfl⟩:=List.getElem_of_mem hx
    exact hq i _ (by have:=h.1;omega) (List.getElem?_eq_getElem hi)
 ·go_enter Tryz.func34,Tryz.ntmps34
  go_wp2
  go_ret
  exact⟨⟨_,rfl,Or.inl rfl⟩,Below.refl _ _⟩
theorem Tryz.infoLg:(Tryz.prog.info? 63).map (fun i=>(i.zero,i.size,i.bytes))=some (some (.slice none 0 0),1,24):=by kernel_rfl
theorem mkLg(len:Nat)(hl:len≤1048576):∃C:Array Value,C.size=len*1∧∀w:World,(Instr.makeSlice 40 (.int .i64 (len:Int)) (.int .i64 (len:Int))).run Tryz.prog w= .ok (.slice (some ⟨w.heap.size,0,none⟩) len len) (w.alloc (.cells C 63)):=by
 obtain⟨i0,hi,hz0,hz1,hz2⟩:=info_parts Tryz.infoLg
 refine⟨madeCells (Value.slice none 0 0).cells (len*i0.size),by rw[size_madeCells,hz1],fun w=>?_⟩
 have h:=run_make (P:=Tryz.prog) w 40 63 i0 _ Tryz.underlying40 hi hz0 .i64 .i64 len len (by omega) (Int.le_refl _) (by rw[hz2];omega) (by omega)
 simpa using h
set_option maxRecDepth 20000 in
set_option maxHeartbeats 1000000 in
theorem toLg_b(B:Nat)(a:Option Addr)(len cap:Nat)(xs:List cr)(w:World)(h:eu w B a len xs)(hl:len≤1048576∧∀x ∈ xs,x.sm):Calls Tryz.prog 45 #[.slice a len cap] w fun e w'=>∃a',e= .returned (.slice a' len len)∧eu w' w.heap.size a' len xs∧Below w.heap.size w w':=by
 obtain⟨hl,hq⟩:=hl
 replace h:=h.less (Nat.zero_le B)
 obtain⟨C,hC,hmk⟩:=mkLg len hl
 go_enter Tryz.func45,Tryz.ntmps45
 go_wp2
 go_loopw [4] (fun i wr=>∃k:Nat,k≤len∧i= .int .i64 k∧ev wr w.heap.size 63 len (xs.take k)∧Below w.heap.size w wr) (fun i _=>len - (intOf i).toNat)
 case atStart=>exact⟨0,Nat.zero_le _,rfl,ev.start hC xs,ai _ _⟩
 case round=>
  obtain⟨k,hk,rfl,hF,hbw⟩:=hrel
  by_cases hlt:k<len
  ·obtain⟨hxl,hml,hx⟩:=h
   obtain⟨g,o,rfl,_,hr⟩:=hx.resolve_left (by omega)
   obtain⟨x,hxk⟩:∃x,xs[k]? =some x:=⟨_,List.getElem?_eq_getElem (by omega)⟩
   have hX:=ab hxk
   have hqk:=hq x (List.mem_of_getElem? hxk)
   obtain⟨a0,l0,c0,c0z,k0⟩:=(hr k _ hxk).below hbw
   simp only[Nat.mul_one]at c0z
   have m0:=of_smLg x k0.len.1 hqk
   obtain⟨u0,d0⟩:=hF.1.cell (i:=k*1) (by omega)
   have f0:=hF.1.frozen (i:=k*1)
   rw[Nat.mul_one]at d0 f0
   have hz:=hF.1.lt
   clear hx hxk hr hqk
   go_wp2_with (go_at_call 91;refine(toLg_one x a0 l0 c0 _ k0 m0).mono ?_;rintro e w' ⟨b0,rfl,H0,hb⟩;obtain⟨hc,hf,hs⟩:=ac hb)
   go_roundw
   case rel=>exact⟨k+1,by omega,by go_num,(by have h9:=hF.step hb hlt (aa hX) (c0:=l0) (H0.less (by omega));rw[Nat.mul_one]at h9;exact h9),below_setLg (ad hbw hb) (Nat.le_refl _)⟩
   case measure=>simp[intOf];omega
  ·go_wp2
   go_ret
   exact⟨_,rfl,hF.done (by have:=h.1;omega) h.1 h.2.1,hbw⟩
theorem hd_1_1{b0 b1 a0 c0:Nat}{k0 l0:Value}{W W':World}(h:((W.cell? ⟨b0,a0,none⟩=some k0∧W.cell? ⟨b1,c0,none⟩=some l0)∧b0<W.heap.size∧b1<W.heap.size))(hb:Below W.heap.size W W'):((W'.cell? ⟨b0,a0,none⟩=some k0∧W'.cell? ⟨b1,c0,none⟩=some l0)∧b0<W'.heap.size∧b1<W'.heap.size):=by
 obtain⟨h99,s0,s1⟩:=h
 have e0:∀z,W'.cell? ⟨b0,z,none⟩=W.cell? ⟨b0,z,none⟩:=fun z=>hb.cell s0
 have e1:∀z,W'.cell? ⟨b1,z,none⟩=W.cell? ⟨b1,z,none⟩:=fun z=>hb.cell s1
 refine⟨?_,Nat.lt_of_lt_of_le s0 hb.size,Nat.lt_of_lt_of_le s1 hb.size⟩
 simp only[e0,e1]
 exact h99
set_option maxRecDepth 20000 in
set_option maxHeartbeats 1000000 in
theorem eqLg_b(B1 B2:Nat)(a1 a2:Option Addr)(len cap1 cap2:Nat)(xs:List cr)(w:World)(h1:eu w B1 a1 len xs)(h2:eu w B2 a2 len xs):Calls Tryz.prog 56 #[.slice a1 len cap1,.slice a2 len cap2] w fun e w'=>e= .returned (.bool true)∧Below w.heap.size w w':=by
 have hm:=h1.2.1
 unfold maxLen at hm
 go_enter Tryz.func56,Tryz.ntmps56
 go_wp2
 go_loopw [5] (fun i wr=>∃k:Nat,k≤len∧i= .int .i64 k∧Below w.heap.size w wr) (fun i _=>len - (intOf i).toNat)
 case atStart=>exact⟨0,Nat.zero_le _,rfl,Below.refl _ _⟩
 case round=>
  obtain⟨k,hk,rfl,hbw⟩:=hrel
  by_cases hlt:k<len
  ·obtain⟨hl1,_,hx1⟩:=h1
   obtain⟨hl2,_,hx2⟩:=h2
   obtain⟨g1,o1,rfl,_,hr1⟩:=hx1.resolve_left (by omega)
   obtain⟨g2,o2,rfl,_,hr2⟩:=hx2.resolve_left (by omega)
   obtain⟨x,hxk⟩:∃x,xs[k]? =some x:=⟨_,List.getElem?_eq_getElem (by omega)⟩
   have t1:=(hr1 k _ hxk).below hbw
   have t2:=(hr2 k _ hxk).below hbw
   have hs1:=t1.lt
   have hs2:=t2.lt
   obtain⟨a0x,l0,c0x,c0z,k0x⟩:=t1
   obtain⟨a0y,l0y,c0y,d0z,k0y⟩:=t2
   simp only[Nat.mul_one]at c0z d0z
   obtain rfl:l0=l0y:=by have e1:=k0x.len.1;have e2:=k0y.len.1;omega
   have hS:((wr.cell? ⟨g1,o1+k,none⟩=some (.slice a0x l0 c0x)∧wr.cell? ⟨g2,o2+k,none⟩=some (.slice a0y l0 c0y))∧g1<wr.heap.size∧g2<wr.heap.size):=⟨⟨c0z,d0z⟩,hs1,hs2⟩
   clear hx1 hx2 hxk hr1 hr2
   go_wp2
   go_region_held3 (fun W=>((W.cell? ⟨g1,o1+k,none⟩=some (.slice a0x l0 c0x)∧W.cell? ⟨g2,o2+k,none⟩=some (.slice a0y l0 c0y))∧g1<W.heap.size∧g2<W.heap.size)) ((first|((repeat(first|(with_reducible assumption)|(with_reducible refine hd_1_1 ?_ (iP))|(with_reducible refine hd_1_1 ?_ (ag (Below.refl _ _)))|(with_reducible refine hd_1_1 ?_ (ai _ _))));done)|(refine⟨⟨?_,?_⟩,?_,?_⟩<;>first|(go_keep;done)|(simp;done)|(simp;omega)|omega)))
    (first
    |(go_at_call 27;refine(eqLg_one B1 B2 x a0x a0y l0 c0x c0y _ (k0x.below (aj)) (k0y.below (aj))).mono ?_;rintro e w' ⟨rfl,hb⟩;obtain⟨hc,hf,hs⟩:=ac hb))
   go_wp2
   go_roundw
   case rel=>exact⟨k+1,by omega,by go_num,(aj)⟩
   case measure=>simp[intOf];omega
  ·go_wp2
   go_ret
   exact⟨rfl,hbw⟩
/-- What is kept of a task. -/
structure cz where
 ma:Int
 rows:List bz
 marks:List Int
def eM(W:World)(B g o:Nat)(x:cz):Prop:=∃(a1:Option Addr) (l1 c1:Nat) (a2:Option Addr) (l2 c2:Nat),(W.cell? ⟨g,o,none⟩=some (.int .i64 x.ma)∧W.cell? ⟨g,o+1,none⟩=some (.slice a1 l1 c1)∧W.cell? ⟨g,o+2,none⟩=some (.slice a2 l2 c2))∧dC W B a1 l1 x.rows∧bo W B a2 l2 x.marks
def bF(W:World)(B:Nat)(a:Option Addr)(len:Nat)(xs:List cz):Prop:=xs.length=len∧len≤maxLen∧(len=0∨∃g o,a=some ⟨g,o,none⟩∧B≤g∧∀(i:Nat) (x:cz),xs[i]? =some x→eM W B g (o+i*3) x)
theorem eM.lt{W:World}{B g o:Nat}{x:cz}(h:eM W B g o x):g<W.heap.size:=by
 obtain⟨a1,l1,c1,a2,l2,c2,⟨h0,h1,h2⟩,k1,k2⟩:=h
 exact bg h0
theorem eM.below{W W':World}{B g o:Nat}{x:cz}(h:eM W B g o x)(hb:Below W.heap.size W W'):eM W' B g o x:=by
 have hg:=h.lt
 obtain⟨a1,l1,c1,a2,l2,c2,⟨h0,h1,h2⟩,k1,k2⟩:=h
 exact⟨a1,l1,c1,a2,l2,c2,⟨(hb.cell (p:=⟨g,_,none⟩) hg).trans h0,(hb.cell (p:=⟨g,_,none⟩) hg).trans h1,(hb.cell (p:=⟨g,_,none⟩) hg).trans h2⟩,k1.below hb,k2.below hb⟩
theorem eM.less{W:World}{B B' g o:Nat}{x:cz}(h:eM W B g o x)(hB:B'≤B):eM W B' g o x:=by
 obtain⟨a1,l1,c1,a2,l2,c2,⟨h0,h1,h2⟩,k1,k2⟩:=h
 exact⟨a1,l1,c1,a2,l2,c2,⟨h0,h1,h2⟩,k1.less hB,k2.less hB⟩
theorem eM.set{W:World}{B g o:Nat}{p:Addr}{v:Value}{x:cz}(h:eM W B g o x)(hg:p.block≠g)(hp:p.block<B):eM (W.setCell p v) B g o x:=by
 obtain⟨a1,l1,c1,a2,l2,c2,⟨h0,h1,h2⟩,k1,k2⟩:=h
 exact⟨a1,l1,c1,a2,l2,c2,⟨(aF hg).trans h0,(aF hg).trans h1,(aF hg).trans h2⟩,k1.set hp,k2.set hp⟩
theorem bF.below{W W':World}{B:Nat}{a:Option Addr}{len:Nat}{xs:List cz}(h:bF W B a len xs)(hb:Below W.heap.size W W'):bF W' B a len xs:=by
 obtain⟨h1,h2,h3⟩:=h
 refine⟨h1,h2,?_⟩
 rcases h3 with h3|⟨g,o,ha,hB9,hr⟩
 ·exact Or.inl h3
 ·exact Or.inr ⟨g,o,ha,hB9,fun i x hx=>(hr i x hx).below hb⟩
theorem bF.less{W:World}{B B':Nat}{a:Option Addr}{len:Nat}{xs:List cz}(h:bF W B a len xs)(hB:B'≤B):bF W B' a len xs:=by
 obtain⟨h1,h2,h3⟩:=h
 refine⟨h1,h2,?_⟩
 rcases h3 with h3|⟨g,o,ha,hB9,hr⟩
 ·exact Or.inl h3
 ·exact Or.inr ⟨g,o,ha,Nat.le_trans hB hB9,fun i x hx=>(hr i x hx).less hB⟩
theorem bF.set{W:World}{B:Nat}{p:Addr}{v:Value}{a:Option Addr}{len:Nat}{xs:List cz}(h:bF W B a len xs)(hp:p.block<B):bF (W.setCell p v) B a len xs:=by
 obtain⟨h1,h2,h3⟩:=h
 refine⟨h1,h2,?_⟩
 rcases h3 with h3|⟨g,o,ha,hB9,hr⟩
 ·exact Or.inl h3
 ·exact Or.inr ⟨g,o,ha,hB9,fun i x hx=>(hr i x hx).set (by omega) hp⟩
theorem bF.len{W:World}{B:Nat}{a:Option Addr}{len:Nat}{xs:List cz}(h:bF W B a len xs):xs.length=len∧len≤maxLen:=⟨h.1,h.2.1⟩
/-- A block of such, known whole; one that is being filled. -/
def gO(W:World)(g o:Nat)(v0 v1 v2:Value):World:=(((W.setCell ⟨g,o,none⟩ v0).setCell ⟨g,o+1,none⟩ v1).setCell ⟨g,o+2,none⟩ v2)
def dv(W:World)(g ty len:Nat):Prop:=∃cur,W.heap[g]? =some (.cells cur ty (0,0))∧cur.size=len*3
theorem dv.set{W:World}{g ty len i:Nat}(h:dv W g ty len)(v:Value):dv (W.setCell ⟨g,i,none⟩ v) g ty len:=by
 obtain⟨cur,h1,h2⟩:=h
 exact⟨_,Joins.block_setCell h1 v,by simp[h2]⟩
theorem dv.below{W W':World}{g ty len B:Nat}(h:dv W g ty len)(hb:Below B W W')(hg:g<B):dv W' g ty len:=by
 obtain⟨cur,h1,h2⟩:=h
 exact⟨cur,(hb.block g hg).trans h1,h2⟩
theorem dv.lt{W:World}{g ty len:Nat}(h:dv W g ty len):g<W.heap.size:=by
 obtain⟨cur,h1,h2⟩:=h
 exact(Array.getElem?_eq_some_iff.1 h1).1
theorem dv.cell{W:World}{g ty len i:Nat}(h:dv W g ty len)(hi:i<len*3):∃u,W.cell? ⟨g,i,none⟩=some u:=by
 obtain⟨cur,h1,h2⟩:=h
 exact⟨_,(cA h1 i).trans (Array.getElem?_eq_getElem (by omega))⟩
theorem dv.frozen{W:World}{g ty len i:Nat}(h:dv W g ty len):W.frozen? ⟨g,i,none⟩=false:=by
 obtain⟨cur,h1,h2⟩:=h
 exact Joins.unfrozen_of_block h1 i
theorem iq{W:World}{g ty len i:Nat}{v:Value}(h:dv W g ty len)(hi:i<len*3):(W.setCell ⟨g,i,none⟩ v).cell? ⟨g,i,none⟩=some v:=by
 obtain⟨u,hu⟩:=h.cell hi
 exact World.cell?_setCell_same _ _ _ hu
theorem setSn_this{W:World}{g ty len k:Nat}{x:cz}{a1:Option Addr}{l1 c1:Nat}{a2:Option Addr}{l2 c2:Nat}(h:dv W g ty len)(hk:k<len)(k1:dC W (g+1) a1 l1 x.rows)(k2:bo W (g+1) a2 l2 x.marks):eM (gO W g (k*3) (.int .i64 x.ma) (.slice a1 l1 c1) (.slice a2 l2 c2)) (g+1) g (k*3) x:=by
 unfold gO
 refine⟨a1,l1,c1,a2,l2,c2,⟨?_,?_,?_⟩,(((k1.set (by simp)).set (by simp)).set (by simp)),(((k2.set (by simp)).set (by simp)).set (by simp))⟩
 ·rw[al (by omega),al (by omega),iq h (by omega)]
 ·rw[al (by omega),iq (h.set _) (by omega)]
 ·rw[iq ((h.set _).set _) (by omega)]
theorem setSn_ne{W:World}{g i k:Nat}{x:cz}{v0 v1 v2:Value}(h:eM W (g+1) g (i*3) x)(hk:i≠k):eM (gO W g (k*3) v0 v1 v2) (g+1) g (i*3) x:=by
 unfold gO
 obtain⟨a1,l1,c1,a2,l2,c2,⟨h0,h1,h2⟩,k1,k2⟩:=h
 refine⟨a1,l1,c1,a2,l2,c2,⟨?_,?_,?_⟩,(((k1.set (by simp)).set (by simp)).set (by simp)),(((k2.set (by simp)).set (by simp)).set (by simp))⟩
 ·rw[al (by omega),al (by omega),al (by omega)];exact h0
 ·rw[al (by omega),al (by omega),al (by omega)];exact h1
 ·rw[al (by omega),al (by omega),al (by omega)];exact h2
def ew(W:World)(g ty len:Nat)(ys:List cz):Prop:=dv W g ty len∧∀(i:Nat) (x:cz),ys[i]? =some x→eM W (g+1) g (i*3) x
theorem ew.step{wr w':World}{g ty len k:Nat}{xs:List cz}{x:cz}{a1:Option Addr}{l1 c1:Nat}{a2:Option Addr}{l2 c2:Nat}(h:ew wr g ty len (xs.take k))(hb:Below wr.heap.size wr w')(hk:k<len)(hx:xs[k]? =some x)(k1:dC w' (g+1) a1 l1 x.rows)(k2:bo w' (g+1) a2 l2 x.marks):ew (gO w' g (k*3) (.int .i64 x.ma) (.slice a1 l1 c1) (.slice a2 l2 c2)) g ty len (xs.take (k+1)):=by
 have hB:=h.1.below hb h.1.lt
 refine⟨(((hB.set _).set _).set _),fun i y hy=>?_⟩
 have hik:i<k+1:=by
  rcases Nat.lt_or_ge i (k+1)with h'|h'
  ·exact h'
  ·rw[List.getElem?_eq_none (iT)]at hy;cases hy
 rw[List.getElem?_take_of_lt hik]at hy
 by_cases he:i=k
 ·subst he
  rw[hx]at hy
  cases hy
  exact setSn_this hB hk k1 k2
 ·refine setSn_ne ?_ he
  exact(h.2 i y (by rw[List.getElem?_take_of_lt (by omega)];exact hy)).below hb
theorem ew.start{w:World}{ty len:Nat}{C:Array Value}(hC:C.size=len*3)(xs:List cz):ew (w.alloc (.cells C ty)) w.heap.size ty len (xs.take 0):=
 ⟨⟨C,by show(w.heap.push _)[w.heap.size]? =_;simp,hC⟩,fun i x h=>by simp at h⟩
theorem ew.done{W:World}{g ty len k:Nat}{xs:List cz}(h:ew W g ty len (xs.take k))(hk:xs.length≤k)(hl:xs.length=len)(hm:len≤maxLen):bF W g (some ⟨g,0,none⟩) len xs:=by
 refine⟨hl,hm,Or.inr ⟨g,0,rfl,Nat.le_refl _,fun i x hx=>?_⟩⟩
 rw[List.take_of_length_le hk]at h
 have:=(h.2 i x hx).less (B':=g) (by omega)
 simpa using this
theorem below_setSn{B g o:Nat}{W W':World}{v0 v1 v2:Value}(h:Below B W W')(hg:B≤g):Below B W (gO W' g o v0 v1 v2):=(((h.setCell hg _).setCell hg _).setCell hg _)
section
variable {H : Type} {enc : TypeId × Value → H} {P : Program} {w : World} {base : Nat} {spare : Nat → Bool} {held : Bool}
def cz.ok64(x:cz):Prop:=(-9223372036854775808≤x.ma∧x.ma≤9223372036854775807)∧(∀y ∈ x.rows,y.ok64)∧∀y ∈ x.marks,-9223372036854775808≤y∧y≤9223372036854775807
theorem cellsSn{a:Addr}{cs:List Value}{t1 e1:TypeId}{t2 e2:TypeId}(u1:P.underlying t1=some (.slice e1))(u2:bc P 5 e1=some [false,false,false,false,false,false,false,false,false,false,false,false,true])(u3:P.cellsOf e1=13)(u4:P.underlying t2=some (.slice e2))(u5:P.underlying e2=some (.int .i64))(u6:P.cellsOf e2=1)(h:w.cells? base a 3=some cs)(f0:ca enc P w base spare held cs [.i,.s t1,.s t2]):a.spot=none∧∃x:cz,eM w 0 a.block a.off x∧x.ok64:=by
 obtain⟨z0,r0,rfl,y0,f1⟩:=fitT_i f0
 obtain⟨a1,l1,c1,d1,p1,r1,rfl,y1,f2⟩:=fitT_s f1
 obtain⟨a2,l2,c2,d2,p2,r2,rfl,y2,f3⟩:=fitT_s f2
 obtain rfl:=fitT_nil f3
 clear f0 f1 f2 f3
 obtain⟨x1,q1,o1⟩:=openOr u1 u2 u3 y1
 obtain⟨x2,q2,o2⟩:=openIn u4 u5 u6 y2
 obtain⟨_,hlen,hc⟩:=World.cells?_some h
 have b0:=hc 0 (by omega)
 have b1:=hc 1 (by omega)
 have b2:=hc 2 (by omega)
 obtain⟨g,o,sp⟩:=a
 have ha0:(⟨g,o,sp⟩:Addr).add 0=⟨g,o,sp⟩:=by simp[Addr.add]
 have hsp:sp=none:=World.cell?_spot (w:=w) (a:=⟨g,o,sp⟩) (v:= .int .i64 z0) (by rw[←ha0];simpa using b0)
 subst hsp
 exact⟨rfl,⟨z0,x1,x2⟩,⟨a1,l1,c1,a2,l2,c2,⟨by simpa[Addr.add]using b0,by simpa[Addr.add]using b1,by simpa[Addr.add]using b2⟩,⟨q1,fun _ _ _ _=>Nat.zero_le _⟩,⟨q2,fun _ _ _ _=>Nat.zero_le _⟩⟩,aV y0,o1,o2⟩
theorem openSn{t e:TypeId}{t1 e1:TypeId}{t2 e2:TypeId}{a:Option Addr}{len cap:Nat}{d:DataW H}{p:List MemPlace}(ht:P.underlying t=some (.slice e))(hk:dh P 5 e=some [.i,.s t1,.s t2])(hC:P.cellsOf e=3)(u1:P.underlying t1=some (.slice e1))(u2:bc P 5 e1=some [false,false,false,false,false,false,false,false,false,false,false,false,true])(u3:P.cellsOf e1=13)(u4:P.underlying t2=some (.slice e2))(u5:P.underlying e2=some (.int .i64))(u6:P.cellsOf e2=1)
  (h:DataW.Trod enc P w base spare held t (.slice a len cap) d p):∃xs:List cz,bF w 0 a len xs∧∀x ∈ xs,x.ok64:=by
 obtain⟨fuel,hf⟩:=h
 rcases open_slice ht hf with⟨hcs,_⟩|⟨a',len',cap',m,n,D,Pl,hcs,_,hl,hm,hmm,_,hx⟩
 ·simp[Value.cells]at hcs
  obtain⟨rfl,rfl,rfl⟩:=hcs
  exact⟨[],⟨rfl,Nat.zero_le _,Or.inl rfl⟩,by simp⟩
 ·simp[Value.cells]at hcs
  obtain⟨rfl,rfl,rfl⟩:=hcs
  have hlm:len≤m:=by rw[hmm];split<;>omega
  have hall:∀i,i<len→∃x:cz,(i=0→a'.spot=none)∧eM w 0 a'.block (a'.off+i*3) x∧x.ok64:=by
   intro i hi
   obtain⟨cs',h1,h2⟩:=hx i (by omega)
   rw[hC]at h1
   obtain⟨hsp,x,hxa,hxo⟩:=cellsSn u1 u2 u3 u4 u5 u6 h1 (cv 5 hk h2)
   have hb:(a'.add (i*3)).block=a'.block∧(a'.add (i*3)).off=a'.off+i*3:=by
    unfold Addr.add
    split
    ·exact⟨rfl,by omega⟩
    ·exact⟨rfl,rfl⟩
   rw[hb.1,hb.2]at hxa
   refine⟨x,fun h0=>?_,hxa,hxo⟩
   subst h0
   simpa[Addr.add]using hsp
  by_cases h0:len=0
  ·subst h0
   exact⟨[],⟨rfl,Nat.zero_le _,Or.inl rfl⟩,by simp⟩
  have hinh:Inhabited cz:=⟨⟨0,[],[]⟩⟩
  obtain⟨f,hf'⟩:=choose_lt hall
  have hsp:=(hf' 0 (by omega)).1 rfl
  refine⟨(List.range len).map f,⟨by simp,by omega,Or.inr ⟨a'.block,a'.off,by cases a';simp_all,Nat.zero_le _,?_⟩⟩,?_⟩
  ·intro i x hix
   simp only[List.getElem?_map,Option.map_eq_some_iff]at hix
   obtain⟨j,hj,rfl⟩:=hix
   have hil:i<len:=by
    rcases Nat.lt_or_ge i len with h'|h'
    ·exact h'
    ·rw[List.getElem?_eq_none (by simpa using h')]at hj;cases hj
   rw[List.getElem?_eq_getElem (by simpa using hil)]at hj
   simp at hj
   subst hj
   exact(hf' i hil).2.1
  ·intro x hxm
   simp only[List.mem_map,List.mem_range]at hxm
   obtain⟨i,hi,rfl⟩:=hxm
   exact(hf' i hi).2.2
end
def cz.sm(x:cz):Prop:=x.rows.length≤1048576∧x.marks.length≤1048576
theorem smSn_of(x:cz){l1 l2:Nat}(h1:x.rows.length=l1)(h2:x.marks.length=l2)(h:l1≤1048576∧l2≤1048576):x.sm:=⟨by omega,by omega⟩
theorem of_smSn(x:cz){l1 l2:Nat}(h1:x.rows.length=l1)(h2:x.marks.length=l2)(h:x.sm):l1≤1048576∧l2≤1048576:=by obtain⟨h3,h4⟩:=h;exact⟨by omega,by omega⟩
set_option maxRecDepth 20000 in
set_option maxHeartbeats 1000000 in
theorem szSn_one(x:cz)(a1:Option Addr)(l1 c1:Nat)(a2:Option Addr)(l2 c2:Nat)(L:Int)(w:World)(h1:dC w 0 a1 l1 x.rows)(h2:bo w 0 a2 l2 x.marks)(h0L:0≤L)(hL:L≤1048576):Calls Tryz.prog 136 #[.agg #[.int .i64 x.ma,.slice a1 l1 c1,.slice a2 l2 c2],.int .i64 L] w fun e w'=>fV L (l1≤1048576∧l2≤1048576) e∧Below w.heap.size w w':=by
 go_enter Tryz.func136,Tryz.ntmps136
 go_wp2_with fail
 refine(szSt_p x.ma a1 l1 c1 L _ h1.len.2 (by omega) (by omega)).mono ?_
 rintro e y0 ⟨⟨r0,rfl,hr⟩,hb0⟩
 obtain⟨hc0,hf0,hs0⟩:=ac hb0
 have hz0:w.heap.size<y0.heap.size:=by have h9:=hb0.size;(try simp at h9);omega
 rcases hr with rfl|⟨p0,q0,s0⟩
 ·go_wp2
  go_ret
  exact⟨⟨_,rfl,Or.inl rfl⟩,(ar)⟩
 go_wp2_with fail
 refine(szIn_p a2 l2 c2 r0 _ h2.len.2 (by omega) (by omega)).mono ?_
 rintro e w1x ⟨⟨r1,rfl,hr⟩,hw⟩
 obtain rfl:=hw.symm
 clear hw
 rcases hr with rfl|⟨p1,q1,s1⟩
 ·go_wp2
  go_ret
  exact⟨⟨_,rfl,Or.inl rfl⟩,(ar)⟩
 go_wp2
 go_ret
 exact⟨⟨_,rfl,Or.inr ⟨p1,by omega,s0,s1⟩⟩,(ar)⟩
set_option maxRecDepth 20000 in
set_option maxHeartbeats 2000000 in
theorem toSn_one(x:cz)(a1:Option Addr)(l1 c1:Nat)(a2:Option Addr)(l2 c2:Nat)(w:World)(h1:dC w 0 a1 l1 x.rows)(h2:bo w 0 a2 l2 x.marks)(m1:l1≤1048576)(m2:l2≤1048576):Calls Tryz.prog 149 #[.agg #[.int .i64 x.ma,.slice a1 l1 c1,.slice a2 l2 c2]] w fun e w'=>∃b1 b2,e= .returned (.agg #[.int .i64 x.ma,.slice b1 l1 l1,.slice b2 l2 l2])∧dC w' w.heap.size b1 l1 x.rows∧bo w' w.heap.size b2 l2 x.marks∧Below w.heap.size w w':=by
 go_enter Tryz.func149,Tryz.ntmps149
 go_wp2_with (first
  |(go_at_call 144;refine(toSt_b 0 x.ma a1 l1 c1 x.rows _ (h1.below (ar)) m1).mono ?_;rintro e' w0 ⟨b1,rfl,H1,hb0⟩;obtain⟨hc0,hf0,hs0⟩:=ac hb0;have hz00:w.heap.size<w0.heap.size:=(by have h9:=hb0.size;(try simp at h9);omega);have hz01:w.heap.size+1<w0.heap.size:=(by have h9:=hb0.size;(try simp at h9);omega);have hz02:w.heap.size+1+1<w0.heap.size:=(by have h9:=hb0.size;(try simp at h9);omega))
  |(go_at_call 95;refine(toIn_b 0 a2 l2 c2 x.marks _ (h2.below (ar)) m2).mono ?_;rintro e' w1 ⟨b2,rfl,H2,hb1⟩;obtain⟨hc1,hf1,hs1⟩:=ac hb1;have hz10:w.heap.size<w1.heap.size:=(by have h9:=hb1.size;(try simp at h9);omega);have hz11:w.heap.size+1<w1.heap.size:=(by have h9:=hb1.size;(try simp at h9);omega);have hz12:w.heap.size+1+1<w1.heap.size:=(by have h9:=hb1.size;(try simp at h9);omega)))
 have G1:dC w0 (w.heap.size+3) b1 l1 x.rows:=H1.less (iR)
 have G2:bo w1 (w.heap.size+3) b2 l2 x.marks:=H2.less (iR)
 refine bodyPost_ret (v:= .agg #[.int .i64 x.ma,.slice b1 l1 l1,.slice b2 l2 l2]) (by simp(maxDischargeDepth:=9) [results,Tryz.results149,go_sem, *]) rfl ⟨b1,b2,rfl,dC.less (B:=w.heap.size+3) ?_ (by omega),bo.less (B:=w.heap.size+3) ?_ (by omega),?_⟩
 ·repeat(first|(with_reducible exact G1)|(with_reducible refine dC.set ?_ (iR))|(with_reducible refine dC.below ?_ hb1))
 ·repeat(first|(with_reducible exact G2)|(with_reducible refine bo.set ?_ (iR)))
 ·exact(ar)
set_option maxRecDepth 20000 in
set_option maxHeartbeats 1000000 in
theorem eqSn_one(B1 B2:Nat)(x:cz)(a1x a1y:Option Addr)(l1 c1x c1y:Nat)(a2x a2y:Option Addr)(l2 c2x c2y:Nat)(w:World)(h1x:dC w B1 a1x l1 x.rows)(h1y:dC w B2 a1y l1 x.rows)(h2x:bo w B1 a2x l2 x.marks)(h2y:bo w B2 a2y l2 x.marks):Calls Tryz.prog 178 #[.agg #[.int .i64 x.ma,.slice a1x l1 c1x,.slice a2x l2 c2x],.agg #[.int .i64 x.ma,.slice a1y l1 c1y,.slice a2y l2 c2y]] w fun e w'=>e= .returned (.bool true)∧Below w.heap.size w w':=by
 go_enter Tryz.func178,Tryz.ntmps178
 go_wp2_with (first
  |(go_at_call 175;refine(eqSt_b B1 B2 x.ma a1x a1y l1 c1x c1y x.rows _ (h1x.below (ar)) (h1y.below (ar))).mono ?_;rintro e' w0 ⟨rfl,hb0⟩;obtain⟨hc0,hf0,hs0⟩:=ac hb0;have hz00:w.heap.size<w0.heap.size:=(by have h9:=hb0.size;(try simp at h9);omega);have hz01:w.heap.size+1<w0.heap.size:=(by have h9:=hb0.size;(try simp at h9);omega))
  |(go_at_call 113;refine(eqIn_b B1 B2 a2x a2y l2 c2x c2y x.marks _ (h2x.below (ar)) (h2y.below (ar))).mono ?_;rintro e' w1 ⟨rfl,hb1⟩;obtain⟨hc1,hf1,hs1⟩:=ac hb1;have hz10:w.heap.size<w1.heap.size:=(by have h9:=hb1.size;(try simp at h9);omega);have hz11:w.heap.size+1<w1.heap.size:=(by have h9:=hb1.size;(try simp at h9);omega)))
 go_ret
 exact⟨rfl,(ar)⟩
set_option maxRecDepth 20000 in
set_option maxHeartbeats 1000000 in
theorem szSn_p(a:Option Addr)(len cap:Nat)(xs:List cz)(L:Int)(w:World)(h:bF w 0 a len xs)(h0:0≤L)(hL:L≤1048576):Calls Tryz.prog 78 #[.slice a len cap,.int .i64 L] w fun e w'=>fV L (len≤1048576∧∀x ∈ xs,x.sm) e∧Below w.heap.size w w':=by
 have hm:=h.2.1
 unfold maxLen at hm
 by_cases h1:(len:Int)≤L
 ·go_enter Tryz.func78,Tryz.ntmps78
  go_wp2
  go_loopw [1,5] (fun lv i wr=>∃(k:Nat) (l:Int),k≤len∧i= .int .i64 k∧lv= .int .i64 l∧0≤l∧l≤L∧(∀(i:Nat) (x:cz),i<k→xs[i]? =some x→x.sm)∧Below w.heap.size w wr) (fun _ i _=>len - (intOf i).toNat)
  case atStart=>exact⟨0,_,Nat.zero_le _,rfl,rfl,by omega,by omega,fun i x hi=>absurd hi (by omega),Below.refl _ _⟩
  case round=>
   obtain⟨k,l,hk,rfl,rfl,hl0,hl1,hq,hbw⟩:=hrel
   by_cases hlt:k<len
   ·obtain⟨hxl,hml,hx⟩:=h
    obtain⟨g,o,rfl,_,hr⟩:=hx.resolve_left (by omega)
    obtain⟨x,hxk⟩:∃x,xs[k]? =some x:=⟨_,List.getElem?_eq_getElem (by omega)⟩
    have hX:=ab hxk
    have HQ:=ab hq
    obtain⟨a1,l1,c1,a2,l2,c2,⟨c0z,c1z,c2z⟩,k1,k2⟩:=(hr k _ hxk).below hbw
    have hsm:=ab (smSn_of x k1.len.1 k2.len.1)
    clear hx hxk hr hq
    go_wp2_with fail
    refine(szSn_one x a1 l1 c1 a2 l2 c2 l _ k1 k2 hl0 (by omega)).mono ?_
    rintro e w1 ⟨⟨r,rfl,hr⟩,hb⟩
    rcases hr with rfl|⟨h2,h3,h4⟩
    ·go_wp2
     go_ret
     exact⟨⟨_,rfl,Or.inl rfl⟩,(ar)⟩
    ·have HS:=ab (aa hsm h4)
     clear h4 hsm
     go_wp2
     go_roundw
     case rel=>
      refine⟨k+1,r,by omega,by go_num,rfl,h2,by omega,fun i y hi hy=>?_,(ar)⟩
      by_cases he:i=k
      ·subst he
       rw[aa hX]at hy
       cases hy
       exact aa HS
      ·exact aa HQ i y (by omega) hy
     case measure=>simp[intOf];omega
   ·go_wp2
    go_ret
    refine⟨⟨_,rfl,Or.inr ⟨hl0,hl1,by omega,fun x hx=>?_⟩⟩,hbw⟩
    obtain⟨i,hi,rfl⟩:=List.getElem_of_mem hx
    exact hq i _ (by have:=h.1;omega) (List.getElem?_eq_getElem hi)
 ·go_enter Tryz.func78,Tryz.ntmps78
  go_wp2
  go_ret
  exact⟨⟨_,rfl,Or.inl rfl⟩,Below.refl _ _⟩
theorem Tryz.infoSn:(Tryz.prog.info? 148).map (fun i=>(i.zero,i.size,i.bytes))=some (some (.agg #[.int .i64 0,.slice none 0 0,.slice none 0 0]),3,56):=by kernel_rfl
theorem mkSn(len:Nat)(hl:len≤1048576):∃C:Array Value,C.size=len*3∧∀w:World,(Instr.makeSlice 44 (.int .i64 (len:Int)) (.int .i64 (len:Int))).run Tryz.prog w= .ok (.slice (some ⟨w.heap.size,0,none⟩) len len) (w.alloc (.cells C 148)):=by
 obtain⟨i0,hi,hz0,hz1,hz2⟩:=info_parts Tryz.infoSn
 refine⟨madeCells (Value.agg #[.int .i64 0,.slice none 0 0,.slice none 0 0]).cells (len*i0.size),by rw[size_madeCells,hz1],fun w=>?_⟩
 have h:=run_make (P:=Tryz.prog) w 44 148 i0 _ Tryz.underlying44 hi hz0 .i64 .i64 len len (by omega) (Int.le_refl _) (by rw[hz2];omega) (by omega)
 simpa using h
set_option maxRecDepth 20000 in
set_option maxHeartbeats 1000000 in
theorem toSn_b(B:Nat)(a:Option Addr)(len cap:Nat)(xs:List cz)(w:World)(h:bF w B a len xs)(hl:len≤1048576∧∀x ∈ xs,x.sm):Calls Tryz.prog 97 #[.slice a len cap] w fun e w'=>∃a',e= .returned (.slice a' len len)∧bF w' w.heap.size a' len xs∧Below w.heap.size w w':=by
 obtain⟨hl,hq⟩:=hl
 replace h:=h.less (Nat.zero_le B)
 obtain⟨C,hC,hmk⟩:=mkSn len hl
 go_enter Tryz.func97,Tryz.ntmps97
 go_wp2
 go_loopw [4] (fun i wr=>∃k:Nat,k≤len∧i= .int .i64 k∧ew wr w.heap.size 148 len (xs.take k)∧Below w.heap.size w wr) (fun i _=>len - (intOf i).toNat)
 case atStart=>exact⟨0,Nat.zero_le _,rfl,ew.start hC xs,ai _ _⟩
 case round=>
  obtain⟨k,hk,rfl,hF,hbw⟩:=hrel
  by_cases hlt:k<len
  ·obtain⟨hxl,hml,hx⟩:=h
   obtain⟨g,o,rfl,_,hr⟩:=hx.resolve_left (by omega)
   obtain⟨x,hxk⟩:∃x,xs[k]? =some x:=⟨_,List.getElem?_eq_getElem (by omega)⟩
   have hX:=ab hxk
   have hqk:=hq x (List.mem_of_getElem? hxk)
   obtain⟨a1,l1,c1,a2,l2,c2,⟨c0z,c1z,c2z⟩,k1,k2⟩:=(hr k _ hxk).below hbw
   obtain⟨m1,m2⟩:=of_smSn x k1.len.1 k2.len.1 hqk
   obtain⟨u0,d0⟩:=hF.1.cell (i:=k*3) (by omega)
   have f0:=hF.1.frozen (i:=k*3)
   obtain⟨u1,d1⟩:=hF.1.cell (i:=k*3+1) (by omega)
   have f1:=hF.1.frozen (i:=k*3+1)
   obtain⟨u2,d2⟩:=hF.1.cell (i:=k*3+2) (by omega)
   have f2:=hF.1.frozen (i:=k*3+2)
   have hz:=hF.1.lt
   clear hx hxk hr hqk
   go_wp2_with (go_at_call 149;refine(toSn_one x a1 l1 c1 a2 l2 c2 _ k1 k2 m1 m2).mono ?_;rintro e w' ⟨b1,b2,rfl,H1,H2,hb⟩;obtain⟨hc,hf,hs⟩:=ac hb)
   go_roundw
   case rel=>exact⟨k+1,by omega,by go_num,hF.step hb hlt (aa hX) (H1.less (by omega)) (H2.less (by omega)),below_setSn (ad hbw hb) (Nat.le_refl _)⟩
   case measure=>simp[intOf];omega
  ·go_wp2
   go_ret
   exact⟨_,rfl,hF.done (by have:=h.1;omega) h.1 h.2.1,hbw⟩
set_option maxRecDepth 20000 in
set_option maxHeartbeats 1000000 in
theorem eqSn_b(B1 B2:Nat)(a1 a2:Option Addr)(len cap1 cap2:Nat)(xs:List cz)(w:World)(h1:bF w B1 a1 len xs)(h2:bF w B2 a2 len xs):Calls Tryz.prog 115 #[.slice a1 len cap1,.slice a2 len cap2] w fun e w'=>e= .returned (.bool true)∧Below w.heap.size w w':=by
 have hm:=h1.2.1
 unfold maxLen at hm
 go_enter Tryz.func115,Tryz.ntmps115
 go_wp2
 go_loopw [5] (fun i wr=>∃k:Nat,k≤len∧i= .int .i64 k∧Below w.heap.size w wr) (fun i _=>len - (intOf i).toNat)
 case atStart=>exact⟨0,Nat.zero_le _,rfl,Below.refl _ _⟩
 case round=>
  obtain⟨k,hk,rfl,hbw⟩:=hrel
  by_cases hlt:k<len
  ·obtain⟨hl1,_,hx1⟩:=h1
   obtain⟨hl2,_,hx2⟩:=h2
   obtain⟨g1,o1,rfl,_,hr1⟩:=hx1.resolve_left (by omega)
   obtain⟨g2,o2,rfl,_,hr2⟩:=hx2.resolve_left (by omega)
   obtain⟨x,hxk⟩:∃x,xs[k]? =some x:=⟨_,List.getElem?_eq_getElem (by omega)⟩
   have t1:=(hr1 k _ hxk).below hbw
   have t2:=(hr2 k _ hxk).below hbw
   have hs1:=t1.lt
   have hs2:=t2.lt
   obtain⟨a1x,l1,c1x,a2x,l2,c2x,⟨c0z,c1z,c2z⟩,k1x,k2x⟩:=t1
   obtain⟨a1y,l1y,c1y,a2y,l2y,c2y,⟨d0z,d1z,d2z⟩,k1y,k2y⟩:=t2
   obtain rfl:l1=l1y:=by have e1:=k1x.len.1;have e2:=k1y.len.1;omega
   obtain rfl:l2=l2y:=by have e1:=k2x.len.1;have e2:=k2y.len.1;omega
   have hS:((wr.cell? ⟨g1,o1+k*3,none⟩=some (.int .i64 x.ma)∧wr.cell? ⟨g1,o1+k*3+1,none⟩=some (.slice a1x l1 c1x)∧wr.cell? ⟨g1,o1+k*3+2,none⟩=some (.slice a2x l2 c2x)∧wr.cell? ⟨g2,o2+k*3,none⟩=some (.int .i64 x.ma)∧wr.cell? ⟨g2,o2+k*3+1,none⟩=some (.slice a1y l1 c1y)∧wr.cell? ⟨g2,o2+k*3+2,none⟩=some (.slice a2y l2 c2y))∧g1<wr.heap.size∧g2<wr.heap.size):=⟨⟨c0z,c1z,c2z,d0z,d1z,d2z⟩,hs1,hs2⟩
   clear hx1 hx2 hxk hr1 hr2
   go_wp2
   go_region_held3 (fun W=>((W.cell? ⟨g1,o1+k*3,none⟩=some (.int .i64 x.ma)∧W.cell? ⟨g1,o1+k*3+1,none⟩=some (.slice a1x l1 c1x)∧W.cell? ⟨g1,o1+k*3+2,none⟩=some (.slice a2x l2 c2x)∧W.cell? ⟨g2,o2+k*3,none⟩=some (.int .i64 x.ma)∧W.cell? ⟨g2,o2+k*3+1,none⟩=some (.slice a1y l1 c1y)∧W.cell? ⟨g2,o2+k*3+2,none⟩=some (.slice a2y l2 c2y))∧g1<W.heap.size∧g2<W.heap.size)) ((first|((repeat(first|(with_reducible assumption)|(with_reducible refine cY ?_ (iP))|(with_reducible refine cY ?_ (ag (Below.refl _ _)))|(with_reducible refine cY ?_ (ai _ _))));done)|(refine⟨⟨?_,?_,?_,?_,?_,?_⟩,?_,?_⟩<;>first|(go_keep;done)|(simp;done)|(simp;omega)|omega)))
    (first
    |(go_at_call 178;refine(eqSn_one B1 B2 x a1x a1y l1 c1x c1y a2x a2y l2 c2x c2y _ (k1x.below (aj)) (k1y.below (aj)) (k2x.below (aj)) (k2y.below (aj))).mono ?_;rintro e w' ⟨rfl,hb⟩;obtain⟨hc,hf,hs⟩:=ac hb))
   go_wp2
   go_roundw
   case rel=>exact⟨k+1,by omega,by go_num,(aj)⟩
   case measure=>simp[intOf];omega
  ·go_wp2
   go_ret
   exact⟨rfl,hbw⟩
/-- What is safe. -/
structure CsD where
 sfn:Int
 at_:List Int
 ssn:List cz
/-- Checkpoints. -/
structure gP where
 n:Int
 op:Bool
 src:List Int
 tsk:List Bool
 sn:List cz
 sfn:Int
 at_:List Int
 ssn:List cz
set_option maxRecDepth 20000 in
set_option maxHeartbeats 1000000 in
theorem szCs_one(x:CsD)(a1:Option Addr)(l1 c1:Nat)(a2:Option Addr)(l2 c2:Nat)(L:Int)(w:World)(h1:bo w 0 a1 l1 x.at_)(h2:bF w 0 a2 l2 x.ssn)(h0L:0≤L)(hL:L≤1048576):Calls Tryz.prog 79 #[.agg #[.int .i64 x.sfn,.slice a1 l1 c1,.slice a2 l2 c2],.int .i64 L] w fun e w'=>fV L (l1≤1048576∧(l2≤1048576∧∀y ∈ x.ssn,y.sm)) e∧Below w.heap.size w w':=by
 go_enter Tryz.func79,Tryz.ntmps79
 go_wp2_with fail
 refine(szIn_p a1 l1 c1 L _ h1.len.2 (by omega) (by omega)).mono ?_
 rintro e w0x ⟨⟨r0,rfl,hr⟩,hw⟩
 obtain rfl:=hw.symm
 clear hw
 rcases hr with rfl|⟨p0,q0,s0⟩
 ·go_wp2
  go_ret
  exact⟨⟨_,rfl,Or.inl rfl⟩,(ar)⟩
 go_wp2_with fail
 refine(szSn_p a2 l2 c2 x.ssn r0 _ (h2.below (ar)) (by omega) (by omega)).mono ?_
 rintro e y1 ⟨⟨r1,rfl,hr⟩,hb1⟩
 obtain⟨hc1,hf1,hs1⟩:=ac hb1
 have hz1:w.heap.size<y1.heap.size:=by have h9:=hb1.size;(try simp at h9);omega
 rcases hr with rfl|⟨p1,q1,s1⟩
 ·go_wp2
  go_ret
  exact⟨⟨_,rfl,Or.inl rfl⟩,(ar)⟩
 go_wp2
 go_ret
 exact⟨⟨_,rfl,Or.inr ⟨p1,by omega,s0,s1⟩⟩,(ar)⟩
set_option maxRecDepth 20000 in
set_option maxHeartbeats 2000000 in
theorem toCs_one(x:CsD)(a1:Option Addr)(l1 c1:Nat)(a2:Option Addr)(l2 c2:Nat)(w:World)(h1:bo w 0 a1 l1 x.at_)(h2:bF w 0 a2 l2 x.ssn)(m1:l1≤1048576)(m2:(l2≤1048576∧∀y ∈ x.ssn,y.sm)):Calls Tryz.prog 98 #[.agg #[.int .i64 x.sfn,.slice a1 l1 c1,.slice a2 l2 c2]] w fun e w'=>∃b1 b2,e= .returned (.agg #[.int .i64 x.sfn,.slice b1 l1 l1,.slice b2 l2 l2])∧bo w' w.heap.size b1 l1 x.at_∧bF w' w.heap.size b2 l2 x.ssn∧Below w.heap.size w w':=by
 go_enter Tryz.func98,Tryz.ntmps98
 go_wp2_with (first
  |(go_at_call 95;refine(toIn_b 0 a1 l1 c1 x.at_ _ (h1.below (ar)) m1).mono ?_;rintro e' w0 ⟨b1,rfl,H1,hb0⟩;obtain⟨hc0,hf0,hs0⟩:=ac hb0;have hz00:w.heap.size<w0.heap.size:=(by have h9:=hb0.size;(try simp at h9);omega);have hz01:w.heap.size+1<w0.heap.size:=(by have h9:=hb0.size;(try simp at h9);omega);have hz02:w.heap.size+1+1<w0.heap.size:=(by have h9:=hb0.size;(try simp at h9);omega))
  |(go_at_call 97;refine(toSn_b 0 a2 l2 c2 x.ssn _ (h2.below (ar)) m2).mono ?_;rintro e' w1 ⟨b2,rfl,H2,hb1⟩;obtain⟨hc1,hf1,hs1⟩:=ac hb1;have hz10:w.heap.size<w1.heap.size:=(by have h9:=hb1.size;(try simp at h9);omega);have hz11:w.heap.size+1<w1.heap.size:=(by have h9:=hb1.size;(try simp at h9);omega);have hz12:w.heap.size+1+1<w1.heap.size:=(by have h9:=hb1.size;(try simp at h9);omega)))
 have G1:bo w0 (w.heap.size+3) b1 l1 x.at_:=H1.less (iR)
 have G2:bF w1 (w.heap.size+3) b2 l2 x.ssn:=H2.less (iR)
 refine bodyPost_ret (v:= .agg #[.int .i64 x.sfn,.slice b1 l1 l1,.slice b2 l2 l2]) (by simp(maxDischargeDepth:=9) [results,Tryz.results98,go_sem, *]) rfl ⟨b1,b2,rfl,bo.less (B:=w.heap.size+3) ?_ (by omega),bF.less (B:=w.heap.size+3) ?_ (by omega),?_⟩
 ·repeat(first|(with_reducible exact G1)|(with_reducible refine bo.set ?_ (iR))|(with_reducible refine bo.below ?_ hb1))
 ·repeat(first|(with_reducible exact G2)|(with_reducible refine bF.set ?_ (iR)))
 ·exact(ar)
set_option maxRecDepth 20000 in
set_option maxHeartbeats 1000000 in
theorem eqCs_one(B1 B2:Nat)(x:CsD)(a1x a1y:Option Addr)(l1 c1x c1y:Nat)(a2x a2y:Option Addr)(l2 c2x c2y:Nat)(w:World)(h1x:bo w B1 a1x l1 x.at_)(h1y:bo w B2 a1y l1 x.at_)(h2x:bF w B1 a2x l2 x.ssn)(h2y:bF w B2 a2y l2 x.ssn):Calls Tryz.prog 116 #[.agg #[.int .i64 x.sfn,.slice a1x l1 c1x,.slice a2x l2 c2x],.agg #[.int .i64 x.sfn,.slice a1y l1 c1y,.slice a2y l2 c2y]] w fun e w'=>e= .returned (.bool true)∧Below w.heap.size w w':=by
 go_enter Tryz.func116,Tryz.ntmps116
 go_wp2_with (first
  |(go_at_call 113;refine(eqIn_b B1 B2 a1x a1y l1 c1x c1y x.at_ _ (h1x.below (ar)) (h1y.below (ar))).mono ?_;rintro e' w0 ⟨rfl,hb0⟩;obtain⟨hc0,hf0,hs0⟩:=ac hb0;have hz00:w.heap.size<w0.heap.size:=(by have h9:=hb0.size;(try simp at h9);omega);have hz01:w.heap.size+1<w0.heap.size:=(by have h9:=hb0.size;(try simp at h9);omega))
  |(go_at_call 115;refine(eqSn_b B1 B2 a2x a2y l2 c2x c2y x.ssn _ (h2x.below (ar)) (h2y.below (ar))).mono ?_;rintro e' w1 ⟨rfl,hb1⟩;obtain⟨hc1,hf1,hs1⟩:=ac hb1;have hz10:w.heap.size<w1.heap.size:=(by have h9:=hb1.size;(try simp at h9);omega);have hz11:w.heap.size+1<w1.heap.size:=(by have h9:=hb1.size;(try simp at h9);omega)))
 go_ret
 exact⟨rfl,(ar)⟩
set_option maxRecDepth 20000 in
set_option maxHeartbeats 1000000 in
theorem szCk_one(x:gP)(a2:Option Addr)(l2 c2:Nat)(a3:Option Addr)(l3 c3:Nat)(a4:Option Addr)(l4 c4:Nat)(a6:Option Addr)(l6 c6:Nat)(a7:Option Addr)(l7 c7:Nat)(L:Int)(w:World)(h2:bo w 0 a2 l2 x.src)(h3:dN w 0 a3 l3 x.tsk)(h4:bF w 0 a4 l4 x.sn)(h6:bo w 0 a6 l6 x.at_)(h7:bF w 0 a7 l7 x.ssn)(h0L:0≤L)(hL:L≤1048576):Calls Tryz.prog 38 #[.agg #[.int .i64 x.n,.bool x.op,.slice a2 l2 c2,.slice a3 l3 c3,.slice a4 l4 c4,.int .i64 x.sfn,.slice a6 l6 c6,.slice a7 l7 c7],.int .i64 L] w fun e w'=>fV L (l2≤1048576∧l3≤1048576∧(l4≤1048576∧∀y ∈ x.sn,y.sm)∧l6≤1048576∧(l7≤1048576∧∀y ∈ x.ssn,y.sm)) e∧Below w.heap.size w w':=by
 go_enter Tryz.func38,Tryz.ntmps38
 go_wp2_with fail
 refine(szIn_p a2 l2 c2 L _ h2.len.2 (by omega) (by omega)).mono ?_
 rintro e w0x ⟨⟨r0,rfl,hr⟩,hw⟩
 obtain rfl:=hw.symm
 clear hw
 rcases hr with rfl|⟨p0,q0,s0⟩
 ·go_wp2
  go_ret
  exact⟨⟨_,rfl,Or.inl rfl⟩,(ar)⟩
 go_wp2_with fail
 refine(szBo_p a3 l3 c3 r0 _ h3.len.2 (by omega) (by omega)).mono ?_
 rintro e w1x ⟨⟨r1,rfl,hr⟩,hw⟩
 obtain rfl:=hw.symm
 clear hw
 rcases hr with rfl|⟨p1,q1,s1⟩
 ·go_wp2
  go_ret
  exact⟨⟨_,rfl,Or.inl rfl⟩,(ar)⟩
 go_wp2_with fail
 refine(szSn_p a4 l4 c4 x.sn r1 _ (h4.below (ar)) (by omega) (by omega)).mono ?_
 rintro e y2 ⟨⟨r2,rfl,hr⟩,hb2⟩
 obtain⟨hc2,hf2,hs2⟩:=ac hb2
 have hz2:w.heap.size<y2.heap.size:=by have h9:=hb2.size;(try simp at h9);omega
 rcases hr with rfl|⟨p2,q2,s2⟩
 ·go_wp2
  go_ret
  exact⟨⟨_,rfl,Or.inl rfl⟩,(ar)⟩
 go_wp2_with fail
 refine(szCs_one ⟨x.sfn,x.at_,x.ssn⟩ a6 l6 c6 a7 l7 c7 r2 _ (h6.below (ar)) (h7.below (ar)) (by omega) (by omega)).mono ?_
 rintro e y3 ⟨⟨r3,rfl,hr⟩,hb3⟩
 obtain⟨hc3,hf3,hs3⟩:=ac hb3
 have hz3:w.heap.size<y3.heap.size:=by have h9:=hb3.size;(try simp at h9);omega
 rcases hr with rfl|⟨p3,q3,s3⟩
 ·go_wp2
  go_ret
  exact⟨⟨_,rfl,Or.inl rfl⟩,(ar)⟩
 go_wp2
 go_ret
 exact⟨⟨_,rfl,Or.inr ⟨p3,by omega,s0,s1,s2,s3.1,s3.2⟩⟩,(ar)⟩
set_option maxRecDepth 20000 in
set_option maxHeartbeats 2000000 in
theorem toCk_one(x:gP)(a2:Option Addr)(l2 c2:Nat)(a3:Option Addr)(l3 c3:Nat)(a4:Option Addr)(l4 c4:Nat)(a6:Option Addr)(l6 c6:Nat)(a7:Option Addr)(l7 c7:Nat)(w:World)(h2:bo w 0 a2 l2 x.src)(h3:dN w 0 a3 l3 x.tsk)(h4:bF w 0 a4 l4 x.sn)(h6:bo w 0 a6 l6 x.at_)(h7:bF w 0 a7 l7 x.ssn)(m2:l2≤1048576)(m3:l3≤1048576)(m4:(l4≤1048576∧∀y ∈ x.sn,y.sm))(m6:l6≤1048576)(m7:(l7≤1048576∧∀y ∈ x.ssn,y.sm)):Calls Tryz.prog 49 #[.agg #[.int .i64 x.n,.bool x.op,.slice a2 l2 c2,.slice a3 l3 c3,.slice a4 l4 c4,.int .i64 x.sfn,.slice a6 l6 c6,.slice a7 l7 c7]] w fun e w'=>∃b2 b3 b4 b6 b7,e= .returned (.agg #[.int .i64 x.n,.bool x.op,.slice b2 l2 l2,.slice b3 l3 l3,.slice b4 l4 l4,.int .i64 x.sfn,.slice b6 l6 l6,.slice b7 l7 l7])∧bo w' w.heap.size b2 l2 x.src∧dN w' w.heap.size b3 l3 x.tsk∧bF w' w.heap.size b4 l4 x.sn∧bo w' w.heap.size b6 l6 x.at_∧bF w' w.heap.size b7 l7 x.ssn∧Below w.heap.size w w':=by
 go_enter Tryz.func49,Tryz.ntmps49
 go_wp2_with (first
  |(go_at_call 95;refine(toIn_b 0 a2 l2 c2 x.src _ (h2.below (ar)) m2).mono ?_;rintro e' w0 ⟨b2,rfl,H2,hb0⟩;obtain⟨hc0,hf0,hs0⟩:=ac hb0;have hz00:w.heap.size<w0.heap.size:=(by have h9:=hb0.size;(try simp at h9);omega);have hz01:w.heap.size+1<w0.heap.size:=(by have h9:=hb0.size;(try simp at h9);omega);have hz02:w.heap.size+1+1<w0.heap.size:=(by have h9:=hb0.size;(try simp at h9);omega))
  |(go_at_call 96;refine(toBo_b 0 a3 l3 c3 x.tsk _ (h3.below (ar)) m3).mono ?_;rintro e' w1 ⟨b3,rfl,H3,hb1⟩;obtain⟨hc1,hf1,hs1⟩:=ac hb1;have hz10:w.heap.size<w1.heap.size:=(by have h9:=hb1.size;(try simp at h9);omega);have hz11:w.heap.size+1<w1.heap.size:=(by have h9:=hb1.size;(try simp at h9);omega);have hz12:w.heap.size+1+1<w1.heap.size:=(by have h9:=hb1.size;(try simp at h9);omega))
  |(go_at_call 97;refine(toSn_b 0 a4 l4 c4 x.sn _ (h4.below (ar)) m4).mono ?_;rintro e' w2 ⟨b4,rfl,H4,hb2⟩;obtain⟨hc2,hf2,hs2⟩:=ac hb2;have hz20:w.heap.size<w2.heap.size:=(by have h9:=hb2.size;(try simp at h9);omega);have hz21:w.heap.size+1<w2.heap.size:=(by have h9:=hb2.size;(try simp at h9);omega);have hz22:w.heap.size+1+1<w2.heap.size:=(by have h9:=hb2.size;(try simp at h9);omega))
  |(go_at_call 98;refine(toCs_one ⟨x.sfn,x.at_,x.ssn⟩ a6 l6 c6 a7 l7 c7 _ (h6.below (ar)) (h7.below (ar)) m6 m7).mono ?_;rintro e' w3 ⟨b6,b7,rfl,H6,H7,hb3⟩;obtain⟨hc3,hf3,hs3⟩:=ac hb3;have hz30:w.heap.size<w3.heap.size:=(by have h9:=hb3.size;(try simp at h9);omega);have hz31:w.heap.size+1<w3.heap.size:=(by have h9:=hb3.size;(try simp at h9);omega);have hz32:w.heap.size+1+1<w3.heap.size:=(by have h9:=hb3.size;(try simp at h9);omega)))
 have G2:bo w0 (w.heap.size+3) b2 l2 x.src:=H2.less (iR)
 have G3:dN w1 (w.heap.size+3) b3 l3 x.tsk:=H3.less (iR)
 have G4:bF w2 (w.heap.size+3) b4 l4 x.sn:=H4.less (iR)
 have G6:bo w3 (w.heap.size+3) b6 l6 x.at_:=H6.less (iR)
 have G7:bF w3 (w.heap.size+3) b7 l7 x.ssn:=H7.less (iR)
 refine bodyPost_ret (v:= .agg #[.int .i64 x.n,.bool x.op,.slice b2 l2 l2,.slice b3 l3 l3,.slice b4 l4 l4,.int .i64 x.sfn,.slice b6 l6 l6,.slice b7 l7 l7]) (by simp(maxDischargeDepth:=9) [results,Tryz.results49,go_sem, *]) rfl ⟨b2,b3,b4,b6,b7,rfl,bo.less (B:=w.heap.size+3) ?_ (by omega),dN.less (B:=w.heap.size+3) ?_ (by omega),bF.less (B:=w.heap.size+3) ?_ (by omega),bo.less (B:=w.heap.size+3) ?_ (by omega),bF.less (B:=w.heap.size+3) ?_ (by omega),?_⟩
 ·repeat(first|(with_reducible exact G2)|(with_reducible refine bo.set ?_ (iR))|(with_reducible refine bo.below ?_ hb3)|(with_reducible refine bo.below ?_ hb2)|(with_reducible refine bo.below ?_ hb1))
 ·repeat(first|(with_reducible exact G3)|(with_reducible refine dN.set ?_ (iR))|(with_reducible refine dN.below ?_ hb3)|(with_reducible refine dN.below ?_ hb2))
 ·repeat(first|(with_reducible exact G4)|(with_reducible refine bF.set ?_ (iR))|(with_reducible refine bF.below ?_ hb3))
 ·repeat(first|(with_reducible exact G6)|(with_reducible refine bo.set ?_ (iR)))
 ·repeat(first|(with_reducible exact G7)|(with_reducible refine bF.set ?_ (iR)))
 ·exact(ar)
set_option maxRecDepth 20000 in
set_option maxHeartbeats 1000000 in
theorem eqCk_one(B1 B2:Nat)(x:gP)(a2x a2y:Option Addr)(l2 c2x c2y:Nat)(a3x a3y:Option Addr)(l3 c3x c3y:Nat)(a4x a4y:Option Addr)(l4 c4x c4y:Nat)(a6x a6y:Option Addr)(l6 c6x c6y:Nat)(a7x a7y:Option Addr)(l7 c7x c7y:Nat)(w:World)(h2x:bo w B1 a2x l2 x.src)(h2y:bo w B2 a2y l2 x.src)(h3x:dN w B1 a3x l3 x.tsk)(h3y:dN w B2 a3y l3 x.tsk)(h4x:bF w B1 a4x l4 x.sn)(h4y:bF w B2 a4y l4 x.sn)(h6x:bo w B1 a6x l6 x.at_)(h6y:bo w B2 a6y l6 x.at_)(h7x:bF w B1 a7x l7 x.ssn)(h7y:bF w B2 a7y l7 x.ssn):Calls Tryz.prog 60 #[.agg #[.int .i64 x.n,.bool x.op,.slice a2x l2 c2x,.slice a3x l3 c3x,.slice a4x l4 c4x,.int .i64 x.sfn,.slice a6x l6 c6x,.slice a7x l7 c7x],.agg #[.int .i64 x.n,.bool x.op,.slice a2y l2 c2y,.slice a3y l3 c3y,.slice a4y l4 c4y,.int .i64 x.sfn,.slice a6y l6 c6y,.slice a7y l7 c7y]] w fun e w'=>e= .returned (.bool true)∧Below w.heap.size w w':=by
 go_enter Tryz.func60,Tryz.ntmps60
 go_wp2_with (first
  |(go_at_call 113;refine(eqIn_b B1 B2 a2x a2y l2 c2x c2y x.src _ (h2x.below (ar)) (h2y.below (ar))).mono ?_;rintro e' w0 ⟨rfl,hb0⟩;obtain⟨hc0,hf0,hs0⟩:=ac hb0;have hz00:w.heap.size<w0.heap.size:=(by have h9:=hb0.size;(try simp at h9);omega);have hz01:w.heap.size+1<w0.heap.size:=(by have h9:=hb0.size;(try simp at h9);omega))
  |(go_at_call 114;refine(eqBo_b B1 B2 a3x a3y l3 c3x c3y x.tsk _ (h3x.below (ar)) (h3y.below (ar))).mono ?_;rintro e' w1 ⟨rfl,hb1⟩;obtain⟨hc1,hf1,hs1⟩:=ac hb1;have hz10:w.heap.size<w1.heap.size:=(by have h9:=hb1.size;(try simp at h9);omega);have hz11:w.heap.size+1<w1.heap.size:=(by have h9:=hb1.size;(try simp at h9);omega))
  |(go_at_call 115;refine(eqSn_b B1 B2 a4x a4y l4 c4x c4y x.sn _ (h4x.below (ar)) (h4y.below (ar))).mono ?_;rintro e' w2 ⟨rfl,hb2⟩;obtain⟨hc2,hf2,hs2⟩:=ac hb2;have hz20:w.heap.size<w2.heap.size:=(by have h9:=hb2.size;(try simp at h9);omega);have hz21:w.heap.size+1<w2.heap.size:=(by have h9:=hb2.size;(try simp at h9);omega))
  |(go_at_call 116;refine(eqCs_one B1 B2 ⟨x.sfn,x.at_,x.ssn⟩ a6x a6y l6 c6x c6y a7x a7y l7 c7x c7y _ (h6x.below (ar)) (h6y.below (ar)) (h7x.below (ar)) (h7y.below (ar))).mono ?_;rintro e' w3 ⟨rfl,hb3⟩;obtain⟨hc3,hf3,hs3⟩:=ac hb3;have hz30:w.heap.size<w3.heap.size:=(by have h9:=hb3.size;(try simp at h9);omega);have hz31:w.heap.size+1<w3.heap.size:=(by have h9:=hb3.size;(try simp at h9);omega)))
 go_ret
 exact⟨rfl,(ar)⟩
end Go.Proofs.YtiilbnjjhgcjdaaGreat
