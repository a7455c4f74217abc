/- Laid together: what the claim needs of the texts that were built one by one. -/
import Derived.Test.YtealpjmannopeaaGreatV2
import Derived.Test.YtealpjmannopeaaGreatV0
import Derived.Test.YtealpjmannopeaaGreatV1
import Derived.Deep.Slices
import Derived.Lib.SmallJoins
import Derived.OwnWalk
import Derived.WalkSpells
import Derived.Deep.RegionHeld3
set_option linter.unusedVariables false
namespace Go.Proofs.YtealpjmannopeaaGreat
open Go.ChangeShapes Go.WideShapes Go.ChangeAt Go.RowKit Go.Deep
/-- A channel. -/
structure bF where
 q:List cJ
 ma:Int
 hd:Bool
/-- A channel lies in its cells, its items in a block that is not below B; channels lie one behind the other; a slice's value holds channels. -/
def eK(W:World)(B g o:Nat)(x:bF):Prop:=∃a len cap,W.cell? ⟨g,o,none⟩=some (.slice a len cap)∧W.cell? ⟨g,o+1,none⟩=some (.int .i64 x.ma)∧W.cell? ⟨g,o+2,none⟩=some (.bool x.hd)∧cD W a len x.q∧∀g' o',0<len→a=some ⟨g',o',none⟩→BG W B g'
def cX(W:World)(B:Nat)(a:Option Addr)(len:Nat)(xs:List bF):Prop:=xs.length=len∧len≤maxLen∧(len=0∨∃g o,a=some ⟨g,o,none⟩∧BG W B g∧∀i x,xs[i]? =some x→eK W B g (o+i*3) x)
theorem eK.lt{W:World}{B g o:Nat}{x:bF}(h:eK W B g o x):g<W.heap.size:=by
 obtain⟨a,len,cap,h0,_⟩:=h
 exact aA h0
theorem eK.below{W W':World}{B g o:Nat}{x:bF}(h:eK W B g o x)(hb:Below W.heap.size W W'):eK W' B g o x:=by
 have hg:=h.lt
 obtain⟨a,len,cap,h0,h1,h2,h3,h4⟩:=h
 exact⟨a,len,cap,(hb.cell (p:=⟨g,_,none⟩) hg).trans h0,(hb.cell (p:=⟨g,_,none⟩) hg).trans h1,(hb.cell (p:=⟨g,_,none⟩) hg).trans h2,h3.below hb,fun g' o' hp ha=>(h4 g' o' hp ha).below hb⟩
theorem eK.less{W:World}{B B' g o:Nat}{x:bF}(h:eK W B g o x)(hB:B'≤B):eK W B' g o x:=by
 obtain⟨a,len,cap,h0,h1,h2,h3,h4⟩:=h
 exact⟨a,len,cap,h0,h1,h2,h3,fun g' o' hp ha=>(h4 g' o' hp ha).less hB⟩
theorem eK.set{W:World}{B g o:Nat}{p:Addr}{v:Value}{x:bF}(h:eK W B g o x)(hg:p.block≠g)(hp:p.block<B):eK (W.setCell p v) B g o x:=by
 obtain⟨a,len,cap,h0,h1,h2,h3,h4⟩:=h
 exact⟨a,len,cap,(aG hg).trans h0,(aG hg).trans h1,(aG hg).trans h2,h3.grown (cf p v) (fun g' o' hn ha=>by have:=(h4 g' o' hn ha).1;simp;omega),fun g' o' hn ha=>(h4 g' o' hn ha).set hp⟩
theorem cX.below{W W':World}{B:Nat}{a:Option Addr}{len:Nat}{xs:List bF}(h:cX W B a len xs)(hb:Below W.heap.size W W'):cX W' B a len xs:=by
 obtain⟨h1,h2,h3⟩:=h
 refine⟨h1,h2,?_⟩
 rcases h3 with h3|⟨g,o,ha,hB,hr⟩
 ·exact Or.inl h3
 ·exact Or.inr ⟨g,o,ha,hB.below hb,fun i x hx=>(hr i x hx).below hb⟩
theorem cX.less{W:World}{B B':Nat}{a:Option Addr}{len:Nat}{xs:List bF}(h:cX W B a len xs)(hB:B'≤B):cX W B' a len xs:=by
 obtain⟨h1,h2,h3⟩:=h
 refine⟨h1,h2,?_⟩
 rcases h3 with h3|⟨g,o,ha,hb,hr⟩
 ·exact Or.inl h3
 ·exact Or.inr ⟨g,o,ha,hb.less hB,fun i x hx=>(hr i x hx).less hB⟩
theorem cX.set{W:World}{B:Nat}{p:Addr}{v:Value}{a:Option Addr}{len:Nat}{xs:List bF}(h:cX W B a len xs)(hp:p.block<B):cX (W.setCell p v) B a len xs:=by
 obtain⟨h1,h2,h3⟩:=h
 refine⟨h1,h2,?_⟩
 rcases h3 with h3|⟨g,o,ha,hb,hr⟩
 ·exact Or.inl h3
 ·exact Or.inr ⟨g,o,ha,hb.set hp,fun i x hx=>(hr i x hx).set (by have:=hb.1;omega) hp⟩
/-- A block of channels, known whole; one that is being filled. -/
def ik(W:World)(g o:Nat)(v0 v1 v2:Value):World:=(((W.setCell ⟨g,o,none⟩ v0).setCell ⟨g,o+1,none⟩ v1).setCell ⟨g,o+2,none⟩ v2)
def cY(W:World)(g ty len:Nat):Prop:=∃cur,W.heap[g]? =some (.cells cur ty (0,0))∧cur.size=len*3
theorem cY.set{W:World}{g ty len i:Nat}(h:cY W g ty len)(v:Value):cY (W.setCell ⟨g,i,none⟩ v) g ty len:=by
 obtain⟨cur,h1,h2⟩:=h
 exact⟨_,Joins.block_setCell h1 v,by simp[h2]⟩
theorem cY.below{W W':World}{g ty len B:Nat}(h:cY W g ty len)(hb:Below B W W')(hg:g<B):cY W' g ty len:=by
 obtain⟨cur,h1,h2⟩:=h
 exact⟨cur,(hb.block g hg).trans h1,h2⟩
theorem cY.lt{W:World}{g ty len:Nat}(h:cY W g ty len):g<W.heap.size:=by
 obtain⟨cur,h1,h2⟩:=h
 exact(Array.getElem?_eq_some_iff.1 h1).1
theorem cY.cell{W:World}{g ty len i:Nat}(h:cY W g ty len)(hi:i<len*3):∃u,W.cell? ⟨g,i,none⟩=some u:=by
 obtain⟨cur,h1,h2⟩:=h
 exact⟨_,(cA h1 i).trans (Array.getElem?_eq_getElem (by omega))⟩
theorem cY.frozen{W:World}{g ty len i:Nat}(h:cY W g ty len):W.frozen? ⟨g,i,none⟩=false:=by
 obtain⟨cur,h1,h2⟩:=h
 exact Joins.unfrozen_of_block h1 i
theorem cY.cells{W:World}{g ty len k:Nat}(h:cY W g ty len)(hk:k<len):(∃u,W.cell? ⟨g,k*3,none⟩=some u)∧(∃u,W.cell? ⟨g,k*3+1,none⟩=some u)∧(∃u,W.cell? ⟨g,k*3+2,none⟩=some u):=⟨h.cell (by omega),h.cell (by omega),h.cell (by omega)⟩
theorem iQ{W:World}{g ty len i:Nat}{v:Value}(h:cY W g ty len)(hi:i<len*3):(W.setCell ⟨g,i,none⟩ v).cell? ⟨g,i,none⟩=some v:=by
 obtain⟨u,hu⟩:=h.cell hi
 exact World.cell?_setCell_same _ _ _ hu
theorem cD.setT{W:World}{g o:Nat}{v:Value}{a:Option Addr}{len:Nat}{q:List cJ}(h:cD W a len q)(h4:∀g' o',0<len→a=some ⟨g',o',none⟩→g<g'):cD (W.setCell ⟨g,o,none⟩ v) a len q:=h.grown (cf _ v) (fun g' o' hn ha=>by have:=h4 g' o' hn ha;simp;omega)
theorem setTi_this{W:World}{g ty len k:Nat}{x:bF}{a:Option Addr}{l c:Nat}(h:cY W g ty len)(hk:k<len)(hq:cD W a l x.q)(h4:∀g' o',0<l→a=some ⟨g',o',none⟩→BG W (g+1) g'):eK (ik W g (k*3) (.slice a l c) (.int .i64 x.ma) (.bool x.hd)) (g+1) g (k*3) x:=by
 unfold ik
 have h5:∀g' o',0<l→a=some ⟨g',o',none⟩→g<g':=fun g' o' hp ha=>(h4 g' o' hp ha).1
 refine⟨a,l,c,?_,?_,?_,((hq.setT h5).setT h5).setT h5,fun g' o' hp ha=>(((h4 g' o' hp ha).set (by simp)).set (by simp)).set (by simp)⟩
 ·rw[am (by omega),am (by omega),iQ h (by omega)]
 ·rw[am (by omega),iQ (h.set _) (by omega)]
 ·rw[iQ ((h.set _).set _) (by omega)]
theorem setTi_ne{W:World}{g i k:Nat}{y:bF}{v0 v1 v2:Value}(h:eK W (g+1) g (i*3) y)(hk:i≠k):eK (ik W g (k*3) v0 v1 v2) (g+1) g (i*3) y:=by
 unfold ik
 obtain⟨a,len,cap,h0,h1,h2,h3,h4⟩:=h
 have h5:∀g' o',0<len→a=some ⟨g',o',none⟩→g<g':=fun g' o' hp ha=>(h4 g' o' hp ha).1
 refine⟨a,len,cap,?_,?_,?_,((h3.setT h5).setT h5).setT h5,fun g' o' hp ha=>(((h4 g' o' hp ha).set (by simp)).set (by simp)).set (by simp)⟩
 ·rw[am (by omega),am (by omega),am (by omega)];exact h0
 ·rw[am (by omega),am (by omega),am (by omega)];exact h1
 ·rw[am (by omega),am (by omega),am (by omega)];exact h2
def er(W:World)(g ty len:Nat)(ys:List bF):Prop:=cY W g ty len∧∀i x,ys[i]? =some x→eK W (g+1) g (i*3) x
theorem er.step{wr w':World}{g ty len k:Nat}{xs:List bF}{x:bF}{a:Option Addr}{l c:Nat}(h:er wr g ty len (xs.take k))(hb:Below wr.heap.size wr w')(hk:k<len)(hx:xs[k]? =some x)(hq:cD w' a l x.q)(h4:∀g' o',0<l→a=some ⟨g',o',none⟩→BG w' (g+1) g'):er (ik w' g (k*3) (.slice a l c) (.int .i64 x.ma) (.bool x.hd)) g ty len (xs.take (k+1)):=by
 have hB:=h.1.below hb h.1.lt
 refine⟨((hB.set _).set _).set _,fun i y hy=>?_⟩
 have hik:i<k+1:=by
  rcases Nat.lt_or_ge i (k+1)with h'|h'
  ·exact h'
  ·rw[List.getElem?_eq_none (jk)]at hy;cases hy
 rw[List.getElem?_take_of_lt hik]at hy
 by_cases he:i=k
 ·subst he
  rw[hx]at hy
  cases hy
  exact setTi_this hB hk hq h4
 ·refine setTi_ne ?_ he
  exact(h.2 i y (by rw[List.getElem?_take_of_lt (by omega)];exact hy)).below hb
theorem er.start{w:World}{ty len:Nat}{C:Array Value}(hC:C.size=len*3)(xs:List bF):er (w.alloc (.cells C ty)) w.heap.size ty len (xs.take 0):=
 ⟨⟨C,by show(w.heap.push _)[w.heap.size]? =_;simp,hC⟩,fun i x h=>by simp at h⟩
theorem er.done{W:World}{g ty len k:Nat}{xs:List bF}(h:er W g ty len (xs.take k))(hk:xs.length≤k)(hl:xs.length=len)(hm:len≤maxLen):cX W g (some ⟨g,0,none⟩) len xs:=by
 refine⟨hl,hm,Or.inr ⟨g,0,rfl,(by obtain⟨c9,e9,_⟩:=h.1;exact BG.of (Nat.le_refl _) e9),fun i x hx=>?_⟩⟩
 rw[List.take_of_length_le hk]at h
 have:=(h.2 i x hx).less (B':=g) (by omega)
 simpa using this
theorem below_setTi{B g o:Nat}{W W':World}{v0 v1 v2:Value}(h:Below B W W')(hg:B≤g):Below B W (ik W' g o v0 v1 v2):=((h.setCell hg _).setCell hg _).setCell hg _
section
variable {H : Type} {enc : TypeId × Value → H} {P : Program} {w : World} {base : Nat} {spare : Nat → Bool} {held : Bool}
def bF.ok64(x:bF):Prop:=(-9223372036854775808≤x.ma∧x.ma≤9223372036854775807)∧∀y ∈ x.q,y.ok64
theorem cellsTi{a:Addr}{cs:List Value}{tq:TypeId}{e:TypeId}(htq:P.underlying tq=some (.slice e))(hk2:bf P 5 e=some [false,false,false,false,false])(hC2:P.cellsOf e=5)(h:w.cells? base a 3=some cs)(f0:cc enc P w base spare held cs [.s tq,.i,.b]):a.spot=none∧∃x:bF,eK w 0 a.block a.off x∧x.ok64:=by
 obtain⟨qa,ql,qc,d,p,r0,rfl,y0,f1⟩:=fitT_s f0
 obtain⟨z1,r1,rfl,y1,f2⟩:=fitT_i f1
 obtain⟨z2,r2,rfl,f3⟩:=fitT_b f2
 obtain rfl:=fitT_nil f3
 clear f0 f1 f2 f3
 obtain⟨q,hq,hqo⟩:=openIw htq hk2 hC2 y0
 obtain⟨_,hlen,hc⟩:=World.cells?_some h
 have c0:=hc 0 (by omega)
 have c1:=hc 1 (by omega)
 have c2:=hc 2 (by omega)
 obtain⟨g,o,sp⟩:=a
 have ha0:(⟨g,o,sp⟩:Addr).add 0=⟨g,o,sp⟩:=by simp[Addr.add]
 have hsp:sp=none:=World.cell?_spot (w:=w) (a:=⟨g,o,sp⟩) (v:= .slice qa ql qc) (by rw[←ha0];simpa using c0)
 subst hsp
 exact⟨rfl,⟨q,z1,z2⟩,⟨qa,ql,qc,by simpa[Addr.add]using c0,by simpa[Addr.add]using c1,by simpa[Addr.add]using c2,hq,fun g9 _ _ _=>BG.zero _ g9⟩,aW y1,hqo⟩
theorem openTi{t e tq eq:TypeId}{a:Option Addr}{len cap:Nat}{d:DataW H}{p:List MemPlace}(ht:P.underlying t=some (.slice e))(hk:dr P 5 e=some [.s tq,.i,.b])(hC:P.cellsOf e=3)(htq:P.underlying tq=some (.slice eq))(hk2:bf P 5 eq=some [false,false,false,false,false])(hC2:P.cellsOf eq=5)
  (h:DataW.Trod enc P w base spare held t (.slice a len cap) d p):∃xs:List bF,cX w 0 a len xs∧∀x ∈ xs,x.ok64:=by
 obtain⟨fuel,hf⟩:=h
 rcases open_slice ht hf with⟨hcs,_⟩|⟨a',len',cap',m,n,D,Pl,hcs,_,hl,hm,hmm,_,hx⟩
 ·simp[Value.cells]at hcs
  obtain⟨rfl,rfl,rfl⟩:=hcs
  exact⟨[],⟨rfl,Nat.zero_le _,Or.inl rfl⟩,by simp⟩
 ·simp[Value.cells]at hcs
  obtain⟨rfl,rfl,rfl⟩:=hcs
  have hlm:len≤m:=by rw[hmm];split<;>omega
  have hall:∀i,i<len→∃x:bF,(i=0→a'.spot=none)∧eK w 0 a'.block (a'.off+i*3) x∧x.ok64:=by
   intro i hi
   obtain⟨cs',h1,h2⟩:=hx i (by omega)
   rw[hC]at h1
   obtain⟨hsp,x,hxa,hxo⟩:=cellsTi htq hk2 hC2 h1 (cy 5 hk h2)
   have hb:(a'.add (i*3)).block=a'.block∧(a'.add (i*3)).off=a'.off+i*3:=by
    unfold Addr.add
    split
    ·exact⟨rfl,by omega⟩
    ·exact⟨rfl,rfl⟩
   rw[hb.1,hb.2]at hxa
   refine⟨x,fun h0=>?_,hxa,hxo⟩
   subst h0
   simpa[Addr.add]using hsp
  by_cases h0:len=0
  ·subst h0
   exact⟨[],⟨rfl,Nat.zero_le _,Or.inl rfl⟩,by simp⟩
  have hinh:Inhabited bF:=⟨⟨[],0,false⟩⟩
  obtain⟨f,hf'⟩:=choose_lt hall
  have hsp:=(hf' 0 (by omega)).1 rfl
  refine⟨(List.range len).map f,⟨by simp,by omega,Or.inr ⟨a'.block,a'.off,by cases a';simp_all,BG.zero _ _,?_⟩⟩,?_⟩
  ·intro i x hix
   simp only[List.getElem?_map,Option.map_eq_some_iff]at hix
   obtain⟨j,hj,rfl⟩:=hix
   have hil:i<len:=by
    rcases Nat.lt_or_ge i len with h'|h'
    ·exact h'
    ·rw[List.getElem?_eq_none (by simpa using h')]at hj;cases hj
   rw[List.getElem?_eq_getElem (by simpa using hil)]at hj
   simp at hj
   subst hj
   exact(hf' i hil).2.1
  ·intro x hxm
   simp only[List.mem_map,List.mem_range]at hxm
   obtain⟨i,hi,rfl⟩:=hxm
   exact(hf' i hi).2.2
end
/-- How many elements there are, in all of it. -/
def eL:List bF→Nat
 | []=>0
 |x :: xs=>(1+(x.q.length))+eL xs
theorem cTi_app(xs ys:List bF):eL (xs++ys)=eL xs+eL ys:=by
 induction xs with
 |nil=>simp[eL]
 |cons x xs ih=>
  show(1+(x.q.length))+eL (xs++ys)=(1+(x.q.length))+eL xs+eL ys
  omega
theorem cTi_take{xs:List bF}{i:Nat}{x:bF}(h:xs[i]? =some x):eL (xs.take (i+1))=eL (xs.take i)+(1+(x.q.length)):=by
 rw[List.take_add_one,h,cTi_app]
 simp[eL]
theorem cTi_0(xs:List bF):eL (xs.take 0)=0:=by simp[eL]
theorem szTi_one(x:bF)(a:Option Addr)(len cap:Nat)(L:Int)(w:World)(h:len≤maxLen)(h0:0≤L)(hL:L≤1048576):Calls Tryz.prog 141 #[.agg #[.slice a len cap,.int .i64 x.ma,.bool x.hd],.int .i64 L] w fun e w'=>gn (L - ((len:Nat):Int)) (len≤1048576) e∧Below w.heap.size w w':=by
 go_enter Tryz.func141,Tryz.ntmps141
 go_wp2_with fail
 refine(szIw_p a len cap L _ h h0 hL).mono ?_
 rintro e w1 ⟨⟨r,rfl,hr⟩,hw⟩
 obtain rfl:=hw.symm
 clear hw
 rcases hr with rfl|⟨h2,h3,h4⟩
 ·go_wp2
  go_ret
  exact⟨⟨_,rfl,Or.inl rfl⟩,(ar)⟩
 ·go_wp2
  go_ret
  exact⟨⟨_,rfl,Or.inr ⟨h2,h3,h4⟩⟩,(ar)⟩
set_option maxRecDepth 20000 in
set_option maxHeartbeats 1000000 in
theorem szTi_any(a:Option Addr)(len cap:Nat)(xs:List bF)(L:Int)(w:World)(h:cX w 0 a len xs)(h0:0≤L)(hL:L≤1048576):Calls Tryz.prog 97 #[.slice a len cap,.int .i64 L] w fun e w'=>gn (L - (eL xs:Int)) (len≤1048576∧∀x ∈ xs,x.q.length≤1048576) e∧Below w.heap.size w w':=by
 have hm:=h.2.1
 unfold maxLen at hm
 by_cases h1:(len:Int)≤L
 ·go_enter Tryz.func97,Tryz.ntmps97
  go_wp2
  go_loopw [1,5] (fun lv i wr=>∃(k:Nat) (l:Int),k≤len∧i= .int .i64 k∧lv= .int .i64 l∧0≤l∧l≤L - (eL (xs.take k):Int) - ((len:Int) - (k:Int))∧(∀i x,i<k→xs[i]? =some x→x.q.length≤1048576)∧Below w.heap.size w wr) (fun _ i _=>len - (intOf i).toNat)
  case atStart=>exact⟨0,_,Nat.zero_le _,rfl,rfl,by omega,by have:=cTi_0 xs;omega,fun i x hi=>absurd hi (by omega),Below.refl _ _⟩
  case round=>
   obtain⟨k,l,hk,rfl,rfl,hl0,hl1,hq,hbw⟩:=hrel
   by_cases hlt:k<len
   ·obtain⟨hxl,hml,hx⟩:=h
    obtain⟨g,o,rfl,_,hr⟩:=hx.resolve_left (by omega)
    obtain⟨x,hxk⟩:∃x,xs[k]? =some x:=⟨_,List.getElem?_eq_getElem (by omega)⟩
    have hX:=ab hxk
    have hct:=ab (cTi_take hxk)
    have hkl:((k+1:Nat):Int)=(k:Int)+1:=by omega
    have hKL:=ab hkl
    clear hkl
    have HQ:=ab hq
    obtain⟨qa,ql,qc,c0,c1,c2,hqi,_⟩:=(hr k _ hxk).below hbw
    have hqm:=hqi.2.1
    have hql:=hqi.1
    have hcl:=ab (And.intro hxl (show x.q.length=ql from hql))
    clear hx hxk hr hq hqi
    go_wp2_with fail
    refine(szTi_one x qa ql qc l _ hqm hl0 (by omega)).mono ?_
    rintro e w1 ⟨⟨r,rfl,hr⟩,hb⟩
    rcases hr with rfl|⟨h2,h3,h4⟩
    ·go_wp2
     go_ret
     exact⟨⟨_,rfl,Or.inl rfl⟩,(ar)⟩
    ·have HC:Hid (r≤L - (eL (xs.take (k+1)):Int) - ((len:Int) - ((k+1:Nat):Int))):=ab (by
      have h8:=aa hct
      obtain⟨_,f0⟩:=aa hcl
      omega)
     clear hct hcl hKL h3
     go_wp2
     go_roundw
     case rel=>
      refine⟨k+1,r,by omega,by go_num,rfl,h2,aa HC,fun i y hi hy=>?_,(ar)⟩
      by_cases he:i=k
      ·subst he
       rw[aa hX]at hy
       cases hy
       omega
      ·exact aa HQ i y (by omega) hy
     case measure=>simp[intOf];omega
   ·go_wp2
    go_ret
    refine⟨⟨_,rfl,Or.inr ⟨hl0,(by have h9:=hl1;rw[List.take_of_length_le (by have:=h.1;omega)]at h9;omega),by omega,fun x hx=>?_⟩⟩,hbw⟩
    obtain⟨i,hi,rfl⟩:=List.getElem_of_mem hx
    exact hq i _ (by have:=h.1;omega) (List.getElem?_eq_getElem hi)
 ·go_enter Tryz.func97,Tryz.ntmps97
  go_wp2
  go_ret
  exact⟨⟨_,rfl,Or.inl rfl⟩,Below.refl _ _⟩
set_option maxRecDepth 20000 in
set_option maxHeartbeats 1000000 in
theorem toTi_one(x:bF)(a:Option Addr)(len cap:Nat)(w:World)(h:cD w a len x.q)(hl:len≤1048576):Calls Tryz.prog 148 #[.agg #[.slice a len cap,.int .i64 x.ma,.bool x.hd]] w fun e w'=>∃a',e= .returned (.agg #[.slice a' len len,.int .i64 x.ma,.bool x.hd])∧cD w' a' len x.q∧(∀g o,0<len→a'=some ⟨g,o,none⟩→BG w' w.heap.size g)∧Below w.heap.size w w':=by
 go_enter Tryz.func148,Tryz.ntmps148
 go_wp2_with (go_at_call 66;refine(toIw_any a len cap x.q _ (h.below (ar)) hl).mono ?_;rintro e' w' ⟨a',rfl,H,R,ge,hb⟩;obtain⟨hc,hf,hs⟩:=ac hb;have hz0:w.heap.size+1<w'.heap.size:=(zB hb);have hz1:w.heap.size+1+1<w'.heap.size:=(zB hb))
 have ge':∀g o,0<len→a'=some ⟨g,o,none⟩→w.heap.size+1+1<g:=fun g o hp ha=>by have:=ge g o hp ha;simp at this;omega
 refine bodyPost_ret (v:= .agg #[.slice a' len len,.int .i64 x.ma,.bool x.hd]) (by simp(maxDischargeDepth:=9) [results,Tryz.results148,go_sem, *]) rfl ⟨a',rfl,?_,fun g o hp ha=>?_,?_⟩
 ·repeat(first|(with_reducible exact H)|with_reducible refine cD.setT ?_ (fun g o hp ha=>by have:=ge' g o hp ha;(try simp);omega))
 ·have hg9:=ge' g o hp ha
  have hB9:BG w' (w.heap.size+1+1+1) g:=by
   rcases R with h0|⟨g2,e2,⟨c2,h2,_⟩,_⟩
   ·omega
   ·rw[e2]at ha
    cases ha
    exact BG.of (by omega) h2
  refine BG.less (B:=w.heap.size+1+1+1) ?_ (by omega)
  repeat(first|(with_reducible exact hB9)|refine BG.set ?_ (sA))
 ·exact(ar)
theorem Tryz.infoTi:(Tryz.prog.info? 192).map (fun i=>(i.zero,i.size,i.bytes))=some (some (.agg #[.slice none 0 0,.int .i64 0,.bool false]),3,40):=by kernel_rfl
theorem mkTi(len:Nat)(hl:len≤1048576):∃C:Array Value,C.size=len*3∧∀w:World,(Instr.makeSlice 133 (.int .i64 (len:Int)) (.int .i64 (len:Int))).run Tryz.prog w= .ok (.slice (some ⟨w.heap.size,0,none⟩) len len) (w.alloc (.cells C 192)):=by
 obtain⟨i0,hi,hz0,hz1,hz2⟩:=info_parts Tryz.infoTi
 refine⟨madeCells (Value.agg #[.slice none 0 0,.int .i64 0,.bool false]).cells (len*i0.size),by rw[size_madeCells,hz1],fun w=>?_⟩
 have h:=run_make (P:=Tryz.prog) w 133 192 i0 _ Tryz.underlying133 hi hz0 .i64 .i64 len len (by omega) (Int.le_refl _) (by rw[hz2];omega) (by omega)
 simpa using h
set_option maxRecDepth 20000 in
set_option maxHeartbeats 1000000 in
theorem toTi_any(a:Option Addr)(len cap:Nat)(xs:List bF)(w:World)(h:cX w 0 a len xs)(hl:len≤1048576)(hq:∀x ∈ xs,x.q.length≤1048576):Calls Tryz.prog 116 #[.slice a len cap] w fun e w'=>∃a',e= .returned (.slice a' len len)∧cX w' w.heap.size a' len xs∧Below w.heap.size w w':=by
 obtain⟨C,hC,hmk⟩:=mkTi len hl
 go_enter Tryz.func116,Tryz.ntmps116
 go_wp2
 go_loopw [4] (fun i wr=>∃k:Nat,k≤len∧i= .int .i64 k∧er wr w.heap.size 192 len (xs.take k)∧Below w.heap.size w wr) (fun i _=>len - (intOf i).toNat)
 case atStart=>exact⟨0,Nat.zero_le _,rfl,er.start hC xs,ai _ _⟩
 case round=>
  obtain⟨k,hk,rfl,hF,hbw⟩:=hrel
  by_cases hlt:k<len
  ·obtain⟨hxl,hml,hx⟩:=h
   obtain⟨g,o,rfl,_,hr⟩:=hx.resolve_left (by omega)
   obtain⟨x,hxk⟩:∃x,xs[k]? =some x:=⟨_,List.getElem?_eq_getElem (by omega)⟩
   have hX:=ab hxk
   have hqk:=hq x (List.mem_of_getElem? hxk)
   obtain⟨qa,ql,qc,c0,c1,c2,hqi,_⟩:=(hr k _ hxk).below hbw
   have hql:ql≤1048576:=by have:=hqi.1;omega
   obtain⟨⟨u0,d0⟩,⟨u1,d1⟩,⟨u2,d2⟩⟩:=hF.1.cells hlt
   have f0:=hF.1.frozen (i:=k*3)
   have f1:=hF.1.frozen (i:=k*3+1)
   have f2:=hF.1.frozen (i:=k*3+2)
   have hz:=hF.1.lt
   clear hx hxk hr
   go_wp2_with (go_at_call 148;refine(toTi_one x qa ql qc _ hqi hql).mono ?_;rintro e w' ⟨a',rfl,H,ge,hb⟩;obtain⟨hc,hf,hs⟩:=ac hb)
   go_roundw
   case rel=>exact⟨k+1,by omega,by go_num,hF.step hb hlt (aa hX) H (fun g' o' hp ha=>(ge g' o' hp ha).less (by omega)),below_setTi (ae hbw hb) (Nat.le_refl _)⟩
   case measure=>simp[intOf];omega
  ·go_wp2
   go_ret
   exact⟨_,rfl,hF.done (by have:=h.1;omega) h.1 h.2.1,hbw⟩
theorem eqTi_one(x:bF)(a1 a2:Option Addr)(len cap1 cap2:Nat)(w:World)(h1:cD w a1 len x.q)(h2:cD w a2 len x.q):Calls Tryz.prog 176 #[.agg #[.slice a1 len cap1,.int .i64 x.ma,.bool x.hd],.agg #[.slice a2 len cap2,.int .i64 x.ma,.bool x.hd]] w fun e w'=>e= .returned (.bool true)∧Below w.heap.size w w':=by
 go_enter Tryz.func176,Tryz.ntmps176
 go_wp2_with (go_at_call 22;refine(eqIw_any a1 a2 len cap1 cap2 x.q _ (h1.below (ar)) (h2.below (ar))).mono ?_;rintro e' w' ⟨rfl,hb⟩;obtain⟨hc,hf,hs⟩:=ac hb;have hz0:w.heap.size<w'.heap.size:=(zB hb);have hz1:w.heap.size+1<w'.heap.size:=(zB hb))
 go_ret
 exact⟨rfl,(ar)⟩
set_option maxRecDepth 20000 in
set_option maxHeartbeats 1000000 in
theorem eqTi_any(B1 B2:Nat)(a1 a2:Option Addr)(len cap1 cap2:Nat)(xs:List bF)(w:World)(h1:cX w B1 a1 len xs)(h2:cX w B2 a2 len xs):Calls Tryz.prog 134 #[.slice a1 len cap1,.slice a2 len cap2] w fun e w'=>e= .returned (.bool true)∧Below w.heap.size w w':=by
 have hm:=h1.2.1
 unfold maxLen at hm
 go_enter Tryz.func134,Tryz.ntmps134
 go_wp2
 go_loopw [5] (fun i wr=>∃k:Nat,k≤len∧i= .int .i64 k∧Below w.heap.size w wr) (fun i _=>len - (intOf i).toNat)
 case atStart=>exact⟨0,Nat.zero_le _,rfl,Below.refl _ _⟩
 case round=>
  obtain⟨k,hk,rfl,hbw⟩:=hrel
  by_cases hlt:k<len
  ·obtain⟨hl1,_,hx1⟩:=h1
   obtain⟨hl2,_,hx2⟩:=h2
   obtain⟨g1,o1,rfl,_,hr1⟩:=hx1.resolve_left (by omega)
   obtain⟨g2,o2,rfl,_,hr2⟩:=hx2.resolve_left (by omega)
   obtain⟨x,hxk⟩:∃x,xs[k]? =some x:=⟨_,List.getElem?_eq_getElem (by omega)⟩
   have t1:=(hr1 k _ hxk).below hbw
   have t2:=(hr2 k _ hxk).below hbw
   have hs1:=t1.lt
   have hs2:=t2.lt
   obtain⟨qa1,ql,qc1,c0,c1,c2,q1,_⟩:=t1
   obtain⟨qa2,ql2,qc2,d0,d1,d2,q2,_⟩:=t2
   obtain rfl:ql2=ql:=by have e1:=q1.1;have e2:=q2.1;omega
   have hS:((wr.cell? ⟨g1,o1+k*3,none⟩=some (.slice qa1 ql2 qc1)∧wr.cell? ⟨g1,o1+k*3+1,none⟩=some (.int .i64 x.ma)∧wr.cell? ⟨g1,o1+k*3+2,none⟩=some (.bool x.hd)∧wr.cell? ⟨g2,o2+k*3,none⟩=some (.slice qa2 ql2 qc2)∧wr.cell? ⟨g2,o2+k*3+1,none⟩=some (.int .i64 x.ma)∧wr.cell? ⟨g2,o2+k*3+2,none⟩=some (.bool x.hd))∧g1<wr.heap.size∧g2<wr.heap.size):=⟨⟨c0,c1,c2,d0,d1,d2⟩,hs1,hs2⟩
   clear hx1 hx2 hxk hr1 hr2
   go_wp2
   go_region_held3 (fun W=>((W.cell? ⟨g1,o1+k*3,none⟩=some (.slice qa1 ql2 qc1)∧W.cell? ⟨g1,o1+k*3+1,none⟩=some (.int .i64 x.ma)∧W.cell? ⟨g1,o1+k*3+2,none⟩=some (.bool x.hd)∧W.cell? ⟨g2,o2+k*3,none⟩=some (.slice qa2 ql2 qc2)∧W.cell? ⟨g2,o2+k*3+1,none⟩=some (.int .i64 x.ma)∧W.cell? ⟨g2,o2+k*3+2,none⟩=some (.bool x.hd))∧g1<W.heap.size∧g2<W.heap.size)) ((first|((repeat(first|(with_reducible assumption)|(with_reducible refine dd ?_ (jg))|(with_reducible refine dd ?_ (aj (Below.refl _ _)))|(with_reducible refine dd ?_ (ai _ _))));done)|(refine⟨⟨?_,?_,?_,?_,?_,?_⟩,?_,?_⟩<;>first|(go_keep;done)|(simp;done)|(simp;omega)|omega)))
    (first
    |(go_at_call 176;refine(eqTi_one x qa1 qa2 ql2 qc1 qc2 _ (q1.below (ak)) (q2.below (ak))).mono ?_;rintro e w' ⟨rfl,hb⟩;obtain⟨hc,hf,hs⟩:=ac hb))
   go_wp2
   go_roundw
   case rel=>exact⟨k+1,by omega,by go_num,(ar)⟩
   case measure=>simp[intOf];omega
  ·go_wp2
   go_ret
   exact⟨rfl,hbw⟩
end Go.Proofs.YtealpjmannopeaaGreat
namespace Go.Proofs.YtealpjmannopeaaGreat
open Go.ChangeShapes Go.WideShapes Go.ChangeAt Go.RowKit
/-- A row of 2 numbers. -/
structure dR where
 at_:Int
 wl:Int
/-- A row lies in its cells; rows lie one behind the other; a slice's value holds rows. -/
def dw(W:World)(g o:Nat)(x:dR):Prop:=W.cell? ⟨g,o,none⟩=some (.int .i64 x.at_)∧W.cell? ⟨g,o+1,none⟩=some (.int .i64 x.wl)
def es(W:World)(g o:Nat)(xs:List dR):Prop:=∀i x,xs[i]? =some x→dw W g (o+i*2) x
def fK(W:World)(a:Option Addr)(len:Nat)(xs:List dR):Prop:=xs.length=len∧len≤maxLen∧(len=0∨∃g o,a=some ⟨g,o,none⟩∧es W g o xs)
theorem dw.lt{W:World}{g o:Nat}{x:dR}(h:dw W g o x):g<W.heap.size:=by
 obtain⟨h0,_⟩:=h
 rcases Nat.lt_or_ge g W.heap.size with hl|hg
 ·exact hl
 ·simp[World.cell?,Array.getElem?_eq_none hg]at h0
theorem es.lt{W:World}{g o:Nat}{xs:List dR}(h:es W g o xs)(hp:0<xs.length):g<W.heap.size:=(h 0 xs[0] (List.getElem?_eq_getElem hp)).lt
theorem dw.below{W W':World}{B g o:Nat}{x:dR}(h:dw W g o x)(hb:Below B W W')(hg:g<B):dw W' g o x:=by
 obtain⟨h0,h1⟩:=h
 exact⟨(hb.cell (p:=⟨g,_,none⟩) hg).trans h0,(hb.cell (p:=⟨g,_,none⟩) hg).trans h1⟩
theorem es.below{W W':World}{B g o:Nat}{xs:List dR}(h:es W g o xs)(hb:Below B W W')(hg:0<xs.length→g<B):es W' g o xs:=by
 intro i x hx
 have hlt:i<xs.length:=(List.getElem?_eq_some_iff.1 hx).1
 exact(h i x hx).below hb (hg (by omega))
theorem fK.below{W W':World}{a:Option Addr}{len:Nat}{xs:List dR}(h:fK W a len xs)(hb:Below W.heap.size W W'):fK W' a len xs:=by
 obtain⟨h1,h2,h3⟩:=h
 refine⟨h1,h2,?_⟩
 rcases h3 with h3|⟨g,o,ha,hr⟩
 ·exact Or.inl h3
 ·exact Or.inr ⟨g,o,ha,hr.below hb (fun hp=>hr.lt hp)⟩
theorem dw.grown{W W':World}{row:Option Nat}{g o:Nat}{x:dR}(h:dw W g o x)(hg:W.grownBy W' row)(hne:some g≠row):dw W' g o x:=by
 have hbk:=hg.block g h.lt hne
 obtain⟨h0,h1⟩:=h
 exact⟨(World.cell?_of_block (w:=W) hbk).trans h0,(World.cell?_of_block (w:=W) hbk).trans h1⟩
theorem fK.grown{W W':World}{row:Option Nat}{a:Option Addr}{n:Nat}{xs:List dR}(h:fK W a n xs)(hg:W.grownBy W' row)(hne:∀g o,0<n→a=some ⟨g,o,none⟩→some g≠row):fK W' a n xs:=by
 obtain⟨h1,h2,h3⟩:=h
 refine⟨h1,h2,?_⟩
 rcases h3 with h3|⟨g,o,ha,hr⟩
 ·exact Or.inl h3
 ·refine Or.inr ⟨g,o,ha,fun i x hx=>(hr i x hx).grown hg (hne g o ?_ ha)⟩
  have hlt:i<xs.length:=(List.getElem?_eq_some_iff.1 hx).1
  omega
/-- A row is stored; a block of rows, known whole. -/
def gG(W:World)(g o:Nat)(x:dR):World:=((W.setCell ⟨g,o,none⟩ (.int .i64 x.at_)).setCell ⟨g,o+1,none⟩ (.int .i64 x.wl))
def cr(W:World)(g ty len:Nat):Prop:=∃cur,W.heap[g]? =some (.cells cur ty (0,0))∧cur.size=len*2
theorem cr.set{W:World}{g ty len i:Nat}(h:cr W g ty len)(v:Value):cr (W.setCell ⟨g,i,none⟩ v) g ty len:=by
 obtain⟨cur,h1,h2⟩:=h
 exact⟨_,Joins.block_setCell h1 v,by simp[h2]⟩
theorem cr.below{W W':World}{g ty len B:Nat}(h:cr W g ty len)(hb:Below B W W')(hg:g<B):cr W' g ty len:=by
 obtain⟨cur,h1,h2⟩:=h
 exact⟨cur,(hb.block g hg).trans h1,h2⟩
theorem cr.lt{W:World}{g ty len:Nat}(h:cr W g ty len):g<W.heap.size:=by
 obtain⟨cur,h1,h2⟩:=h
 exact(Array.getElem?_eq_some_iff.1 h1).1
theorem cr.cell{W:World}{g ty len i:Nat}(h:cr W g ty len)(hi:i<len*2):∃u,W.cell? ⟨g,i,none⟩=some u:=by
 obtain⟨cur,h1,h2⟩:=h
 exact⟨_,(cA h1 i).trans (Array.getElem?_eq_getElem (by omega))⟩
theorem cr.frozen{W:World}{g ty len i:Nat}(h:cr W g ty len):W.frozen? ⟨g,i,none⟩=false:=by
 obtain⟨cur,h1,h2⟩:=h
 exact Joins.unfrozen_of_block h1 i
theorem cr.cells{W:World}{g ty len k:Nat}(h:cr W g ty len)(hk:k<len):(∃u,W.cell? ⟨g,k*2,none⟩=some u)∧(∃u,W.cell? ⟨g,k*2+1,none⟩=some u):=⟨h.cell (by omega),h.cell (by omega)⟩
theorem cr.sets{W:World}{g ty len o:Nat}(h:cr W g ty len)(x:dR):cr (gG W g o x) g ty len:=((h.set _).set _)
theorem eZ{W:World}{g i j:Nat}{v:Value}(h:i≠j):(W.setCell ⟨g,i,none⟩ v).cell? ⟨g,j,none⟩=W.cell? ⟨g,j,none⟩:=World.cell?_setCell_other _ _ _ _ (by intro e;injection e with e1 e2;exact h e2)
theorem Sr_this{W:World}{g ty len i:Nat}{v:Value}(h:cr W g ty len)(hi:i<len*2):(W.setCell ⟨g,i,none⟩ v).cell? ⟨g,i,none⟩=some v:=by
 obtain⟨u,hu⟩:=h.cell hi
 exact World.cell?_setCell_same _ _ _ hu
theorem setSr_this{W:World}{g ty len k:Nat}(h:cr W g ty len)(hk:k<len)(x:dR):dw (gG W g (k*2) x) g (k*2) x:=by
 unfold gG
 refine⟨?_,?_⟩
 ·rw[eZ (by omega),Sr_this h (by omega)]
 ·rw[Sr_this (h.set _) (by omega)]
theorem setSr_ne{W:World}{g i k:Nat}{x y:dR}(h:dw W g (i*2) y)(hk:i≠k):dw (gG W g (k*2) x) g (i*2) y:=by
 unfold gG
 obtain⟨h0,h1⟩:=h
 refine⟨?_,?_⟩
 ·rw[eZ (by omega),eZ (by omega)];exact h0
 ·rw[eZ (by omega),eZ (by omega)];exact h1
def WrSr(W:World)(a:Option Addr)(n cap:Nat):Prop:=n=0∨∃g,a=some ⟨g,0,none⟩∧cr W g 131 cap∧n≤cap
theorem hd_2_2{b0 b1 a0 a1 c0 c1:Nat}{k0 k1 l0 l1:Value}{W W':World}(h:((W.cell? ⟨b0,a0,none⟩=some k0∧W.cell? ⟨b0,a1,none⟩=some k1∧W.cell? ⟨b1,c0,none⟩=some l0∧W.cell? ⟨b1,c1,none⟩=some l1)∧b0<W.heap.size∧b1<W.heap.size))(hb:Below W.heap.size W W'):((W'.cell? ⟨b0,a0,none⟩=some k0∧W'.cell? ⟨b0,a1,none⟩=some k1∧W'.cell? ⟨b1,c0,none⟩=some l0∧W'.cell? ⟨b1,c1,none⟩=some l1)∧b0<W'.heap.size∧b1<W'.heap.size):=by
 obtain⟨h99,s0,s1⟩:=h
 have e0:∀z,W'.cell? ⟨b0,z,none⟩=W.cell? ⟨b0,z,none⟩:=fun z=>hb.cell s0
 have e1:∀z,W'.cell? ⟨b1,z,none⟩=W.cell? ⟨b1,z,none⟩:=fun z=>hb.cell s1
 refine⟨?_,Nat.lt_of_lt_of_le s0 hb.size,Nat.lt_of_lt_of_le s1 hb.size⟩
 simp only[e0,e1]
 exact h99
set_option maxHeartbeats 1000000 in
theorem eqSr_one(x:dR)(w:World):Calls Tryz.prog 81 #[.agg #[.int .i64 x.at_,.int .i64 x.wl],.agg #[.int .i64 x.at_,.int .i64 x.wl]] w fun e w'=>e= .returned (.bool true)∧Below w.heap.size w w':=by
 go_enter Tryz.func81,Tryz.ntmps81
 go_wp2
 go_ret
 exact⟨rfl,(ar)⟩
set_option maxRecDepth 20000 in
set_option maxHeartbeats 1000000 in
theorem eqSr_any(a1 a2:Option Addr)(len cap1 cap2:Nat)(xs:List dR)(w:World)(h1:fK w a1 len xs)(h2:fK w a2 len xs):Calls Tryz.prog 41 #[.slice a1 len cap1,.slice a2 len cap2] w fun e w'=>e= .returned (.bool true)∧Below w.heap.size w w':=by
 have hm:=h1.2.1
 unfold maxLen at hm
 go_enter Tryz.func41,Tryz.ntmps41
 go_wp2
 go_loopw [5] (fun i wr=>∃k:Nat,k≤len∧i= .int .i64 k∧Below w.heap.size w wr) (fun i _=>len - (intOf i).toNat)
 case atStart=>exact⟨0,Nat.zero_le _,rfl,Below.refl _ _⟩
 case round=>
  obtain⟨k,hk,rfl,hbw⟩:=hrel
  by_cases hlt:k<len
  ·obtain⟨hl1,_,hx1⟩:=h1
   obtain⟨hl2,_,hx2⟩:=h2
   obtain⟨g1,o1,rfl,hr1⟩:=hx1.resolve_left (by omega)
   obtain⟨g2,o2,rfl,hr2⟩:=hx2.resolve_left (by omega)
   obtain⟨x,hxk⟩:∃x,xs[k]? =some x:=⟨_,List.getElem?_eq_getElem (by omega)⟩
   have hg1:g1<w.heap.size:=hr1.lt (by omega)
   have hg2:g2<w.heap.size:=hr2.lt (by omega)
   have hs1:g1<wr.heap.size:=Nat.lt_of_lt_of_le hg1 hbw.size
   have hs2:g2<wr.heap.size:=Nat.lt_of_lt_of_le hg2 hbw.size
   have hS:((wr.cell? ⟨g1,o1+k*2,none⟩=some (.int .i64 x.at_)∧wr.cell? ⟨g1,o1+k*2+1,none⟩=some (.int .i64 x.wl)∧wr.cell? ⟨g2,o2+k*2,none⟩=some (.int .i64 x.at_)∧wr.cell? ⟨g2,o2+k*2+1,none⟩=some (.int .i64 x.wl))∧g1<wr.heap.size∧g2<wr.heap.size):=by
    obtain⟨c0,c1⟩:=(hr1 k _ hxk).below hbw hg1
    obtain⟨d0,d1⟩:=(hr2 k _ hxk).below hbw hg2
    exact⟨⟨c0,c1,d0,d1⟩,hs1,hs2⟩
   clear hx1 hx2 hxk hr1 hr2
   go_wp2
   go_region_held3 (fun W=>((W.cell? ⟨g1,o1+k*2,none⟩=some (.int .i64 x.at_)∧W.cell? ⟨g1,o1+k*2+1,none⟩=some (.int .i64 x.wl)∧W.cell? ⟨g2,o2+k*2,none⟩=some (.int .i64 x.at_)∧W.cell? ⟨g2,o2+k*2+1,none⟩=some (.int .i64 x.wl))∧g1<W.heap.size∧g2<W.heap.size)) ((first|((repeat(first|(with_reducible assumption)|(with_reducible refine hd_2_2 ?_ (jg))|(with_reducible refine hd_2_2 ?_ (aj (Below.refl _ _)))|(with_reducible refine hd_2_2 ?_ (ai _ _))));done)|(refine⟨⟨?_,?_,?_,?_⟩,?_,?_⟩<;>first|(go_keep;done)|(simp;done)|(simp;omega)|omega)))
    (first
    |(go_at_call 81;refine(eqSr_one _ _).mono ?_;rintro e w' ⟨rfl,hb⟩;obtain⟨hc,hf,hs⟩:=ac hb))
   go_wp2
   go_roundw
   case rel=>exact⟨k+1,by omega,by go_num,(ar)⟩
   case measure=>simp[intOf];omega
  ·go_wp2
   go_ret
   exact⟨rfl,hbw⟩
end Go.Proofs.YtealpjmannopeaaGreat
namespace Go.Proofs.YtealpjmannopeaaGreat
open Go.ChangeShapes Go.WideShapes Go.ChangeAt Go.RowKit Go.Deep
/-- Each number is an int. -/
def dR.ok64(x:dR):Prop:=(-9223372036854775808≤x.at_∧x.at_≤9223372036854775807)∧(-9223372036854775808≤x.wl∧x.wl≤9223372036854775807)
section
variable {H : Type} {enc : TypeId × Value → H} {P : Program} {w : World} {base : Nat} {spare : Nat → Bool} {held : Bool}
theorem cellsSr{a:Addr}{cs:List Value}(h:w.cells? base a 2=some cs)(f0:dY cs [false,false]):a.spot=none∧∃x:dR,dw w a.block a.off x∧x.ok64:=by
 obtain⟨z0,r0,rfl,y0,f1⟩:=aD f0
 clear f0
 obtain⟨z1,r1,rfl,y1,f2⟩:=aD f1
 clear f1
 obtain rfl:=eU f2
 obtain⟨_,hlen,hc⟩:=World.cells?_some h
 have c0:=hc 0 (by omega)
 have c1:=hc 1 (by omega)
 obtain⟨g,o,sp⟩:=a
 have ha0:(⟨g,o,sp⟩:Addr).add 0=⟨g,o,sp⟩:=by simp[Addr.add]
 have hsp:sp=none:=World.cell?_spot (w:=w) (a:=⟨g,o,sp⟩) (v:= .int .i64 z0) (by rw[←ha0];simpa using c0)
 subst hsp
 exact⟨rfl,⟨z0,z1⟩,⟨by simpa[Addr.add]using c0,by simpa[Addr.add]using c1⟩,aW y0,aW y1⟩
theorem openSr{t e:TypeId}{a:Option Addr}{len cap:Nat}{d:DataW H}{p:List MemPlace}(ht:P.underlying t=some (.slice e))(hk:bf P 5 e=some [false,false])(hC:P.cellsOf e=2)
  (h:DataW.Trod enc P w base spare held t (.slice a len cap) d p):∃xs:List dR,fK w a len xs∧∀x ∈ xs,x.ok64:=by
 obtain⟨fuel,hf⟩:=h
 rcases open_slice ht hf with⟨hcs,_⟩|⟨a',len',cap',m,n,D,Pl,hcs,_,hl,hm,hmm,_,hx⟩
 ·simp[Value.cells]at hcs
  obtain⟨rfl,rfl,rfl⟩:=hcs
  exact⟨[],⟨rfl,Nat.zero_le _,Or.inl rfl⟩,by simp⟩
 ·simp[Value.cells]at hcs
  obtain⟨rfl,rfl,rfl⟩:=hcs
  have hlm:len≤m:=by rw[hmm];split<;>omega
  have hall:∀i,i<len→∃x:dR,(i=0→a'.spot=none)∧dw w a'.block (a'.off+i*2) x∧x.ok64:=by
   intro i hi
   obtain⟨cs',h1,h2⟩:=hx i (by omega)
   rw[hC]at h1
   obtain⟨hsp,x,hxa,hxo⟩:=cellsSr h1 (dl 5 hk h2)
   have hb:(a'.add (i*2)).block=a'.block∧(a'.add (i*2)).off=a'.off+i*2:=by
    unfold Addr.add
    split
    ·exact⟨rfl,by omega⟩
    ·exact⟨rfl,rfl⟩
   rw[hb.1,hb.2]at hxa
   refine⟨x,fun h0=>?_,hxa,hxo⟩
   subst h0
   simpa[Addr.add]using hsp
  by_cases h0:len=0
  ·subst h0
   exact⟨[],⟨rfl,Nat.zero_le _,Or.inl rfl⟩,by simp⟩
  have hinh:Inhabited dR:=⟨⟨0,0⟩⟩
  obtain⟨f,hf'⟩:=choose_lt hall
  have hsp:=(hf' 0 (by omega)).1 rfl
  refine⟨(List.range len).map f,⟨by simp,by omega,Or.inr ⟨a'.block,a'.off,by cases a';simp_all,?_⟩⟩,?_⟩
  ·intro i x hix
   simp only[List.getElem?_map,Option.map_eq_some_iff]at hix
   obtain⟨j,hj,rfl⟩:=hix
   have hil:i<len:=by
    rcases Nat.lt_or_ge i len with h'|h'
    ·exact h'
    ·rw[List.getElem?_eq_none (by simpa using h')]at hj;cases hj
   rw[List.getElem?_eq_getElem (by simpa using hil)]at hj
   simp at hj
   subst hj
   exact(hf' i hil).2.1
  ·intro x hxm
   simp only[List.mem_map,List.mem_range]at hxm
   obtain⟨i,hi,rfl⟩:=hxm
   exact(hf' i hi).2.2
end
theorem Tryz.infoSr:(Tryz.prog.info? 131).map (fun i=>(i.zero,i.size,i.bytes))=some (some (.agg #[.int .i64 0,.int .i64 0]),2,16):=by kernel_rfl
theorem mkSr(len:Nat)(hl:len≤1048576):∃C:Array Value,C.size=len*2∧∀w:World,(Instr.makeSlice 42 (.int .i64 (len:Int)) (.int .i64 (len:Int))).run Tryz.prog w= .ok (.slice (some ⟨w.heap.size,0,none⟩) len len) (w.alloc (.cells C 131)):=by
 obtain⟨i0,hi,hz0,hz1,hz2⟩:=info_parts Tryz.infoSr
 refine⟨madeCells (Value.agg #[.int .i64 0,.int .i64 0]).cells (len*i0.size),by rw[size_madeCells,hz1],fun w=>?_⟩
 have h:=run_make (P:=Tryz.prog) w 42 131 i0 _ Tryz.underlying42 hi hz0 .i64 .i64 len len (by omega) (Int.le_refl _) (by rw[hz2];omega) (by omega)
 simpa using h
/-- The slice that is being filled. -/
def et(W:World)(g ty len:Nat)(ys:List dR):Prop:=cr W g ty len∧∀i x,ys[i]? =some x→dw W g (i*2) x
theorem et.step{wr w':World}{g ty len k:Nat}{xs:List dR}{x:dR}(h:et wr g ty len (xs.take k))(hb:Below wr.heap.size wr w')(hk:k<len)(hx:xs[k]? =some x):et (gG w' g (k*2) x) g ty len (xs.take (k+1)):=by
 have hB:=h.1.below hb h.1.lt
 refine⟨hB.sets x,fun i y hy=>?_⟩
 have hik:i<k+1:=by
  rcases Nat.lt_or_ge i (k+1)with h'|h'
  ·exact h'
  ·rw[List.getElem?_eq_none (jk)]at hy;cases hy
 rw[List.getElem?_take_of_lt hik]at hy
 by_cases he:i=k
 ·subst he
  rw[hx]at hy
  cases hy
  exact setSr_this hB hk x
 ·refine setSr_ne ?_ he
  exact(h.2 i y (by rw[List.getElem?_take_of_lt (by omega)];exact hy)).below hb h.1.lt
theorem et.start{w:World}{ty len:Nat}{C:Array Value}(hC:C.size=len*2)(xs:List dR):et (w.alloc (.cells C ty)) w.heap.size ty len (xs.take 0):=
 ⟨⟨C,by show(w.heap.push _)[w.heap.size]? =_;simp,hC⟩,fun i x h=>by simp at h⟩
theorem et.done{W:World}{g ty len k:Nat}{xs:List dR}(h:et W g ty len (xs.take k))(hk:xs.length≤k):es W g 0 xs:=by
 intro i x hx
 rw[List.take_of_length_le hk]at h
 simpa using h.2 i x hx
theorem below_setSr{B g o:Nat}{W W':World}{x:dR}(h:Below B W W')(hg:B≤g):Below B W (gG W' g o x):=((h.setCell hg _).setCell hg _)
set_option maxRecDepth 20000 in
set_option maxHeartbeats 1000000 in
theorem toSr_one(at_ wl:Int)(w:World):Calls Tryz.prog 67 #[.agg #[.int .i64 at_,.int .i64 wl]] w fun e w'=>e= .returned (.agg #[.int .i64 at_,.int .i64 wl])∧Below w.heap.size w w':=by
 go_enter Tryz.func67,Tryz.ntmps67
 go_wp2
 refine bodyPost_ret (v:= .agg #[.int .i64 at_,.int .i64 wl]) (by simp(maxDischargeDepth:=9) [results,Tryz.results67,go_sem, *]) rfl ⟨rfl,?_⟩
 exact(ar)
set_option maxRecDepth 20000 in
set_option maxHeartbeats 1000000 in
theorem toSr_at(a:Option Addr)(len cap:Nat)(xs:List dR)(w:World)(h:fK w a len xs)(hl:len≤1048576):Calls Tryz.prog 33 #[.slice a len cap] w fun e w'=>e= .returned (.slice (some ⟨w.heap.size,0,none⟩) len len)∧es w' w.heap.size 0 xs∧cr w' w.heap.size 131 len∧Below w.heap.size w w':=by
 obtain⟨C,hC,hmk⟩:=mkSr len hl
 go_enter Tryz.func33,Tryz.ntmps33
 go_wp2
 go_loopw [4] (fun i wr=>∃k:Nat,k≤len∧i= .int .i64 k∧et wr w.heap.size 131 len (xs.take k)∧Below w.heap.size w wr) (fun i _=>len - (intOf i).toNat)
 case atStart=>exact⟨0,Nat.zero_le _,rfl,et.start hC xs,ai _ _⟩
 case round=>
  obtain⟨k,hk,rfl,hF,hbw⟩:=hrel
  by_cases hlt:k<len
  ·obtain⟨hxl,hml,hx⟩:=h
   obtain⟨g,o,rfl,hr⟩:=hx.resolve_left (by omega)
   obtain⟨x,hxk⟩:∃x,xs[k]? =some x:=⟨_,List.getElem?_eq_getElem (by omega)⟩
   have hg:g<w.heap.size:=hr.lt (by omega)
   have hX:=ab hxk
   obtain⟨c0,c1⟩:=(hr k _ hxk).below hbw hg
   obtain⟨⟨u0,d0⟩,⟨u1,d1⟩⟩:=hF.1.cells hlt
   have f0:=hF.1.frozen (i:=k*2)
   have f1:=hF.1.frozen (i:=k*2+1)
   have hz:=hF.1.lt
   clear hx hxk
   go_wp2_with (go_at_call 67;refine(toSr_one _ _ _).mono ?_;rintro e w' ⟨rfl,hb⟩;obtain⟨hc,hf,hs⟩:=ac hb)
   go_roundw
   case rel=>exact⟨k+1,by omega,by go_num,hF.step hb hlt (aa hX),below_setSr (ae hbw hb) (Nat.le_refl _)⟩
   case measure=>simp[intOf];omega
  ·go_wp2
   go_ret
   exact⟨rfl,hF.done (by have:=h.1;omega),hF.1,hbw⟩
theorem SrRs_of{W:World}{g len:Nat}{xs:List dR}(h1:xs.length=len)(h2:len≤maxLen)(h:es W g 0 xs):fK W (some ⟨g,0,none⟩) len xs:=⟨h1,h2,Or.inr ⟨g,0,rfl,h⟩⟩
theorem toSr_any(a:Option Addr)(len cap:Nat)(xs:List dR)(w:World)(h:fK w a len xs)(hl:len≤1048576):Calls Tryz.prog 33 #[.slice a len cap] w fun e w'=>∃a',e= .returned (.slice a' len len)∧fK w' a' len xs∧WrSr w' a' len len∧(∀g o,0<len→a'=some ⟨g,o,none⟩→w.heap.size≤g)∧Below w.heap.size w w':=
 (toSr_at a len cap xs w h hl).mono fun e w' ⟨h1,h2,h3,h4⟩=>⟨_,h1,SrRs_of h.1 h.2.1 h2,Or.inr ⟨_,rfl,h3,Nat.le_refl _⟩,fun g o _ e'=>by simp at e';omega,h4⟩
end Go.Proofs.YtealpjmannopeaaGreat
