/- Laid together: what the claim needs of the texts that were built one by one. -/
import Derived.Below
import Derived.BigQuiet
import Derived.Carry
import Derived.ChangeOld
import Derived.Deep.Fields
import Derived.Deep.QuietTactic
import Derived.Deep.RegionHeld3
import Derived.Deep.Slices
import Derived.DeepKeys4
import Derived.Lib.SmallJoins
import Derived.LoopIn
import Derived.LoopNIn
import Derived.MapViews
import Derived.Maps.Own
import Derived.Maps.OwnSet
import Derived.Maps.Views
import Derived.OpenShut
import Derived.OwnWalkIn
import Derived.ProofKit
import Derived.RangeFuncBound
import Derived.RangeFuncBox
import Derived.RangeFuncCalls
import Derived.RangeFuncLeaves
import Derived.RangeFuncNested
import Derived.Shelf.Abstract
import Derived.Shelf.RegionOpen
import Derived.ShutString
import Derived.Sort.Grow
import Derived.Sort.MapsRangeIn
import Derived.Sort.OwnSorted
import Derived.TacticsInMore
import Derived.Test.YtdmhihcipkhecaaGreatRows
import Derived.Test.YtdmhihcipkhecaaGreatShelf
import Derived.WalkKit
set_option linter.unusedVariables false
namespace Go.Proofs.YtdmhihcipkhecaaGreat
/- Short names for library rows. -/
theorem tA{α:Type _}{l:List α}{i:Nat}{a:α}:l.toArray.setIfInBounds i a=(l.set i a).toArray:=List.setIfInBounds_toArray l i a
theorem tZ{α:Type _}{x a:α}{l:List α}:(x :: l).set 0 a=a :: l:=rfl
theorem tS{α:Type _}{x a:α}{l:List α}{i:Nat}:(x :: l).set (i+1) a=x :: l.set i a:=rfl
theorem gA{α:Type _}{l:List α}{i:Nat}:l.toArray[i]? =l[i]? :=List.getElem?_toArray
theorem gZ{α:Type _}{x:α}{l:List α}:(x :: l)[0]? =some x:=rfl
theorem gS{α:Type _}{x:α}{l:List α}{i:Nat}:(x :: l)[i+1]? =l[i]? :=rfl
open Go.ChangeShapes Go.WideShapes Go.ChangeAt Go.RowKit
theorem kT{P:Program}{ops:Array Oper}{Q:Exit→Act→World→Prop}{md:Region.Mode}{S:World→Prop}(i:Nat){oi:Oper}{fuel:Nat}{listed:Array Bool}{a:Act}{w:World}(v:Value)(y:∀w,S w→(execOp a.eval oi).run P w= .ok (.value v) w)(h:wpAnyH P md ops Q S fuel (listed.setIfInBounds i true) (a.put oi.dst v) w)(h1:ops[i]? =some oi:=by simp only[gA,gZ,gS];rfl)(h2:Region.noSelect ops=true:=by kernel_rfl)(h3:Region.free md ops listed i=true:=by kernel_rfl)(h4:(Region.ready md ops listed).contains i=true:=by kernel_rfl)(h5:∀c a w,Q (.panic c) (a.put oi.dst v) w→Q (.panic c) a w:=by intro _ _ _ h;exact h)(h6:Region.wanted oi (yielded ops a.tmps)=true:=by rfl)(h7:S w:=by assumption):wpAnyH P md ops Q S (fuel+1) listed a w:=wpAnyH_take h1 h2 h3 h4 h5 (Or.inl ⟨h6,y⟩) h7 h
theorem kU{P:Program}{ops:Array Oper}{Q:Exit→Act→World→Prop}{md:Region.Mode}{S:World→Prop}(i:Nat){oi:Oper}{fuel:Nat}{listed:Array Bool}{a:Act}{w:World}(h:wpAnyH P md ops Q S fuel (listed.setIfInBounds i true) (a.put oi.dst undef) w)(h1:ops[i]? =some oi:=by simp only[gA,gZ,gS];rfl)(h2:Region.noSelect ops=true:=by kernel_rfl)(h3:Region.free md ops listed i=true:=by kernel_rfl)(h4:(Region.ready md ops listed).contains i=true:=by kernel_rfl)(h5:∀c a w,Q (.panic c) (a.put oi.dst undef) w→Q (.panic c) a w:=by intro _ _ _ h;exact h)(h6:Region.wanted oi (yielded ops a.tmps)=false:=by rfl)(h7:S w:=by assumption):wpAnyH P md ops Q S (fuel+1) listed a w:=wpAnyH_take (v:=undef) h1 h2 h3 h4 h5 (Or.inr ⟨h6,rfl⟩) h7 h
theorem cA{w:World}{g:Nat}{cs:Array Value}{t:TypeId}{fr:Nat×Nat}(h:w.heap[g]? =some (.cells cs t fr))(i:Nat):w.cell? ⟨g,i,none⟩=cs[i]? :=Joins.cell_of_block h i
theorem cF{w:World}{g:Nat}{cs:Array Value}{t:TypeId}(h:w.heap[g]? =some (.cells cs t (0,0)))(i:Nat):w.frozen? ⟨g,i,none⟩=false:=Joins.unfrozen_of_block h i
theorem zB{B:Nat}{w w':World}(hb:Below B w w'){n:Nat}(h:w.heap.size≤w'.heap.size→n<w'.heap.size:=by intro h9;(try simp at h9);omega):n<w'.heap.size:=h hb.size
theorem sN{w:World}{p:Addr}{u:Value}{b:Nat}{x:Option Obj}(h:w.heap[b]? =x)(hn:b≠p.block:=by(try dsimp only);omega):(w.setCell p u).heap[b]? =x:=(Below.heap_setCell _ _ _ _ hn).trans h
theorem c2{w:World}{g:Nat}{t:TypeId}{fr:Nat×Nat}{u0 u1:Value}(h:w.heap[g]? =some (.cells #[u0,u1] t fr)):w.cell? ⟨g,0,none⟩=some u0∧w.cell? ⟨g,1,none⟩=some u1:=⟨cA h 0,cA h 1⟩
theorem f2{w:World}{g:Nat}{cs:Array Value}{t:TypeId}(h:w.heap[g]? =some (.cells cs t (0,0))):w.frozen? ⟨g,0,none⟩=false∧w.frozen? ⟨g,1,none⟩=false:=⟨cF h 0,cF h 1⟩
theorem c4{w:World}{g:Nat}{t:TypeId}{fr:Nat×Nat}{u0 u1 u2 u3:Value}(h:w.heap[g]? =some (.cells #[u0,u1,u2,u3] t fr)):w.cell? ⟨g,0,none⟩=some u0∧w.cell? ⟨g,1,none⟩=some u1∧w.cell? ⟨g,2,none⟩=some u2∧w.cell? ⟨g,3,none⟩=some u3:=⟨cA h 0,cA h 1,cA h 2,cA h 3⟩
theorem f4{w:World}{g:Nat}{cs:Array Value}{t:TypeId}(h:w.heap[g]? =some (.cells cs t (0,0))):w.frozen? ⟨g,0,none⟩=false∧w.frozen? ⟨g,1,none⟩=false∧w.frozen? ⟨g,2,none⟩=false∧w.frozen? ⟨g,3,none⟩=false:=⟨cF h 0,cF h 1,cF h 2,cF h 3⟩
theorem c5{w:World}{g:Nat}{t:TypeId}{fr:Nat×Nat}{u0 u1 u2 u3 u4:Value}(h:w.heap[g]? =some (.cells #[u0,u1,u2,u3,u4] t fr)):w.cell? ⟨g,0,none⟩=some u0∧w.cell? ⟨g,1,none⟩=some u1∧w.cell? ⟨g,2,none⟩=some u2∧w.cell? ⟨g,3,none⟩=some u3∧w.cell? ⟨g,4,none⟩=some u4:=⟨cA h 0,cA h 1,cA h 2,cA h 3,cA h 4⟩
theorem f5{w:World}{g:Nat}{cs:Array Value}{t:TypeId}(h:w.heap[g]? =some (.cells cs t (0,0))):w.frozen? ⟨g,0,none⟩=false∧w.frozen? ⟨g,1,none⟩=false∧w.frozen? ⟨g,2,none⟩=false∧w.frozen? ⟨g,3,none⟩=false∧w.frozen? ⟨g,4,none⟩=false:=⟨cF h 0,cF h 1,cF h 2,cF h 3,cF h 4⟩
theorem c9{w:World}{g:Nat}{t:TypeId}{fr:Nat×Nat}{u0 u1 u2 u3 u4 u5 u6 u7 u8:Value}(h:w.heap[g]? =some (.cells #[u0,u1,u2,u3,u4,u5,u6,u7,u8] t fr)):w.cell? ⟨g,0,none⟩=some u0∧w.cell? ⟨g,1,none⟩=some u1∧w.cell? ⟨g,2,none⟩=some u2∧w.cell? ⟨g,3,none⟩=some u3∧w.cell? ⟨g,4,none⟩=some u4∧w.cell? ⟨g,5,none⟩=some u5∧w.cell? ⟨g,6,none⟩=some u6∧w.cell? ⟨g,7,none⟩=some u7∧w.cell? ⟨g,8,none⟩=some u8:=⟨cA h 0,cA h 1,cA h 2,cA h 3,cA h 4,cA h 5,cA h 6,cA h 7,cA h 8⟩
theorem f9{w:World}{g:Nat}{cs:Array Value}{t:TypeId}(h:w.heap[g]? =some (.cells cs t (0,0))):w.frozen? ⟨g,0,none⟩=false∧w.frozen? ⟨g,1,none⟩=false∧w.frozen? ⟨g,2,none⟩=false∧w.frozen? ⟨g,3,none⟩=false∧w.frozen? ⟨g,4,none⟩=false∧w.frozen? ⟨g,5,none⟩=false∧w.frozen? ⟨g,6,none⟩=false∧w.frozen? ⟨g,7,none⟩=false∧w.frozen? ⟨g,8,none⟩=false:=⟨cF h 0,cF h 1,cF h 2,cF h 3,cF h 4,cF h 5,cF h 6,cF h 7,cF h 8⟩
theorem cZ{w:World}{g:Nat}{t:TypeId}{fr:Nat×Nat}{u0 u1 u2 u3 u4 u5 u6 u7 u8 u9:Value}(h:w.heap[g]? =some (.cells #[u0,u1,u2,u3,u4,u5,u6,u7,u8,u9] t fr)):w.cell? ⟨g,0,none⟩=some u0∧w.cell? ⟨g,1,none⟩=some u1∧w.cell? ⟨g,2,none⟩=some u2∧w.cell? ⟨g,3,none⟩=some u3∧w.cell? ⟨g,4,none⟩=some u4∧w.cell? ⟨g,5,none⟩=some u5∧w.cell? ⟨g,6,none⟩=some u6∧w.cell? ⟨g,7,none⟩=some u7∧w.cell? ⟨g,8,none⟩=some u8∧w.cell? ⟨g,9,none⟩=some u9:=⟨cA h 0,cA h 1,cA h 2,cA h 3,cA h 4,cA h 5,cA h 6,cA h 7,cA h 8,cA h 9⟩
theorem f10{w:World}{g:Nat}{cs:Array Value}{t:TypeId}(h:w.heap[g]? =some (.cells cs t (0,0))):w.frozen? ⟨g,0,none⟩=false∧w.frozen? ⟨g,1,none⟩=false∧w.frozen? ⟨g,2,none⟩=false∧w.frozen? ⟨g,3,none⟩=false∧w.frozen? ⟨g,4,none⟩=false∧w.frozen? ⟨g,5,none⟩=false∧w.frozen? ⟨g,6,none⟩=false∧w.frozen? ⟨g,7,none⟩=false∧w.frozen? ⟨g,8,none⟩=false∧w.frozen? ⟨g,9,none⟩=false:=⟨cF h 0,cF h 1,cF h 2,cF h 3,cF h 4,cF h 5,cF h 6,cF h 7,cF h 8,cF h 9⟩
theorem eu{w:World}{g:Nat}{t:TypeId}{fr:Nat×Nat}{u0 u1 u2 u3 u4 u5 u6 u7 u8 u9 u10 u11 u12:Value}(h:w.heap[g]? =some (.cells #[u0,u1,u2,u3,u4,u5,u6,u7,u8,u9,u10,u11,u12] t fr)):w.cell? ⟨g,0,none⟩=some u0∧w.cell? ⟨g,1,none⟩=some u1∧w.cell? ⟨g,2,none⟩=some u2∧w.cell? ⟨g,3,none⟩=some u3∧w.cell? ⟨g,4,none⟩=some u4∧w.cell? ⟨g,5,none⟩=some u5∧w.cell? ⟨g,6,none⟩=some u6∧w.cell? ⟨g,7,none⟩=some u7∧w.cell? ⟨g,8,none⟩=some u8∧w.cell? ⟨g,9,none⟩=some u9∧w.cell? ⟨g,10,none⟩=some u10∧w.cell? ⟨g,11,none⟩=some u11∧w.cell? ⟨g,12,none⟩=some u12:=⟨cA h 0,cA h 1,cA h 2,cA h 3,cA h 4,cA h 5,cA h 6,cA h 7,cA h 8,cA h 9,cA h 10,cA h 11,cA h 12⟩
theorem f13{w:World}{g:Nat}{cs:Array Value}{t:TypeId}(h:w.heap[g]? =some (.cells cs t (0,0))):w.frozen? ⟨g,0,none⟩=false∧w.frozen? ⟨g,1,none⟩=false∧w.frozen? ⟨g,2,none⟩=false∧w.frozen? ⟨g,3,none⟩=false∧w.frozen? ⟨g,4,none⟩=false∧w.frozen? ⟨g,5,none⟩=false∧w.frozen? ⟨g,6,none⟩=false∧w.frozen? ⟨g,7,none⟩=false∧w.frozen? ⟨g,8,none⟩=false∧w.frozen? ⟨g,9,none⟩=false∧w.frozen? ⟨g,10,none⟩=false∧w.frozen? ⟨g,11,none⟩=false∧w.frozen? ⟨g,12,none⟩=false:=⟨cF h 0,cF h 1,cF h 2,cF h 3,cF h 4,cF h 5,cF h 6,cF h 7,cF h 8,cF h 9,cF h 10,cF h 11,cF h 12⟩
theorem kV{P:Program}{ops:Array Oper}{Q:Exit→Act→World→Prop}{md:Region.Mode}{S:World→Prop}(i:Nat){oi:Oper}{fuel:Nat}{listed:Array Bool}{a a':Act}{w:World}{v:Value}(h:wpAnyH P md ops Q S fuel (listed.setIfInBounds i true) a' w)(h1:ops[i]? =some oi:=by simp only[gA,gZ,gS];rfl)(h2:Region.noSelect ops=true:=by kernel_rfl)(h3:Region.free md ops listed i=true:=by kernel_rfl)(h4:(Region.ready md ops listed).contains i=true:=by kernel_rfl)(y:∀w,S w→(execOp a.eval oi).run P w= .ok (.value v) w:=by intro w9 hSw;(try dsimp only at hSw);go_simp<;>with_reducible rfl)(h5:∀c a w,Q (.panic c) (a.put oi.dst v) w→Q (.panic c) a w:=by intro _ _ _ h;exact h)(h6:Region.wanted oi (yielded ops a.tmps)=true:=by rfl)(h7:S w:=by assumption)(ha:a.put oi.dst v=a':=by(try simp only[Act.put,tA,tZ,tS]);rfl):wpAnyH P md ops Q S (fuel+1) listed a w:=by subst ha;exact kT i v y h h1 h2 h3 h4 h5 h6 h7
theorem rD{P:Program}{ops:Array Oper}{Q:Exit→Act→World→Prop}{md:Region.Mode}{S:World→Prop}(i:Nat){o:Oper}{fuel:Nat}{listed:Array Bool}{a:Act}{w:World}(h:∀K':Act→World→Prop,Go.Shut (∀a w,S w→(S w→wpAnyH P md ops Q S fuel (listed.setIfInBounds i true) a w)→K' a w)→if Region.wanted o (yielded ops a.tmps)=true then Oper.wp P o a w K' Q else K' (a.put o.dst undef) w)(ho:ops[i]? =some o:=by simp only[gA,gZ,gS];rfl)(hr:Region.ready md ops listed=[i]:=by kernel_rfl):wpAnyH P md ops Q S (fuel+1) listed a w:=wpAnyH_ready hr (by simp) (AllReadyH.cons ho h AllReadyH.nil)
theorem nA{w:World}{o:Obj}{b:Nat}(h:w.heap.size=b:=by first|rfl|(simp;done)):(w.alloc o).heap[b]? =some o:=by subst h;exact World.alloc_heap_new w o
theorem aN{w:World}{o:Obj}{b:Nat}{x:Option Obj}(h:w.heap[b]? =x)(hb:b<w.heap.size:=by first|(simp;done)|(simp;omega)):(w.alloc o).heap[b]? =x:=(Below.heap_alloc _ _ _ hb).trans h
theorem zA{B:Nat}{w w':World}(hb:Below B w w')(n:Nat)(h:w.heap.size≤w'.heap.size→n<w'.heap.size:=by intro h9;(try simp at h9);omega):n<w'.heap.size:=h hb.size
theorem el{B:Nat}{w W:World}(h:Below B w W:=by repeat(first|(with_reducible exact Below.refl _ _)|(with_reducible assumption)|(with_reducible refine av ?_ (by first|(simp;done)|(simp;omega)) _)|(with_reducible refine ag ?_ _)|(with_reducible refine ap ?_)|(with_reducible refine bh ?_ _)|(with_reducible refine am ?_ (by with_reducible assumption)))):Below B w W:=h
theorem bC{B:Nat}{w W:World}(h:Below B w W:=by repeat(first|(with_reducible refine av ?_ (by first|(simp;done)|(simp;omega)) _)|(with_reducible refine ag ?_ _)|(with_reducible exact Below.refl _ _)|(with_reducible assumption)|(with_reducible refine ap ?_)|(with_reducible refine bh ?_ _)|(with_reducible refine am ?_ (by with_reducible assumption)))):Below B w W:=h
theorem aW{B:Nat}{w W:World}(h:Below B w W:=by repeat(first|exact Below.refl _ _|exact aq _ _|assumption|refine ag ?_ _|refine av ?_ (by first|(simp;done)|(simp;omega)) _|refine ap ?_|refine bh ?_ _|refine am ?_ (by assumption))):Below B w W:=h
theorem sA{p:Prop}(h:p:=by first|(simp;done)|(simp;omega)):p:=h
theorem sB{p:Prop}(h:p:=by first|omega|(simp;done)|(simp;omega)):p:=h
theorem sC{p:Prop}(h:p:=by first|(simp;done)|(simp;omega)|omega):p:=h
end Go.Proofs.YtdmhihcipkhecaaGreat
namespace Go.Proofs.YtdmhihcipkhecaaGreat
open Go.ChangeShapes Go.WideShapes Go.ChangeAt Go.RowKit Go.Deep
theorem am{w w1 w2:World}(h:Below w.heap.size w w1)(k:Below w1.heap.size w1 w2):Below w.heap.size w w2:=h.trans (k.mono h.size)
theorem ag{w w1:World}(h:Below w.heap.size w w1)(o:Obj):Below w.heap.size w (w1.alloc o):=h.alloc h.size o
theorem ap{w w1:World}(h:Below w.heap.size w w1):Below w.heap.size w w1.drew:=h.drew
theorem bh{w w1:World}(h:Below w.heap.size w w1)(n:Nat):Below w.heap.size w (w1.drewN n):=h.trans ⟨rfl,rfl,rfl,Nat.le_refl _,fun _ _=>rfl⟩
theorem av{w w1:World}{p:Addr}(h:Below w.heap.size w w1)(hp:w.heap.size≤p.block)(u:Value):Below w.heap.size w (w1.setCell p u):=h.setCell hp u
theorem bel_re(W:World)(o o':Obj):Below W.heap.size (W.alloc o) (W.alloc o'):=⟨rfl,rfl,rfl,by simp,fun k hk=>by rw[Below.heap_alloc _ _ _ hk,Below.heap_alloc _ _ _ hk]⟩
theorem eK{W:World}{p:Addr}{u:Value}{b o:Nat}(h:p.block≠b):(W.setCell p u).cell? ⟨b,o,none⟩=W.cell? ⟨b,o,none⟩:=World.cell?_of_block (w:=W) (Below.heap_setCell _ _ _ _ (fun e=>h e.symm))
theorem aq(w:World)(o:Obj):Below w.heap.size w (w.alloc o):=ag (Below.refl _ _) o
theorem az{W w1:World}(hb:Below W.heap.size W w1):(∀b o,b<W.heap.size→w1.cell? ⟨b,o,none⟩=W.cell? ⟨b,o,none⟩)∧(∀b o,b<W.heap.size→w1.frozen? ⟨b,o,none⟩=W.frozen? ⟨b,o,none⟩)∧(∀b,b<W.heap.size→b<w1.heap.size):=
 ⟨fun b o h=>hb.cell (p:=⟨b,o,none⟩) h,fun b o h=>hb.frozen (p:=⟨b,o,none⟩) h,fun b h=>Nat.lt_of_lt_of_le h hb.size⟩
theorem ae{p:Prop}(h:p):Hid p:=h
theorem ab{p:Prop}(h:Hid p):p:=h
theorem jg{a b:Int}(h:a=b):Ending.returned (.int .i64 a)= .returned (.int .i64 b):=by rw[h]
theorem aD{a b:Bool}(h:a=b):Ending.returned (.bool a)= .returned (.bool b):=by rw[h]
/-- The lesser and the greater of two. -/
def ft(a c:Int):Int:=if c<a then c else a
def fp(b d:Int):Int:=if b<d then d else b
theorem iG{a c:Int}(h:¬ c<a):ft a c=a:=if_neg h
theorem iH{a c:Int}(h:c<a):ft a c=c:=if_pos h
theorem iI{b d:Int}(h:¬ b<d):fp b d=b:=if_neg h
theorem iK{b d:Int}(h:b<d):fp b d=d:=if_pos h
/-- Whether a number is from least to most. -/
def bH(n a b:Int):Bool:=decide (a≤n∧n≤b)
theorem kM{n a b:Int}(h1:a≤n)(h2:n≤b):bH n a b=true:=decide_eq_true ⟨h1,h2⟩
theorem il{n a b:Int}(h:n<a∨b<n):bH n a b=false:=decide_eq_false (by omega)
theorem br{n a b:Int}:bH n a b=true↔a≤n∧n≤b:=by simp[bH]
end Go.Proofs.YtdmhihcipkhecaaGreat
namespace Go.Proofs.YtdmhihcipkhecaaGreat
open Go.ChangeShapes Go.WideShapes Go.ChangeAt Go.RowKit
/-- Bytes that lie behind a slice. -/
def cK(w:World)(a:Option Addr)(len:Nat):Prop:=len=0∨∃g o,a=some ⟨g,o,none⟩∧∀i,i<len→∃z:Int,w.cell? ⟨g,o+i,none⟩=some (.int .u8 z)∧0≤z∧z≤255
/-- The reader at block R: the code's bytes, and the place p. -/
structure Rd(R:Nat)(w:World)(a:Option Addr)(len cap p:Nat):Prop where
 cb:w.cell? ⟨R,0,none⟩=some (.slice a len cap)
 cp:w.cell? ⟨R,1,none⟩=some (.int .i64 (p:Int))
 fr:w.frozen? ⟨R,1,none⟩=false
 small:p≤1000000
 short:len≤2000
 bytes:cK w a len
 apart:∀g o,a=some ⟨g,o,none⟩→0<len→g<R
/-- All but the reader's block stays. -/
structure Kp(R:Nat)(w w':World):Prop where
 low:Below R w w'
 all:∀b,b<w.heap.size→b≠R→w'.heap[b]? =w.heap[b]?
theorem Kp.refl(R:Nat)(w:World):Kp R w w:=⟨Below.refl _ _,fun _ _ _=>rfl⟩
theorem Kp.trans{R:Nat}{w w1 w2:World}(h:Kp R w w1)(k:Kp R w1 w2):Kp R w w2:=⟨h.low.trans k.low,fun b hb hn=>(k.all b (Nat.lt_of_lt_of_le hb h.low.size) hn).trans (h.all b hb hn)⟩
theorem Kp.of_bel{R:Nat}{w w':World}(hR:R≤w.heap.size)(h:Below w.heap.size w w'):Kp R w w':=⟨h.mono hR,fun b hb _=>h.block b hb⟩
theorem Kp.set{R o:Nat}{w:World}(v:Value):Kp R w (w.setCell ⟨R,o,none⟩ v):=⟨(Below.refl R w).setCell (p:=⟨R,o,none⟩) (Nat.le_refl _) v,fun b hb hn=>Below.heap_setCell _ _ _ _ hn⟩
theorem Kp.cell{R b o:Nat}{w w':World}(h:Kp R w w')(hb:b<w.heap.size)(hn:b≠R):w'.cell? ⟨b,o,none⟩=w.cell? ⟨b,o,none⟩:=World.cell?_of_block (h.all b hb hn)
theorem rem_lt(x:Int){n:Int}(hn:1≤n):0≤x % n∧x % n<n:=⟨Int.emod_nonneg _ (by omega),Int.emod_lt_of_pos _ (by omega)⟩
theorem dec_ff{n:Int}(hn:1≤n):decide (n<1)=false:=by simp;omega
theorem len_ff{len:Nat}(h:¬ len=0):((len:Int)==0)=false:=by rw[beq_eq_false_iff_ne];omega
theorem tmod_lt{x n:Int}(h0:0≤x)(hn:1≤n):0≤x.tmod n∧x.tmod n<n:=by
 rw[Int.tmod_eq_emod_of_nonneg h0]
 exact rem_lt x hn
theorem xor_nn{X:Int}(h0:0≤X)(h1:X<4611686018427387904):0≤bits .xor .i64 X (X / 64):=by
 obtain⟨a,rfl⟩:=Int.eq_ofNat_of_zero_le h0
 have d:((a:Int) / 64)=((a / 64:Nat):Int):=by simp
 rw[d]
 have ha:a<4611686018427387904:=by omega
 have hb:a / 64<4611686018427387904:=Nat.lt_of_le_of_lt (Nat.div_le_self _ _) ha
 have hx:a ^^^ (a / 64)<2 ^ 62:=Nat.xor_lt_two_pow (by omega) (by omega)
 have k1:(BitVec.ofInt 64 (a:Int)).toNat=a:=by
  rw[BitVec.ofInt_natCast,BitVec.toNat_ofNat];exact Nat.mod_eq_of_lt (by omega)
 have k2:(BitVec.ofInt 64 ((a / 64:Nat):Int)).toNat=a / 64:=by
  rw[BitVec.ofInt_natCast,BitVec.toNat_ofNat];exact Nat.mod_eq_of_lt (by omega)
 show 0≤IntKind.i64.wrap ((BitVec.ofInt 64 (a:Int) ^^^ BitVec.ofInt 64 ((a / 64:Nat):Int)).toNat:Int)
 rw[BitVec.toNat_xor,k1,k2,IntKind.wrap_i64]
 omega
theorem Kp.draws(R:Nat)(w:World)(n:Nat):Kp R w (w.drewN n):=⟨⟨rfl,rfl,rfl,Nat.le_refl _,fun _ _=>rfl⟩,fun _ _ _=>rfl⟩
theorem Rd.draws{R:Nat}{w:World}{a:Option Addr}{len cap p:Nat}(h:Rd R w a len cap p)(n:Nat):Rd R (w.drewN n) a len cap p:=⟨h.1,h.2,h.3,h.4,h.5,h.6,h.7⟩
theorem mod_nat(p:Nat){len:Nat}(h:¬ len=0):∃i:Nat,(p:Int) % (len:Int)=(i:Int)∧i<len:=⟨p % len,by simp,Nat.mod_lt _ (by omega)⟩
theorem div_nat(p len:Nat):∃q:Nat,(p:Int) / (len:Int)=(q:Int)∧q≤p:=⟨p / len,by simp,Nat.div_le_self _ _⟩
theorem Rd.step{R:Nat}{w:World}{a:Option Addr}{len cap p:Nat}(h:Rd R w a len cap p)(hp:p<1000000):Rd R (w.setCell ⟨R,1,none⟩ (.int .i64 ((p:Int)+1))) a len cap (p+1):=by
 obtain⟨h1,h2,h3,h4,h5,h6,h7⟩:=h
 refine⟨?_,?_,?_,by omega,h5,?_,h7⟩
 ·rw[World.cell?_setCell_other _ _ _ _ (by simp)];exact h1
 ·exact World.cell?_setCell_same' _ _ _ (by rw[h2];rfl)
 ·rw[←h3];simp[go_sem]
 ·rcases h6 with h6|⟨g,o,ha,h6⟩
  ·exact Or.inl h6
  ·refine Or.inr ⟨g,o,ha,fun i hi=>?_⟩
   obtain⟨z,hz,hb⟩:=h6 i hi
   have:=h7 g o ha (by omega)
   exact⟨z,(eK (by simp;omega)).trans hz,hb⟩
def PickP(R:Nat)(w:World)(a:Option Addr)(len cap p:Nat)(n:Int)(e:Ending)(w':World):Prop:=∃x:Int,e= .returned (.int .i64 x)∧0≤x∧x<n∧Kp R w w'∧(p<1000000→Rd R w' a len cap (p+1))
set_option maxRecDepth 20000 in
set_option maxHeartbeats 1000000 in
theorem aG(R:Nat)(a:Option Addr)(len cap p:Nat)(n:Int)(w:World)(hn:1≤n)(hn2:n≤100000)(h:Rd R w a len cap p):Calls Tryz.prog 25 #[.pointer (some ⟨R,0,none⟩),.int .i64 n] w fun e w'=>PickP R w a len cap p n e w':=by
 have hst:=ae (fun q=>h.step q)
 obtain⟨hb,hp,hf,hs1,hs2,hby,hap⟩:=h
 by_cases hz:len=0
 ·subst hz
  clear hby hap
  go_enter Tryz.func25,Tryz.ntmps25
  go_wp2
  go_ret
  exact⟨0,rfl,by omega,by omega,Kp.set _,ab hst⟩
 ·obtain⟨g,o,rfl,hby'⟩:=hby.resolve_left hz
  have hgR:=hap g o rfl (by omega)
  have HB:=ae hby'
  clear hby hby' hap
  by_cases hk:(p:Int)<(len:Int)
  ·obtain⟨z,hc,z0,z1⟩:=ab HB p (by omega)
   have hc':(w.setCell ⟨R,1,none⟩ (.int .i64 ((p:Int)+1))).cell? ⟨g,o+p,none⟩=some (.int .u8 z):=(eK (by simp;omega)).trans hc
   have hr:=ae (rem_lt z hn)
   have q1:=dec_ff hn
   have q2:=len_ff hz
   go_enter Tryz.func25,Tryz.ntmps25
   go_wp2
   go_ret
   exact⟨_,rfl,(ab hr).1,(ab hr).2,Kp.set _,ab hst⟩
  ·obtain⟨i1,e1,l1⟩:=mod_nat p hz
   obtain⟨i2,e2,l2⟩:=mod_nat (p*7+3) hz
   obtain⟨q,e3,l3⟩:=div_nat p len
   obtain⟨z1,c1,z10,z11⟩:=ab HB i1 l1
   obtain⟨z2,c2,z20,z21⟩:=ab HB i2 l2
   have c1':(w.setCell ⟨R,1,none⟩ (.int .i64 ((p:Int)+1))).cell? ⟨g,o+i1,none⟩=some (.int .u8 z1):=(eK (by simp;omega)).trans c1
   have c2':(w.setCell ⟨R,1,none⟩ (.int .i64 ((p:Int)+1))).cell? ⟨g,o+i2,none⟩=some (.int .u8 z2):=(eK (by simp;omega)).trans c2
   have e2':((p:Int)*7+3) % (len:Int)=(i2:Int):=by rw[←e2];simp
   have q1:=dec_ff hn
   have q2:=len_ff hz
   have hk':decide ((p:Int)<(len:Int))=false:=by simp;omega
   clear e2 c1 c2 HB
   go_enter Tryz.func25,Tryz.ntmps25
   go_wp2
   go_quiet (fail)
   go_wp2
   have hr:=tmod_lt (xor_nn (X:=z1*131+z2*1117+(p:Int)*29+(q:Int)*53) (by omega) (by omega)) hn
   go_ret
   exact⟨_,rfl,hr.1,hr.2,(Kp.set _).trans (Kp.draws _ _ _),fun hq=>(ab hst hq).draws _⟩
def OpenP(w:World)(a:Option Addr)(e:Ending)(w':World):Prop:=∃R len cap,e= .returned (.pointer (some ⟨R,0,none⟩))∧w.heap.size≤R∧R<w'.heap.size∧Below w.heap.size w w'∧Rd R w' a len cap 0
theorem cK.bel{w w':World}{a:Option Addr}{len:Nat}(h:cK w a len)(hl:∀g o,a=some ⟨g,o,none⟩→0<len→g<w.heap.size)(hb:Below w.heap.size w w'):cK w' a len:=by
 rcases h with h|⟨g,o,ha,h⟩
 ·exact Or.inl h
 ·refine Or.inr ⟨g,o,ha,fun i hi=>?_⟩
  obtain⟨z,hz,q⟩:=h i hi
  exact⟨z,(hb.cell (p:=⟨g,o+i,none⟩) (hl g o ha (by omega))).trans hz,q⟩
theorem cK.less{w:World}{a:Option Addr}{len l:Nat}(h:cK w a len)(hl:l≤len):cK w a l:=by
 rcases h with h|⟨g,o,ha,h⟩
 ·exact Or.inl (by omega)
 ·exact Or.inr ⟨g,o,ha,fun i hi=>h i (by omega)⟩
theorem open_rd{w:World}{a:Option Addr}{len cap ty:Nat}(hs:len≤2000)(hb:cK w a len)(hl:∀g o,a=some ⟨g,o,none⟩→0<len→g<w.heap.size):Rd w.heap.size (w.alloc (.cells #[.slice a len cap,.int .i64 0] ty)) a len cap 0:=
 ⟨by simp[go_sem],by simp[go_sem],by simp[go_sem],by omega,hs,hb.bel hl (aq _ _),hl⟩
set_option maxRecDepth 20000 in
theorem open_any(a:Option Addr)(len cap:Nat)(w:World)(hlc:len≤cap)(hlm:len≤1048576)(hb:cK w a len)(hl:∀g o,a=some ⟨g,o,none⟩→0<len→g<w.heap.size)(hn:a=none→cap=0):Calls Tryz.prog 22 #[.slice a len cap] w fun e w'=>OpenP w a e w':=by
 have HB:=ae hb
 have HL:=ae hl
 clear hb hl
 by_cases hz:(2000:Int)<(len:Int)
 ·obtain⟨ad,rfl⟩:∃ad,a=some ad:=by
   cases a
   ·have:=hn rfl
    omega
   ·exact⟨_,rfl⟩
  go_enter Tryz.func22,Tryz.ntmps22
  go_wp2
  go_ret
  exact⟨_,2000,cap,rfl,Nat.le_refl _,by simp,aq _ _,open_rd (by omega) ((ab HB).less (by omega)) (fun g o e h=>ab HL g o e (by omega))⟩
 ·go_enter Tryz.func22,Tryz.ntmps22
  go_wp2
  go_ret
  exact⟨_,len,cap,rfl,Nat.le_refl _,by simp,aq _ _,open_rd (by omega) (ab HB) (ab HL)⟩
theorem Rd.kp{R:Nat}{w w':World}{a:Option Addr}{len cap p:Nat}(h:Rd R w a len cap p)(hR:R<w.heap.size)(hb:Below w.heap.size w w'):Rd R w' a len cap p:=by
 obtain⟨h1,h2,h3,h4,h5,h6,h7⟩:=h
 exact⟨(hb.cell (p:=⟨R,0,none⟩) hR).trans h1,(hb.cell (p:=⟨R,1,none⟩) hR).trans h2,(hb.frozen (p:=⟨R,1,none⟩) hR).trans h3,h4,h5,h6.bel (fun g o e h=>Nat.lt_trans (h7 g o e h) hR) hb,h7⟩
def RecP(R:Nat)(w:World)(a:Option Addr)(len cap p:Nat)(e:Ending)(w':World):Prop:=∃t k v:Int,e= .returned (.agg #[.int .i64 1,.int .i64 t,.int .i64 k,.int .i64 v,.int .i64 0])∧(0≤t∧t≤60)∧(0≤k∧k≤3)∧(-9≤v∧v≤9)∧Kp R w w'∧Rd R w' a len cap (p+4)
end Go.Proofs.YtdmhihcipkhecaaGreat
namespace Go.Proofs.YtdmhihcipkhecaaGreat
open Go.ChangeShapes Go.WideShapes Go.ChangeAt Go.RowKit Go.Deep
section
variable {H : Type} {enc : TypeId × Value → H} {P : Program} {w : World} {base : Nat} {spare : Nat → Bool} {held : Bool}
theorem open_bytes{t e:TypeId}{a:Option Addr}{len cap:Nat}{d:DataW H}{p:List MemPlace}(ht:P.underlying t=some (.slice e))(he:P.underlying e=some (.int .u8))(hC:P.cellsOf e=1)
  (h:DataW.Trod enc P w base spare held t (.slice a len cap) d p):len≤cap∧len≤maxLen∧cK w a len∧(∀g o,a=some ⟨g,o,none⟩→0<len→g<w.heap.size)∧(a=none→cap=0):=by
 obtain⟨fuel,hf⟩:=h
 rcases open_slice ht hf with⟨hcs,_⟩|⟨a',len',cap',m,n,D,Pl,hcs,_,hl,hm,hmm,_,hx⟩
 ·simp[Value.cells]at hcs
  obtain⟨rfl,rfl,rfl⟩:=hcs
  exact⟨Nat.le_refl _,Nat.zero_le _,Or.inl rfl,fun _ _ hne=>(by simp at hne),fun _=>rfl⟩
 ·simp[Value.cells]at hcs
  obtain⟨rfl,rfl,rfl⟩:=hcs
  have hlm:len≤m:=by rw[hmm];split<;>omega
  have hall:∀i,i<len→∃z:Int,(i=0→a'.spot=none)∧w.cell? ⟨a'.block,a'.off+i,none⟩=some (.int .u8 z)∧0≤z∧z≤255:=by
   intro i hi
   obtain⟨cs',h1,h2⟩:=hx i (by omega)
   rw[hC]at h1
   obtain⟨z,rfl,_,hw⟩:=DataW.trod_int he h2
   obtain⟨_,_,hc⟩:=World.cells?_some h1
   have c0:=hc 0 (by omega)
   have hsp:(a'.add (i*1)).spot=none:=World.cell?_spot (w:=w) (a:=a'.add (i*1)) (v:= .int .u8 z) (by simpa[Addr.add]using c0)
   have hb:0≤z∧z≤255:=by
    have:=bounds_u8 hw
    omega
   have ha:a'.add (i*1)=⟨a'.block,a'.off+i,none⟩:=by
    cases a' with
    |mk g o sp=>
     simp only[Addr.add]at hsp ⊢
     split at hsp<;>simp_all
   refine⟨z,fun h0=>?_,?_,hb⟩
   ·subst h0
    simpa[Addr.add]using hsp
   ·rw[←ha]
    simpa[Addr.add]using c0
  by_cases h0:len=0
  ·subst h0
   exact⟨by omega,by omega,Or.inl rfl,fun _ _ _ h=>by omega,fun hne=>(by simp at hne)⟩
  obtain⟨z0,s0,c0,_⟩:=hall 0 (by omega)
  have hs:=s0 rfl
  refine⟨hl,by omega,Or.inr ⟨a'.block,a'.off,by cases a';simp_all,fun i hi=>?_⟩,fun g o e _=>?_,fun hne=>(by simp at hne)⟩
  ·obtain⟨z,_,hz,hb⟩:=hall i hi
   exact⟨z,hz,hb⟩
  ·have e1:a'=⟨g,o,none⟩:=by simpa using e
   rw[e1]at c0
   rcases Nat.lt_or_ge g w.heap.size with hh|hh
   ·exact hh
   ·simp[World.cell?,Array.getElem?_eq_none hh]at c0
end
end Go.Proofs.YtdmhihcipkhecaaGreat
namespace Go.Proofs.YtdmhihcipkhecaaGreat
open Go.ChangeShapes Go.WideShapes Go.ChangeAt Go.RowKit Go.Maps
section
variable {κ V : Type} {P : Program} {k : TypeId} {R : Value → Option (DataW Value × List MemPlace)} {b n : Nat} {kv : κ → Value} {ok : κ → Prop} {dv : V → DataW Value} {m : κ → Option V} {w : World}
/-- A map's datum tells, at each key that is ok, what m says: a value, or nothing. -/
def OpD(P:Program)(k:TypeId)(kv:κ→Value)(ok:κ→Prop)(dv:V→DataW Value)(D:DataW Value)(m:κ→Option V):Prop:=
 ∀q,ok q→∀kl,keyOf P k (kv q)=some kl→(∀a,m q=some a→∀zd,D.atKey kl zd=dv a)∧(m q=none→has D kl=false)
/-- Block b is a map of at most n entries that tells what m says. -/
def bp(w:World)(P:Program)(k:TypeId)(R:Value→Option (DataW Value×List MemPlace))(b n:Nat)(kv:κ→Value)(ok:κ→Prop)(dv:V→DataW Value)(m:κ→Option V):Prop:=
 ∃D,w.ownsMap P k R b n D∧OpD P k kv ok dv D m
theorem bp.made(w:World)(P:Program)(k:TypeId)(R:Value→Option (DataW Value×List MemPlace))(kv:κ→Value)(ok:κ→Prop)(dv:V→DataW Value):bp (w.alloc (.map #[] 0)) P k R w.heap.size 0 kv ok dv (fun _=>none):=
 ⟨_,World.ownsMap_made w P k R,fun _ _ _ _=>⟨fun _ h=>(by cases h),fun _=>rfl⟩⟩
theorem bp.lt(h:bp w P k R b n kv ok dv m):b<w.heap.size:=by
 obtain⟨D,h,_⟩:=h
 exact h.lt
theorem bp.below{w':World}(h:bp w P k R b n kv ok dv m)(hb:Below w.heap.size w w'):bp w' P k R b n kv ok dv m:=by
 obtain⟨D,h,hf⟩:=h
 exact⟨D,h.kept ⟨hb.os,hb.tape,hb.output,hb.size,fun k hk _=>hb.block k hk⟩ (row:=none) (by simp),hf⟩
theorem bp.grown{w':World}{row:Option Nat}(h:bp w P k R b n kv ok dv m)(hg:w.grownBy w' row)(hne:some b≠row):bp w' P k R b n kv ok dv m:=by
 obtain⟨D,h,hf⟩:=h
 exact⟨D,h.kept hg hne,hf⟩
theorem bp.drew(h:bp w P k R b n kv ok dv m):bp w.drew P k R b n kv ok dv m:=h
theorem bp.more{n2:Nat}(h:bp w P k R b n kv ok dv m)(hn:n≤n2):bp w P k R b n2 kv ok dv m:=by
 obtain⟨D,h,hf⟩:=h
 exact⟨D,h.mono hn,hf⟩
/-- A map that lies where it lay. -/
theorem bp.keep{w':World}(h:bp w P k R b n kv ok dv m)(hb:w'.heap[b]? =w.heap[b]?):bp w' P k R b n kv ok dv m:=by
 obtain⟨D,⟨es,clock,h1,h2⟩,hf⟩:=h
 exact⟨D,⟨es,clock,hb.trans h1,h2⟩,hf⟩
theorem bp.look{t e:TypeId}(h:bp w P k R b n kv ok dv m)(K:Keyed P k)(ht:P.underlying t=some (.map k e)){z:Value}(hz:(zeroValue e).run P w= .ok z w){zd:DataW Value}{zp:List MemPlace}(hzd:R z=some (zd,zp))(hk:∀q,ok q→∃kl,keyOf P k (kv q)=some kl)(q:κ)(hq:ok q):
  ∃v ps,(Instr.lookup t (.map (some b)) (kv q) false).run P w= .ok v w∧R v=some ((m q).elim zd dv,ps):=by
 obtain⟨D,h,hf⟩:=h
 obtain⟨kl,hkl⟩:=hk q hq
 obtain⟨v,ps,h1,h2⟩:=h.lookup K ht hz hzd hkl
 refine⟨v,ps,h1,?_⟩
 rw[h2]
 obtain⟨f1,f2⟩:=hf q hq kl hkl
 cases hm:m q with
 |none=>rw[atKey_of_not_has (f2 hm)];rfl
 |some a=>rw[f1 a hm];rfl
theorem bp.store [DecidableEq κ]{t e:TypeId}(h:bp w P k R b n kv ok dv m)(K:Keyed P k)(ht:P.underlying t=some (.map k e))(hn:n<maxLen)(hk:∀q,ok q→∃kl,keyOf P k (kv q)=some kl)(hinj:∀q q',kv q=kv q'→q=q')(q:κ)(hq:ok q){val:Value}(a:V){ps:List MemPlace}(hv:R val=some (dv a,ps)):
  ∃w',(Instr.mapUpdate t (.map (some b)) (kv q) val).run P w= .ok () w'∧bp w' P k R b (n+1) kv ok dv (fun x=>if x=q then some a else m x)∧w.grownBy w' (some b):=by
 obtain⟨D,h,hf⟩:=h
 obtain⟨kl,hkl⟩:=hk q hq
 obtain⟨w',h1,h2,h3⟩:=h.update K ht hn hkl hv
 refine⟨w',h1,⟨_,h2,fun x hx kx hkx=>?_⟩,h3⟩
 by_cases e:x=q
 ·subst e
  rw[hkl]at hkx
  cases hkx
  simp only[if_true]
  exact⟨fun a' ha' zd=>by cases ha';exact atKey_put_same h.isMap (K.key hkl) _ _,fun h9=>by cases h9⟩
 ·have hne:kx≠kl:=fun e'=>e (hinj _ _ (K.inj (by rw[←e'];exact hkx) hkl))
  simp only[if_neg e]
  obtain⟨f1,f2⟩:=hf x hx kx hkx
  exact⟨fun a' ha' zd=>by rw[atKey_put_other hne];exact f1 a' ha' zd,fun h9=>by rw[has_put_other hne];exact f2 h9⟩
theorem bp.drop [DecidableEq κ]{t e:TypeId}(h:bp w P k R b n kv ok dv m)(K:Keyed P k)(ht:P.underlying t=some (.map k e))(hk:∀q,ok q→∃kl,keyOf P k (kv q)=some kl)(hinj:∀q q',kv q=kv q'→q=q')(q:κ)(hq:ok q)(ty:TypeId):
  ∃w',(Builtin.delete_ #[t,k] ty #[.map (some b),kv q]).run P w= .ok (.tuple #[]) w'∧bp w' P k R b n kv ok dv (fun x=>if x=q then none else m x)∧w.grownBy w' (some b):=by
 obtain⟨D,h,hf⟩:=h
 obtain⟨kl,hkl⟩:=hk q hq
 obtain⟨w',h1,h2,h3⟩:=h.drop K ht hkl ty
 refine⟨w',h1,⟨_,h2,fun x hx kx hkx=>?_⟩,h3.grown⟩
 by_cases e:x=q
 ·subst e
  rw[hkl]at hkx
  cases hkx
  simp only[if_true]
  exact⟨fun a' ha'=>(by cases ha'),fun _=>has_del_same⟩
 ·have hne:kx≠kl:=fun e'=>e (hinj _ _ (K.inj (by rw[←e'];exact hkx) hkl))
  simp only[if_neg e]
  obtain⟨f1,f2⟩:=hf x hx kx hkx
  exact⟨fun a' ha' zd=>by rw[atKey_del_other hne];exact f1 a' ha' zd,fun h9=>by rw[has_del_other hne];exact f2 h9⟩
/-- Keys that have come: no key twice; a key has come just where the map has it and it is no longer to come. -/
def fI(P:Program)(k:TypeId)(kv:κ→Value)(ok:κ→Prop)(D0:DataW Value)(left:Lit→Bool)(ss:List κ):Prop:=
 ss.Nodup∧(∀q ∈ ss,ok q)∧∀q,ok q→∀kl,keyOf P k (kv q)=some kl→(q ∈ ss↔(has D0 kl=true∧left kl=false))
theorem fI.start(P:Program)(k:TypeId)(kv:κ→Value)(ok:κ→Prop)(D0:DataW Value):fI P k kv ok D0 (has D0) []:=
 ⟨List.nodup_nil,fun q h=>(by cases h),fun q _ kl _=>by cases has D0 kl<;>simp⟩
theorem fI.step{D0:DataW Value}{left:Lit→Bool}{ss:List κ}(h:fI P k kv ok D0 left ss)(K:Keyed P k)(hinj:∀q q',kv q=kv q'→q=q'){x:κ}{kl:Lit}(hx:ok x)(hkl:keyOf P k (kv x)=some kl){y:DataW Value}(hlk:left kl=true)(hat:∀zd,D0.atKey kl zd=y):
  fI P k kv ok D0 (fun z=>left z&& !z.sameKey kl) (ss++[x]):=by
 have hhas:has D0 kl=true:=has_true_of_atKey hat
 have hnew:x ∉ ss:=fun h9=>by have:=((h.2.2 x hx kl hkl).1 h9).2;rw[hlk]at this;cases this
 refine⟨List.nodup_append.2 ⟨h.1,by simp,fun a ha b hb=>by simp at hb;subst hb;exact fun e=>hnew (e ▸ ha)⟩,fun q hq=>?_,fun q hq kq hkq=>?_⟩
 ·rcases List.mem_append.1 hq with hq|hq
  ·exact h.2.1 q hq
  ·rw[List.mem_singleton.1 hq];exact hx
 ·by_cases e:q=x
  ·subst e
   rw[hkl]at hkq
   cases hkq
   simp[hhas,WideAt.sameKey_self (K.key hkl)]
  ·have hne:kq≠kl:=fun e'=>e (hinj _ _ (K.inj (by rw[←e'];exact hkq) hkl))
   have hs:kq.sameKey kl=false:=by
    cases h9:kq.sameKey kl
    ·rfl
    ·exact absurd (WideAt.sameKey_eq h9) hne
   simp[h.2.2 q hq kq hkq,e,hs]
/-- At the end: just the keys at which there is something. -/
theorem fI.all{D0:DataW Value}{left:Lit→Bool}{ss:List κ}(h:fI P k kv ok D0 left ss)(hk:∀q,ok q→∃kl,keyOf P k (kv q)=some kl)(hD:OpD P k kv ok dv D0 m)(hl:∀kl,left kl=false):ss.Nodup∧∀q,q ∈ ss↔(ok q∧m q≠none):=by
 refine⟨h.1,fun q=>⟨fun hq=>?_,fun⟨hq,hm⟩=>?_⟩⟩
 ·have hok:=h.2.1 q hq
  obtain⟨kl,hkl⟩:=hk q hok
  refine⟨hok,fun h9=>?_⟩
  have h1:=((h.2.2 q hok kl hkl).1 hq).1
  rw[(hD q hok kl hkl).2 h9]at h1
  cases h1
 ·obtain⟨kl,hkl⟩:=hk q hq
  refine(h.2.2 q hq kl hkl).2 ⟨?_,hl kl⟩
  cases h9:m q with
  |none=>exact absurd h9 hm
  |some a=>exact has_true_of_atKey ((hD q hq kl hkl).1 a h9)
end
end Go.Proofs.YtdmhihcipkhecaaGreat
namespace Go.Proofs.YtdmhihcipkhecaaGreat
open Go.ChangeShapes Go.WideShapes Go.ChangeAt Go.RowKit Go.Maps Go.WideMaps
/-- A place as its three numbers. -/
abbrev P3:=Int×Int×Int
def v3(q:P3):Value:= .agg #[.int .i64 q.1,.int .i64 q.2.1,.int .i64 q.2.2]
def gx(q:P3):Prop:=(Lit.int .i64 q.1).wf=true∧(Lit.int .i64 q.2.1).wf=true∧(Lit.int .i64 q.2.2).wf=true
theorem inj3(q q':P3)(h:v3 q=v3 q'):q=q':=by
 obtain⟨a,b,c⟩:=q
 obtain⟨a',b',c'⟩:=q'
 simp[v3]at h
 obtain⟨h1,h2,h3⟩:=h
 subst h1 h2 h3
 rfl
theorem laid3:laidOutB Tryz.prog=true:=by kernel_rfl
theorem law3:KeyLaw Tryz.prog 87:=deep_law_laid laid3 (m:=3) (by omega) (of_decide_eq_true (by kernel_rfl)) (by kernel_rfl) (by kernel_rfl)
theorem key3:Keyed Tryz.prog 87:=Keyed.of_law law3
theorem keyOf3(v:Value):keyOf Tryz.prog 87 v=(if (Tryz.prog.keyType 87&&v.formed Tryz.prog 87)=true then(Tryz.prog.keyLits (Tryz.prog.types.size+1) 87 v.cells.toList).map (fun ls=> .string (keyBytes ls))else none):=by
 unfold keyOf
 rw[Tryz.underlying87]
set_option maxRecDepth 100000 in
theorem some3(q:P3)(h:gx q):∃kl,keyOf Tryz.prog 87 (v3 q)=some kl:=by
 obtain⟨h1,h2,h3⟩:=h
 have hN:∃m,Tryz.prog.types.size=m+3:=⟨Tryz.prog.types.size - 3,by kernel_rfl⟩
 obtain⟨m,hm⟩:=hN
 have c1:Tryz.prog.cellsOf 87=3:=by kernel_rfl
 have c2:Tryz.prog.cellsOf 48=2:=by kernel_rfl
 have c3:Tryz.prog.cellsOf 3=1:=by kernel_rfl
 have hk:Tryz.prog.keyType 87=true:=by kernel_rfl
 have hf:(v3 q).formed Tryz.prog 87=true:=by
  simp[v3,Value.formed,Tryz.underlying87,c1]
 have hL:Tryz.prog.keyLits (m+3+1) 87 [.int .i64 q.1,.int .i64 q.2.1,.int .i64 q.2.2]=some [.int .i64 q.1,.int .i64 q.2.1,.int .i64 q.2.2]:=by
  simp[Tryz.underlying87,Tryz.underlying48,Tryz.underlying3,Program.keyLits,c1,c2,c3,h1,h2,h3]
  rw[if_pos (by decide)]
  rfl
 have e:=keyOf3 (v3 q)
 rw[hk,hf,hm]at e
 simp only[Bool.and_self,↓reduceIte]at e
 have e2:(v3 q).cells.toList=[.int .i64 q.1,.int .i64 q.2.1,.int .i64 q.2.2]:=rfl
 rw[e2,hL]at e
 exact⟨_,e⟩
theorem iL {P : Program} {d : Nat} {t : TypeId} {cs : List Value} {fs : Array Field} (h : P.underlying t = some (.struct fs)) : P.keyLits (d + 1) t cs = if cs.length = P.cellsOf t ∧ fs.all (·.name != "_") = true then (fs.toList.mapM fun f => P.keyLits d f.type ((cs.drop f.offset).take (P.cellsOf f.type))).map List.flatten else none := by
 conv=>lhs;unfold Program.keyLits
 simp only[h]
theorem kN{P:Program}{d:Nat}{t:TypeId}{v:Value}{l:List Lit}(ht:P.underlying t=some (.int .i64))(h:P.keyLits (d+1) t [v]=some l):∃n,v= .int .i64 n∧(Lit.int .i64 n).wf=true:=by
 unfold Program.keyLits at h
 simp only[ht]at h
 cases v<;>simp at h
 rename_i q n
 obtain⟨⟨rfl,hw⟩,_⟩:=h
 exact⟨n,rfl,hw⟩
set_option maxRecDepth 100000 in
theorem inv3(v:Value)(kl:Lit)(h:keyOf Tryz.prog 87 v=some kl):∃q:P3,v=v3 q∧gx q:=by
 have hN:∃m,Tryz.prog.types.size=m+3:=⟨Tryz.prog.types.size - 3,by kernel_rfl⟩
 obtain⟨m,hm⟩:=hN
 have c1:Tryz.prog.cellsOf 87=3:=by kernel_rfl
 have c2:Tryz.prog.cellsOf 48=2:=by kernel_rfl
 have c3:Tryz.prog.cellsOf 3=1:=by kernel_rfl
 rw[keyOf3,hm]at h
 split at h
 case isFalse=>cases h
 rename_i hf
 rw[Bool.and_eq_true]at hf
 have hf2:=hf.2
 cases v<;>simp[Value.formed,Tryz.underlying87,c1]at hf2
 rename_i cs
 obtain⟨l⟩:=cs
 match l,hf2 with
 | [a,b,c],_=>
  have hL:∃l,Tryz.prog.keyLits (m+3+1) 87 [a,b,c]=some l:=by
   cases h9:Tryz.prog.keyLits (m+3+1) 87 [a,b,c]with
   |none=>rw[show(Value.agg {toList:=[a,b,c]}).cells.toList=[a,b,c]from rfl,h9]at h;cases h
   |some l=>exact⟨l,rfl⟩
  obtain⟨l,hL⟩:=hL
  rw[iL Tryz.underlying87]at hL
  simp[c1,c2,c3,iL Tryz.underlying48]at hL
  cases ha:Tryz.prog.keyLits (m+3) 3 [a]with
  |none=>simp[ha]at hL
  |some la=>
   cases hb:Tryz.prog.keyLits (m+2) 3 [b]with
   |none=>simp[ha,hb]at hL
   |some lb=>
    cases hc:Tryz.prog.keyLits (m+2) 3 [c]with
    |none=>simp[ha,hb,hc]at hL
    |some lc=>
     obtain⟨x,rfl,hx⟩:=kN Tryz.underlying3 ha
     obtain⟨y,rfl,hy⟩:=kN Tryz.underlying3 hb
     obtain⟨z,rfl,hz⟩:=kN Tryz.underlying3 hc
     exact⟨(x,y,z),rfl,hx,hy,hz⟩
end Go.Proofs.YtdmhihcipkhecaaGreat
namespace Go.Proofs.YtdmhihcipkhecaaGreat
open Go.RowKit Go.Shelf Go.Maps
attribute [local go_sem] Oper.semAt_some
theorem aB{W W':World}(h:Below W.heap.size W W'):W.grownBy W' none:=⟨h.os,h.tape,h.output,h.size,fun k hk _=>h.block k hk⟩
/-- What all keys are: each once, just those that are there. -/
def KeysAre(D0:DataW Value)(ss:List P3):Prop:=fI Tryz.prog 87 v3 gx D0 (fun _=>false) ss
set_option maxRecDepth 100000 in
set_option maxHeartbeats 2000000 in
theorem keysT_in(n:Nat)(hn:1≤n)(l Bm b nn:Nat)(D0:DataW Value){R:Value→Option (DataW Value×List MemPlace)}(J Jx:List P3→World→Prop)
  (hY:∀pre x W,J pre W→pre.length<Maps.size D0→YieldAt Fence.wide (n - 1) Tryz.prog l #[v3 x] W fun e W'=>
   (e= .returned (.bool true)∧J (pre++[x]) W'∧KeepsWalks W W')∨(e= .returned (.bool false)∧Jx (pre++[x]) W'))
  (W:World) (hJ:AbidesFrom W.heap.size J) (hm:W.cell? ⟨Bm,0,none⟩=some (.map (some b))) (hown:W.ownsMap Tryz.prog 87 R b nn D0) (h0:J [] W):
  CallsIn Fence.wide n Tryz.prog 99 #[.func (.yield l) #[] #[],.pointer (some ⟨Bm,0,none⟩)] W fun e W'=>(∃v,e= .returned v)∧
   ((∃ss:List P3,KeysAre D0 ss∧J ss W')∨(∃pre:List P3,True∧Jx pre W')):=by
 refine callsIn_of_wp Tryz.func99 rfl trivial ?_ rfl
 simp only[Tryz.ntmps99,List.size_toArray,List.length_cons,List.length_nil,Nat.reduceAdd,Nat.reduceSub,Array.replicate_succ,Array.replicate_zero,List.push_toArray,List.append_toArray,List.nil_append,List.cons_append]
 gi_wp2_with (first
  |(gi_at_range;refine wpListIn_range_own _ rfl _ 73 rfl 87 102 key3 Tryz.underlying73 _ b nn _ rfl hown ?_;intro w0 hrg0 hg0 hs0)
  |gi_in)
 go_frame
 gi_loopw [3] (fun _ wr=>∃(left:Lit→Bool) (cnt:Nat) (ss:List P3),wr.ranges Tryz.prog 87 R b W.heap.size nn D0 left cnt∧ss.length+cnt≤Maps.size D0∧fI Tryz.prog 87 v3 gx D0 left ss∧J ss wr)
  (fun _ wr=>wr.rangeLeft b W.heap.size)
 case atStart=>
  exact⟨_,_,[],hrg0,by simp,fI.start _ _ _ _ D0,hJ [] W w0 none h0 hg0 (fun r e=>by cases e)⟩
 case round=>
  obtain⟨left,cnt,ss,hrg,hcs,hC,hJs⟩:=hrel
  gi_wp2_with (first
   |(gi_at_next;refine wpListIn_next_ranges _ rfl _ rfl 87 key3 R v3 id (fun key kl hk=>by obtain⟨x,hx,_⟩:=inv3 key kl hk;exact⟨x,hx⟩) (fun v _ _=>⟨v,rfl⟩) b W.heap.size nn _ _ _ rfl hrg ?_ ?_)
   |gi_in)
  ·intro hc0 hl0
   have hl1:left=fun _=>false:=funext hl0
   subst hl1
   gi_wp2
   go_end0
   exact⟨⟨_,rfl⟩,.inl ⟨ss,hC,hJs⟩⟩
  ·intro xa xb xc c kl yd yp w2 cnt2 hkey hlk hv hat hrg2 hlt hg2 hs2 hen
   obtain⟨x',ex,hx⟩:=inv3 _ kl hkey
   obtain rfl:(xa,xb,xc)=x':=inj3 _ _ ex
   have hC2:=hC.step key3 inj3 hx hkey hlk hat
   have hrb:w2.heap.size≤(w2.alloc (.cells #[.int .i64 xa,.int .i64 xb,.int .i64 xc] 87)).heap.size:=by simp
   have hJ2:J ss w2:=hJ ss wr w2 (some W.heap.size) hJs hg2 (fun r e=>by cases e;exact⟨Nat.le_refl _,hrg.iter_walk⟩)
   have hJ2a:J ss (w2.alloc (.cells #[.int .i64 xa,.int .i64 xb,.int .i64 xc] 87)):=hJ ss w2 _ none hJ2 (aB (aq _ _)) (fun r e=>by cases e)
   have hrg2a:=hrg2.of_walks (KeepsWalks.alloc w2 (.cells #[.int .i64 xa,.int .i64 xb,.int .i64 xc] 87))
   obtain⟨fn,tmps,assign,body,hy,hR⟩:=hY ss (xa,xb,xc) _ hJ2a (by omega)
   clear hs2 hrb
   simp only[v3]at hy hen hR
   gi_wp2
   refine hR.mono ?_
   rintro e W3 (⟨rfl,hJ3,hk3⟩|⟨rfl,hJx3⟩)
   ·gi_wp2
    have hrg3:=hrg2a.of_walks hk3
    go_roundw
    case rel=>exact⟨_,cnt2,ss++[(xa,xb,xc)],hrg3,by simp;omega,hC2,hJ3⟩
    case measure=>rw[hrg3.left_eq,hrg.left_eq];exact hlt
   ·gi_wp2
    refine bodyPost_ret (results_none rfl _ _ _) rfl ?_
    exact⟨⟨_,rfl⟩,.inr ⟨ss++[(xa,xb,xc)],trivial,hJx3⟩⟩
/-- maps.Keys hands back a value that tells the keys. -/
theorem keysT_stops(n:Nat)(hn:1≤n)(Bm b nn:Nat)(D0:DataW Value){R:Value→Option (DataW Value×List MemPlace)}(w:World)(hBm:Bm<w.heap.size)
  (hm:w.cell? ⟨Bm,0,none⟩=some (.map (some b))) (hown:w.ownsMap Tryz.prog 87 R b nn D0):
  SeqStopsK Fence.wide n Tryz.prog 99 #[.pointer (some ⟨Bm,0,none⟩)] (fun x=>#[v3 x]) KeepsWalks (KeysAre D0) (fun _=>True) (Maps.size D0) w:=fun l J Jx W hW hJ _ hY h0=>by
 have hown':W.ownsMap Tryz.prog 87 R b nn D0:=by
  have hbl:=hown.lt
  obtain⟨es,clock,hb,Ft,hs,hD⟩:=hown
  exact⟨es,clock,(hW.block b hbl).trans hb,Ft,hs,hD⟩
 exact keysT_in n hn l Bm b nn D0 J Jx hY W hJ ((hW.cell (p:=⟨Bm,0,none⟩) hBm).trans hm) hown' h0
theorem keysT_any(mb:Nat)(w:World):Calls Tryz.prog 85 #[.map (some mb)] w fun e w'=>e= .returned (.func (.func 99) #[] #[.pointer (some ⟨w.heap.size,0,none⟩)])∧w'=w.alloc (.cells #[.map (some mb)] 73):=by
 go_enter Tryz.func85,Tryz.ntmps85
 go_wp2
 go_ret
 exact⟨rfl,rfl⟩
end Go.Proofs.YtdmhihcipkhecaaGreat
namespace Go.Proofs.YtdmhihcipkhecaaGreat
open Go.ChangeShapes Go.WideShapes Go.ChangeAt Go.RowKit
theorem im{b0 b1 a0 a1 a2 c0 c1 c2:Nat}{k0 k1 k2 l0 l1 l2:Value}{W W':World}(h:((W.cell? ⟨b0,a0,none⟩=some k0∧W.cell? ⟨b0,a1,none⟩=some k1∧W.cell? ⟨b0,a2,none⟩=some k2∧W.cell? ⟨b1,c0,none⟩=some l0∧W.cell? ⟨b1,c1,none⟩=some l1∧W.cell? ⟨b1,c2,none⟩=some l2)∧b0<W.heap.size∧b1<W.heap.size))(hb:Below W.heap.size W W'):((W'.cell? ⟨b0,a0,none⟩=some k0∧W'.cell? ⟨b0,a1,none⟩=some k1∧W'.cell? ⟨b0,a2,none⟩=some k2∧W'.cell? ⟨b1,c0,none⟩=some l0∧W'.cell? ⟨b1,c1,none⟩=some l1∧W'.cell? ⟨b1,c2,none⟩=some l2)∧b0<W'.heap.size∧b1<W'.heap.size):=by
 obtain⟨h99,s0,s1⟩:=h
 have e0:∀z,W'.cell? ⟨b0,z,none⟩=W.cell? ⟨b0,z,none⟩:=fun z=>hb.cell s0
 have e1:∀z,W'.cell? ⟨b1,z,none⟩=W.cell? ⟨b1,z,none⟩:=fun z=>hb.cell s1
 refine⟨?_,Nat.lt_of_lt_of_le s0 hb.size,Nat.lt_of_lt_of_le s1 hb.size⟩
 simp only[e0,e1]
 exact h99
/-- Which of two is ahead: below 0, 0 or above 0. -/
def fu(a b:Int):Int:=if a<b then -1 else if b<a then 1 else 0
def orI(x y z:Int):Int:=if x=0 then(if y=0 then z else y)else x
theorem cmpI_l{a b:Int}(h:a<b):fu a b= -1:=if_pos h
theorem cmpI_g{a b:Int}(h:b<a):fu a b=1:=by unfold fu;rw[if_neg (by omega),if_pos h]
theorem cmpI_e{a b:Int}(h1:¬ a<b)(h2:¬ b<a):fu a b=0:=by unfold fu;rw[if_neg h1,if_neg h2]
theorem orI_1{x y z:Int}(h:¬ x=0):orI x y z=x:=if_neg h
theorem orI_2{x y z:Int}(h:x=0)(h2:¬ y=0):orI x y z=y:=by unfold orI;rw[if_pos h,if_neg h2]
theorem orI_3{x y z:Int}(h:x=0)(h2:y=0):orI x y z=z:=by unfold orI;rw[if_pos h,if_pos h2]
theorem kO(a:Int)(w:World):Calls Tryz.prog 101 #[.int .i64 a] w fun e w'=>e= .returned (.bool false)∧w'=w:=by
 go_enter Tryz.func101,Tryz.ntmps101
 go_wp2
 go_ret
 exact⟨rfl,rfl⟩
theorem cmp_any(a b:Int)(w:World):Calls Tryz.prog 94 #[.int .i64 a,.int .i64 b] w fun e w'=>e= .returned (.int .i64 (fu a b))∧w'=w:=by
 by_cases h1:a<b
 ·have hq:=ae (cmpI_l h1)
  go_enter Tryz.func94,Tryz.ntmps94
  go_wp2_with (go_at_call 101;refine(kO _ _).mono ?_;rintro e wx ⟨rfl,hw⟩;obtain rfl:=hw.symm;clear hw)
  go_ret
  exact⟨jg (ab hq).symm,rfl⟩
 by_cases h2:b<a
 ·have hq:=ae (cmpI_g h2)
  go_enter Tryz.func94,Tryz.ntmps94
  go_wp2_with (go_at_call 101;refine(kO _ _).mono ?_;rintro e wx ⟨rfl,hw⟩;obtain rfl:=hw.symm;clear hw)
  go_ret
  exact⟨jg (ab hq).symm,rfl⟩
 have hq:=ae (cmpI_e h1 h2)
 go_enter Tryz.func94,Tryz.ntmps94
 go_wp2_with (go_at_call 101;refine(kO _ _).mono ?_;rintro e wx ⟨rfl,hw⟩;obtain rfl:=hw.symm;clear hw)
 go_ret
 exact⟨jg (ab hq).symm,rfl⟩
set_option maxHeartbeats 1000000 in
theorem or_any(x y z:Int)(g cap:Nat)(w:World)(h0:w.cell? ⟨g,0,none⟩=some (.int .i64 x))(h1:w.cell? ⟨g,1,none⟩=some (.int .i64 y))(h2:w.cell? ⟨g,2,none⟩=some (.int .i64 z)):Calls Tryz.prog 93 #[.slice (some ⟨g,0,none⟩) 3 cap] w fun e w'=>e= .returned (.int .i64 (orI x y z))∧w'=w:=by
 go_enter Tryz.func93,Tryz.ntmps93
 go_wp2
 go_loop [8] (fun i=>∃j:Nat,j≤3∧i= .int .i64 j∧Hid ((1≤j→x=0)∧(2≤j→y=0)∧(3≤j→z=0))) (fun i=>3 - (intOf i).toNat)
 case atStart=>exact⟨0,by omega,rfl,ae ⟨by omega,by omega,by omega⟩⟩
 case round=>
  obtain⟨j,hj,rfl,HZ⟩:=hrel
  rcases(show j=0∨j=1∨j=2∨j=3 by omega)with rfl|rfl|rfl|rfl
  ·by_cases hx:x=0
   ·have HZ2:Hid ((1≤1→x=0)∧(2≤1→y=0)∧(3≤1→z=0)):=ae ⟨fun _=>hx,by omega,by omega⟩
    go_wp2
    go_round
    case rel=>exact⟨1,by omega,rfl,HZ2⟩
    case measure=>simp[intOf]
   ·have HQ:=ae (orI_1 (y:=y) (z:=z) hx)
    have hx':(x==0)=false:=by simpa using hx
    go_wp2
    go_ret
    exact⟨jg (ab HQ).symm,rfl⟩
  ·by_cases hy:y=0
   ·have HZ2:Hid ((1≤2→x=0)∧(2≤2→y=0)∧(3≤2→z=0)):=ae ⟨fun _=>(ab HZ).1 (by omega),fun _=>hy,by omega⟩
    go_wp2
    go_round
    case rel=>exact⟨2,by omega,rfl,HZ2⟩
    case measure=>simp[intOf]
   ·have HQ:=ae (orI_2 (z:=z) ((ab HZ).1 (by omega)) hy)
    have hy':(y==0)=false:=by simpa using hy
    go_wp2
    go_ret
    exact⟨jg (ab HQ).symm,rfl⟩
  ·by_cases hz:z=0
   ·have HZ2:Hid ((1≤3→x=0)∧(2≤3→y=0)∧(3≤3→z=0)):=ae ⟨fun _=>(ab HZ).1 (by omega),fun _=>(ab HZ).2.1 (by omega),fun _=>hz⟩
    go_wp2
    go_round
    case rel=>exact⟨3,by omega,rfl,HZ2⟩
    case measure=>simp[intOf]
   ·have HQ:=ae (orI_3 (z:=z) ((ab HZ).1 (by omega)) ((ab HZ).2.1 (by omega)))
    have hz':(z==0)=false:=by simpa using hz
    go_wp2
    go_ret
    exact⟨jg (ab HQ).symm,rfl⟩
  ·have HQ:=ae ((orI_3 (z:=z) ((ab HZ).1 (by omega)) ((ab HZ).2.1 (by omega))).trans ((ab HZ).2.2 (by omega)))
   go_wp2
   go_ret
   exact⟨jg (ab HQ).symm,rfl⟩
/-- How two windows of keys stand. -/
def fB(ky st en ky' st' en':Int):Int:=orI (fu ky ky') (fu st st') (fu en en')
set_option maxRecDepth 20000 in
set_option maxHeartbeats 2000000 in
theorem cn(ky st en ky' st' en':Int)(w:World):Calls Tryz.prog 72 #[.agg #[.int .i64 ky,.int .i64 st,.int .i64 en],.agg #[.int .i64 ky',.int .i64 st',.int .i64 en']] w fun e w'=>e= .returned (.int .i64 (fB ky st en ky' st' en'))∧Below w.heap.size w w':=by
 go_enter Tryz.func72,Tryz.ntmps72
 go_wp2
 go_region_held3 (fun W=>((W.cell? ⟨w.heap.size,0,none⟩=some (.int .i64 ky)∧W.cell? ⟨w.heap.size,1,none⟩=some (.int .i64 st)∧W.cell? ⟨w.heap.size,2,none⟩=some (.int .i64 en)∧W.cell? ⟨w.heap.size+1,0,none⟩=some (.int .i64 ky')∧W.cell? ⟨w.heap.size+1,1,none⟩=some (.int .i64 st')∧W.cell? ⟨w.heap.size+1,2,none⟩=some (.int .i64 en'))∧w.heap.size<W.heap.size∧w.heap.size+1<W.heap.size)) ((first|((repeat(first|(with_reducible assumption)|(with_reducible refine im ?_ (by with_reducible assumption))|(with_reducible refine im ?_ (ap (Below.refl _ _)))|(with_reducible refine im ?_ (aq _ _))));done)|(refine⟨⟨?_,?_,?_,?_,?_,?_⟩,?_,?_⟩<;>first|(go_keep;done)|(simp;done)|(simp;omega)|omega)))
  (first
  |(go_at_call 94;refine(cmp_any _ _ _).mono ?_;rintro e wx ⟨rfl,hw⟩;obtain rfl:=hw.symm;clear hw)
  |(go_at_call 93;refine(or_any (fu ky ky') (fu st st') (fu en en') _ _ _ (by simp[go_sem]) (by simp[go_sem]) (by simp[go_sem])).mono ?_;rintro e wx ⟨rfl,hw⟩;obtain rfl:=hw.symm;clear hw))
 all_goals
  go_wp2
  go_ret
  exact⟨rfl,(el)⟩
theorem dr_alloc{n:Nat}{W:World}(h:n≤W.drawn)(o:Obj):n≤(W.alloc o).drawn:=h
theorem dr_set{n:Nat}{W:World}(h:n≤W.drawn)(p:Addr)(v:Value):n≤(W.setCell p v).drawn:=h
theorem dr_drew{n:Nat}{W:World}(h:n≤W.drawn):n≤W.drew.drawn:=Nat.le_succ_of_le h
theorem dr_drewN{n:Nat}{W:World}(h:n≤W.drawn)(m:Nat):n≤(W.drewN m).drawn:=Nat.le_trans h (Nat.le_add_right _ _)
theorem jU{w w':World}(h:Below w.heap.size w w')(hd:w.drawn≤w'.drawn):∃q os,w'=Go.Sort.grow (w.drewN q) os:=by
 refine⟨w'.drawn - w.drawn,w'.heap.extract w.heap.size w'.heap.size,?_⟩
 obtain⟨h1,h2,h3,h4,h5⟩:=h
 have hh:w'.heap=w.heap++w'.heap.extract w.heap.size w'.heap.size:=by
  apply Array.ext_getElem?
  intro k
  by_cases hk:k<w.heap.size
  ·rw[Array.getElem?_append_left hk,h5 k hk]
  ·rw[Array.getElem?_append_right (by omega),Array.getElem?_extract]
   by_cases hk2:k<w'.heap.size
   ·rw[if_pos (by omega)]
    congr 1
    omega
   ·rw[if_neg (by omega),Array.getElem?_eq_none (by omega)]
 cases w' with
 |mk heap tape drawn os output=>
  simp only at h1 h2 h3 hh hd
  subst h1 h2 h3
  simp only[Go.Sort.grow,World.drewN]
  rw[←hh]
  congr 1
  omega
set_option maxRecDepth 20000 in
set_option maxHeartbeats 2000000 in
theorem jV(ky st en ky' st' en':Int)(w:World):Calls Tryz.prog 72 #[.agg #[.int .i64 ky,.int .i64 st,.int .i64 en],.agg #[.int .i64 ky',.int .i64 st',.int .i64 en']] w fun e w'=>e= .returned (.int .i64 (fB ky st en ky' st' en'))∧Below w.heap.size w w'∧w.drawn≤w'.drawn:=by
 go_enter Tryz.func72,Tryz.ntmps72
 go_wp2
 go_region_held3 (fun W=>((W.cell? ⟨w.heap.size,0,none⟩=some (.int .i64 ky)∧W.cell? ⟨w.heap.size,1,none⟩=some (.int .i64 st)∧W.cell? ⟨w.heap.size,2,none⟩=some (.int .i64 en)∧W.cell? ⟨w.heap.size+1,0,none⟩=some (.int .i64 ky')∧W.cell? ⟨w.heap.size+1,1,none⟩=some (.int .i64 st')∧W.cell? ⟨w.heap.size+1,2,none⟩=some (.int .i64 en'))∧w.heap.size<W.heap.size∧w.heap.size+1<W.heap.size)) ((first|((repeat(first|(with_reducible assumption)|(with_reducible refine im ?_ (by with_reducible assumption))|(with_reducible refine im ?_ (ap (Below.refl _ _)))|(with_reducible refine im ?_ (aq _ _))));done)|(refine⟨⟨?_,?_,?_,?_,?_,?_⟩,?_,?_⟩<;>first|(go_keep;done)|(simp;done)|(simp;omega)|omega)))
  (first
  |(go_at_call 94;refine(cmp_any _ _ _).mono ?_;rintro e wx ⟨rfl,hw⟩;obtain rfl:=hw.symm;clear hw)
  |(go_at_call 93;refine(or_any (fu ky ky') (fu st st') (fu en en') _ _ _ (by simp[go_sem]) (by simp[go_sem]) (by simp[go_sem])).mono ?_;rintro e wx ⟨rfl,hw⟩;obtain rfl:=hw.symm;clear hw))
 all_goals
  go_wp2
  go_ret
  exact⟨rfl,(el),(by repeat(first|(with_reducible exact Nat.le_refl _)|(with_reducible refine dr_alloc ?_ _)|(with_reducible refine dr_set ?_ _ _)|(with_reducible refine dr_drew ?_)|(with_reducible refine dr_drewN ?_ _)))⟩
theorem kP(ky st en ky' st' en':Int)(w:World):Calls Tryz.prog 72 #[.agg #[.int .i64 ky,.int .i64 st,.int .i64 en],.agg #[.int .i64 ky',.int .i64 st',.int .i64 en']] w fun e w'=>e= .returned (.int .i64 (fB ky st en ky' st' en'))∧∃q os,w'=Go.Sort.grow (w.drewN q) os:=
 (jV ky st en ky' st' en' w).mono fun e w' ⟨h1,h2,h3⟩=>⟨h1,jU h2 h3⟩
end Go.Proofs.YtdmhihcipkhecaaGreat
namespace Go.Proofs.YtdmhihcipkhecaaGreat
open Go.ChangeShapes Go.WideShapes Go.ChangeAt Go.RowKit Go.Shelf Go.Lib Go.Sort
/-- A place as its three numbers; how two stand. -/
abbrev Pl:=Int×Int×Int
def fC(x:Pl):List Value:=[.int .i64 x.1,.int .i64 x.2.1,.int .i64 x.2.2]
def gy(x y:Pl):Int:=fB x.1 x.2.1 x.2.2 y.1 y.2.1 y.2.2
def bQ(x y:Pl):Prop:=x.1<y.1∨(x.1=y.1∧(x.2.1<y.2.1∨(x.2.1=y.2.1∧x.2.2<y.2.2)))
theorem cfPl_iff(x y:Pl):gy x y<0↔bQ x y:=by
 unfold gy fB orI fu bQ
 by_cases h1:x.1<y.1
 ·simp[h1]
 ·by_cases h2:y.1<x.1
  ·simp[h1,h2];omega
  ·have e1:x.1=y.1:=by omega
   by_cases h3:x.2.1<y.2.1
   ·simp[e1,h3]
   ·by_cases h4:y.2.1<x.2.1
    ·simp[e1,h3,h4];omega
    ·have e2:x.2.1=y.2.1:=by omega
     by_cases h5:x.2.2<y.2.2
     ·simp[e1,e2,h5]
     ·by_cases h6:y.2.2<x.2.2
      ·simp[e1,e2,h5,h6]
      ·simp[e1,e2,h5,h6]
theorem ltOfPl(x y:Pl):ltOf gy x y=true↔bQ x y:=by
 unfold ltOf
 rw[decide_eq_true_iff]
 exact cfPl_iff x y
theorem ea(x y:Pl):ltOf gy x y=false↔¬ bQ x y:=by
 rw[←ltOfPl]
 simp
theorem swoPl:SWO (ltOf gy) where
 irrefl x:=by rw[ea];unfold bQ;omega
 trans x y z h1 h2:=by rw[ltOfPl]at *;unfold bQ at *;omega
 ntrans x y z h1 h2:=by rw[ea]at *;unfold bQ at *;omega
theorem totPl(x y:Pl)(h1:ltOf gy x y=false)(h2:ltOf gy y x=false):x=y:=by
 rw[ea]at h1 h2
 unfold bQ at h1 h2
 obtain⟨a,b,c⟩:=x
 obtain⟨a',b',c'⟩:=y
 simp only at h1 h2
 have e1:a=a':=by omega
 have e2:b=b':=by omega
 have e3:c=c':=by omega
 rw[e1,e2,e3]
theorem cmpPl(blk off size:Nat)(w:World):CmpLays Tryz.prog 72 #[] fC 3 gy blk off size w:=by
 intro m os dk hd x y
 exact kP x.1 x.2.1 x.2.2 y.1 y.2.1 y.2.2 _
theorem sortpl_any(blk off cap:Nat)(d:Array Pl)(w:World)(hH:HoldsK fC 3 w blk off d)(hblk:blk<w.heap.size)(hsz:d.size<4611686018427387904):
  Calls Tryz.prog 98 #[.slice (some ⟨blk,off,none⟩) d.size cap,.func (.func 72) #[] #[]] w fun e w'=>
   e= .returned (.tuple #[])∧∃n os,w'=sortWorldK fC 3 w blk off n (d.toList.mergeSort fun x y=> !(ltOf gy) y x).toArray os:=by
 have eg:∀args w,(callFunc 72 args).run Tryz.prog w= .ok (.enter 72 args) w:=enters_of Tryz.func72 (by kernel_rfl) rfl
 exact AnyQ.slices_SortFunc_total Tryz.sortPl 3 Tryz.isAgg87 Tryz.sizeOf87 fC (fun _=>rfl) (fun x v hv=>by simp[fC]at hv;rcases hv with rfl|rfl|rfl<;>rfl) gy swoPl _ #[] blk off cap d w eg (cmpPl blk off d.size w) hH hblk hsz totPl
end Go.Proofs.YtdmhihcipkhecaaGreat
namespace Go.Proofs.YtdmhihcipkhecaaGreat
open Go.RowKit Go.Shelf
attribute [local go_sem] Oper.semAt_some
theorem Tryz.infoP3:(Tryz.prog.info? 87).map (fun i=>(i.zero,i.size,i.bytes))=some (some (.agg #[.int .i64 0,.int .i64 0,.int .i64 0]),3,24):=by kernel_rfl
def dS(x:P3):List Value:=[.int .i64 x.1,.int .i64 x.2.1,.int .i64 x.2.2]
def fh(xs:List P3):List Value:=xs.flatMap dS
theorem flat3_snoc(xs:List P3)(x:P3):fh (xs++[x])=fh xs++[.int .i64 x.1,.int .i64 x.2.1,.int .i64 x.2.2]:=by simp[fh,dS]
theorem kh(xs:List P3):(fh xs).length=xs.length*3:=by
 induction xs with
 |nil=>rfl
 |cons x r ih=>show(dS x++fh r).length=_;rw[List.length_append,ih];simp[dS];omega
def kQ(W:World)(B:Nat)(v:Value)(xs:List P3):Prop:=W.ownsRow B 87 3 v xs.length (fh xs)
theorem cells_new3(w:World)(a b c:Int)(ty:Nat):∀j u,([.int .i64 a,.int .i64 b,.int .i64 c]:List Value)[j]? =some u→(w.alloc (.cells #[.int .i64 a,.int .i64 b,.int .i64 c] ty)).cell? ((⟨w.heap.size,0,none⟩:Addr).add j)=some u:=by
 intro j u hj
 have e:((⟨w.heap.size,0,none⟩:Addr).add j)=⟨w.heap.size,j,none⟩:=by
  unfold Addr.add
  split
  ·rename_i h0;rw[h0]
  ·simp
 rw[e]
 simpa[go_sem]using hj
def Bx3(W:World)(q:Nat)(x:P3):Prop:=W.heap[q]? =some (.cells #[.int .i64 x.1,.int .i64 x.2.1,.int .i64 x.2.2] 87 (0,0))
theorem Bx3.new(W:World)(x:P3):Bx3 (W.alloc (.cells #[.int .i64 x.1,.int .i64 x.2.1,.int .i64 x.2.2] 87)) W.heap.size x:=World.alloc_heap_new W _
theorem Bx3.cells{W:World}{q:Nat}{x:P3}(h:Bx3 W q x):W.cell? ⟨q,0,none⟩=some (.int .i64 x.1)∧W.cell? ⟨q,1,none⟩=some (.int .i64 x.2.1)∧W.cell? ⟨q,2,none⟩=some (.int .i64 x.2.2):=⟨(cA h 0),(cA h 1),(cA h 2)⟩
theorem grown_of3{W W':World}(h:Below W.heap.size W W'):W.grownBy W' none:=⟨h.os,h.tape,h.output,h.size,fun k hk _=>h.block k hk⟩
theorem walks_app{W w1:World}{n₀ B:Nat}{e:TypeId}{size:Nat}{v v':Value}{q:Nat}{ys:List Value}{tmp:Obj}(hrow:W.ownsRow n₀ e size v q ys)(ml:(W.alloc tmp).grownBy w1 v.ownBlock):KeepsWalks W (w1.setCell ⟨B,0,none⟩ v'):=by
 refine((KeepsWalks.alloc W tmp).trans (KeepsWalks.of_grownBy ml (fun j o hj ho=>?_))).trans (KeepsWalks.setCell _ _ _)
 rcases(hrow.alloc tmp).2 with⟨rfl,_⟩|⟨g,cap,cur,rfl,_,hgb,_⟩
 ·simp[Value.ownBlock]at hj
 ·have:g=j:=by simpa[Value.ownBlock]using hj
  subst this;rw[hgb]at ho;cases ho;rfl
/-- The frame of a round. -/
def act3(w:World)(gf:Nat)(lb:Array Value)(x:P3)(q:Nat):Act:= {tmps:=#[.slice none 0 0,.func (.func gf) #[] lb,.pointer (some ⟨w.heap.size,0,none⟩),undef,.slice none 0 0,.pointer (some ⟨q,0,none⟩),.func (.func gf) #[] lb,.agg #[.int .i64 x.1,.int .i64 x.2.1,.int .i64 x.2.2],undef,undef,undef,undef,undef],defers:=[]}
set_option maxRecDepth 100000 in
set_option maxHeartbeats 4000000 in
theorem appendseq3(gf:Nat)(lb:Array Value)(eg:∀args w,(callFunc gf args).run Tryz.prog w= .ok (.enter gf args) w)(S Sp:List P3→Prop)(N:Nat)(hN:N≤1048577)(w:World)
  (hseq:SeqStopsK Fence.wide 5 Tryz.prog gf lb (fun x:P3=>#[.agg #[.int .i64 x.1,.int .i64 x.2.1,.int .i64 x.2.2]]) KeepsWalks S Sp N w):
  Calls Tryz.prog 106 #[.slice none 0 0,.func (.func gf) #[] lb] w fun e' w'=>∃v' ss,e'= .returned v'∧S ss∧ss.length≤N∧kQ w' w.heap.size v' ss∧Below w.heap.size w w':=by
 obtain⟨i0,hi,hz0',hz1',hz2'⟩:=info_parts Tryz.infoP3
 refine(callsIn_wide (n:=6)).1 ?_
 refine callsIn_of_wp_marks Tryz.func106 rfl trivial ?_ rfl
 simp only[Tryz.ntmps106,List.size_toArray,List.length_cons,List.length_nil,Nat.reduceAdd,Nat.reduceSub,Array.replicate_succ,Array.replicate_zero,List.push_toArray,List.append_toArray,List.nil_append,List.cons_append]
 gi_wp2
 have bS:=Boxed.new w 125 (.slice none 0 0)
 have hB0:Below w.heap.size w (w.alloc (.cells #[.slice none 0 0] 125)):=aq _ _
 refine wpIn_rangeFunc_ownH rfl (by omega) (gf:=gf) (lb:=lb) rfl trivial eg
  hseq KeepsWalks.trans walksK_b hB0 (fun _=>rfl)
  (fun pre W=>(∃v,Boxed W w.heap.size 125 v∧W.ownsRow w.heap.size 87 3 v pre.length (fh pre)∧pre.length≤N)∧Below w.heap.size w W)
  (fun _ _ _=>False)
  (OwnFrom.and (Own.from (holdsRow_own w.heap.size w.heap.size 125 87 3 (fun pre:List P3=>pre.length) (fun pre=>fh pre) (fun pre _=>pre.length≤N)) _) (ownFrom_below (Nat.le_refl _) (by simp)))
  (fun _ _ _ _ _ hs _ _=>hs)
  ⟨⟨_,bS,World.ownsRow_nil _ _ _ _,Nat.zero_le _⟩,hB0⟩
  (fun x a' W=>∃q,a'=act3 w gf lb x q∧Bx3 W q x)
  (fun x a' _ W W' row hs hg hr=>by
   obtain⟨q,e1,hq⟩:=hs
   refine⟨q,e1,(hg.block q (Array.getElem?_eq_some_iff.1 hq).1 (fun e9=>?_)).trans hq⟩
   obtain⟨_,o,ho,hc⟩:=hr q e9.symm
   rw[hq]at ho
   cases ho
   cases hc) ?assign ?body ?done ?stop
 case assign=>
  rintro lb0 pre x W K ⟨⟨rv,hv,hrow,hpN⟩,hB⟩ hK
  have HK:=hK (act3 w gf lb x W.heap.size) (W.alloc (.cells #[.int .i64 x.1,.int .i64 x.2.1,.int .i64 x.2.2] 87)) ((KeepsOthers.of_grownBy (grown_of3 (aq W _)) (fun _ _ e=>by cases e)).from _) (KeepsWalks.alloc _ _) ⟨⟨rv,hv.alloc _,hrow.alloc _,hpN⟩,ag hB _⟩ ⟨_,rfl,Bx3.new W x⟩
  clear hK
  unfold act3 at HK
  gi_wp2
  exact HK
 case body=>
  rintro lb0 pre x a' W hlb _ ⟨⟨rv,hv,hrow,hpN⟩,hB⟩ ⟨q,rfl,hq⟩ hpl
  have hcv:=hv.cell
  have hz1:=hv.lt
  have hfv:=hv.frozen
  have HR:=ae hrow
  have HV:=ae hv
  obtain⟨x0,x1,x2⟩:=hq.cells
  have hlq:=(Array.getElem?_eq_some_iff.1 hq).1
  clear hB0 bS hrow hv hq
  unfold act3
  gi_wp2_with (gi_at_builtin;go_loud (refine wpListIn_append_own _ rfl _ _ 125 rfl w.heap.size 87 i0 _ 3 24 Tryz.underlying125 hi hz0' hz1' hz2' rfl (by decide) rv _ _ rfl (World.ownsRow.alloc (ab HR) _) ⟨W.heap.size,0,none⟩ 1 1 [.int .i64 x.1,.int .i64 x.2.1,.int .i64 x.2.2] rfl rfl (cells_new3 W x.1 x.2.1 x.2.2 _) (by simp[Value.oneCell']) (by unfold maxLen;omega) (by omega) (by simp;omega) ?_);intro v' w2 hown' ml _;obtain⟨g',cap',rfl⟩:=ownsRow_succ hown';obtain⟨mr,mD,hr2,hk2,hb2⟩:=Boxed.appended (ab HV) (by decide) (ab HR) (by omega) (Nat.le_refl _) hown' ml;have hkp:=walks_app (B:=w.heap.size) (v':= .slice (some ⟨g',0,none⟩) (pre.length+1) cap') (ab HR) ml;have hcc:=mr.cell;have hff:=mr.frozen;have HV3:=ae mD;have HR3:=ae hr2;clear mr mD hr2 hown' ml)
  exact⟨hk2.from _,hkp,⟨_,ab HV3,by rw[flat3_snoc,List.length_append];exact ab HR3,by rw[List.length_append];simp;omega⟩,hB.trans hb2⟩
 case done=>
  rintro D ys W hD hys ⟨⟨rv,hv,hrow,hpN⟩,hB⟩ hK
  have hcv:=hv.cell
  have HR:=ae hrow
  clear hrow
  gi_wp2
  refine⟨by simp,.inl ⟨_,_,rfl,run_takeDeferred hK,?_⟩⟩
  exact⟨_,results_tmp rfl _ _ _,rv,ys,rfl,hys,hpN,ownsRow_putObj (ab HR) _ hK rfl,hB.trans (belowK_b (w:=w) (Nat.le_refl _) W D _ _ (by simp at hD;omega) hK rfl rfl)⟩
 case stop=>
  rintro D c pre W _ _ hx _
  exact hx.elim
theorem collect3(gf:Nat)(lb:Array Value)(eg:∀args w,(callFunc gf args).run Tryz.prog w= .ok (.enter gf args) w)(S Sp:List P3→Prop)(N:Nat)(hN:N≤1048577)(w:World)
  (hseq:SeqStopsK Fence.wide 5 Tryz.prog gf lb (fun x:P3=>#[.agg #[.int .i64 x.1,.int .i64 x.2.1,.int .i64 x.2.2]]) KeepsWalks S Sp N w):
  Calls Tryz.prog 97 #[.func (.func gf) #[] lb] w fun e' w'=>∃v' ss,e'= .returned v'∧S ss∧ss.length≤N∧kQ w' w.heap.size v' ss∧Below w.heap.size w w':=by
 go_enter Tryz.func97,Tryz.ntmps97
 go_wp2_with fail
 refine(appendseq3 gf lb eg S Sp N hN _ hseq).mono ?_
 rintro e' w' ⟨v',ss,rfl,hS,hl,hO,hb⟩
 go_wp2_with fail
 go_ret
 exact⟨_,ss,rfl,hS,hl,hO,hb⟩
end Go.Proofs.YtdmhihcipkhecaaGreat
namespace Go.Proofs.YtdmhihcipkhecaaGreat
open Go.RowKit Go.Shelf Go.Sort Go.Lib
theorem ip:∀(ss:List P3) (t:Nat),t<ss.length*3→(fh ss)[t]? =(dS ss[t / 3]!)[t % 3]?
 | [],t,h=>by simp at h
 |x :: r,t,h=>by
  show(dS x++fh r)[t]? =_
  by_cases h3:t<3
  ·rw[List.getElem?_append_left (by simp[dS];omega),Nat.div_eq_of_lt h3,Nat.mod_eq_of_lt h3]
   rfl
  ·rw[List.getElem?_append_right (by simp[dS];omega)]
   have hl:(dS x).length=3:=rfl
   rw[hl,ip r (t - 3) (by simp at h;omega)]
   have e1:t / 3=(t - 3) / 3+1:=by omega
   have e2:t % 3=(t - 3) % 3:=by omega
   rw[e1,e2]
   simp
theorem flatK3(ss:List P3):(Go.Sort.flatK fC 3 ss.toArray).toList=fh ss:=by
 apply List.ext_getElem?
 intro t
 by_cases h:t<ss.length*3
 ·rw[ip ss t h,Array.getElem?_toList,Array.getElem?_eq_getElem (by rw[size_flatK];simpa using h)]
  have h9:=get_flatK fC 3 ss.toArray t (by simpa using h)
  rw[getElem!_pos _ t (by rw[size_flatK];simpa using h)]at h9
  rw[h9]
  have hm:t % 3<3:=Nat.mod_lt _ (by omega)
  have hq:ss.toArray[t / 3]! =ss[t / 3]! :=by simp
  rw[hq]
  have hc:(fC ss[t / 3]!)=dS ss[t / 3]! :=rfl
  rw[hc]
  generalize ss[t / 3]! =y
  have hy:t % 3<(dS y).length:=hm
  rw[getElem!_pos (dS y) _ hy,List.getElem?_eq_getElem hy]
 ·rw[Array.getElem?_toList,Array.getElem?_eq_none (by rw[size_flatK];simp;omega),List.getElem?_eq_none (by rw[kh];omega)]
theorem take_putV(F cur:Array Value)(h:F.size≤cur.size):(putCells id 0 F cur).toList.take F.size=F.toList:=by
 apply List.ext_getElem?
 intro j
 by_cases hj:j<F.size
 ·rw[List.getElem?_take_of_lt hj,Array.getElem?_toList,Array.getElem?_toList]
  simp[putCells,hj,show j<cur.size by omega]
 ·rw[List.getElem?_take_eq_none (by omega),List.getElem?_eq_none (by simp;omega)]
theorem heap_srt{w:World}{g n:Nat}{os:Array Obj}{cur:Array Value}{e:TypeId}{fr:Nat×Nat}(F:Array Value)(hb:w.heap[g]? =some (.cells cur e fr)):
  (grow (putRow id (Sort.ahead w n) g 0 F) os).heap[g]? =some (.cells (putCells id 0 F cur) e fr):=by
 have hg:g<w.heap.size:=(Array.getElem?_eq_some_iff.1 hb).1
 rw[heap_grow_old _ _ (by simpa using hg)]
 simp[putRow,mapBlock,Sort.ahead,Array.getElem?_modify,hb,onCells]
theorem below_srt{w:World}{g n B:Nat}{os:Array Obj}(F:Array Value)(hB:B≤g)(hw:B≤w.heap.size):Below B w (grow (putRow id (Sort.ahead w n) g 0 F) os):=by
 refine⟨rfl,rfl,rfl,by simp,fun k hk=>?_⟩
 rw[heap_grow_old _ _ (by simp;omega)]
 have:g≠k:=by omega
 simp[putRow,mapBlock,Sort.ahead,Array.getElem?_modify,this]
/-- Places in order. -/
def fG(ss:List P3):List P3:=ss.mergeSort fun x y=> !(ltOf gy) y x
theorem fK(ss:List P3):(fG ss).length=ss.length:=List.length_mergeSort ss
theorem fY(ss:List P3):(fG ss).Perm ss:=List.mergeSort_perm ss _
theorem sort3_any(B:Nat)(v:Value)(ss:List P3)(w:World)(h:kQ w B v ss)(hB:B≤w.heap.size)(hl:ss.length≤1048577):Calls Tryz.prog 98 #[v,.func (.func 72) #[] #[]] w fun e w'=>
  e= .returned (.tuple #[])∧kQ w' B v (fG ss)∧Below B w w':=by
 obtain⟨h0,hc⟩:=h
 by_cases hz:ss.length=0
 ·obtain rfl:ss=[]:=List.eq_nil_of_length_eq_zero hz
  have hv:∃p cap,v= .slice p 0 cap:=by
   rcases hc with⟨rfl,_⟩|⟨g,cap,cur,rfl,_⟩
   ·exact⟨_,_,rfl⟩
   ·exact⟨_,_,rfl⟩
  obtain⟨p,cap,rfl⟩:=hv
  refine(AnyF.slices_SortFunc_none Tryz.sortPl p cap _ w).mono ?_
  rintro e w' ⟨rfl,rfl⟩
  have e0:fG []=[]:=by simp[fG]
  rw[e0]
  exact⟨rfl,⟨h0,hc⟩,Below.refl _ _⟩
 ·obtain⟨g,cap,cur,rfl,hg,hblk,h1,h2,h3,h4⟩:=hc.resolve_left (fun h=>hz h.2)
  have hsz:(Go.Sort.flatK fC 3 ss.toArray).size=ss.length*3:=by simp
  have hH:HoldsK fC 3 w g 0 ss.toArray:=by
   intro j hj
   rw[hsz]at hj
   refine⟨?_,by simp[World.frozen?,hblk]⟩
   rw[Nat.zero_add,cA hblk j,←Array.getElem?_toList]
   have h5:(cur.toList.take (ss.length*3))[j]? =(fh ss)[j]? :=by rw[h4]
   rw[List.getElem?_take_of_lt hj]at h5
   rw[h5,←flatK3,Array.getElem?_toList,Array.getElem?_eq_getElem (by rw[hsz];exact hj),getElem!_pos _ j (by rw[hsz];exact hj)]
   rfl
  have hgl:g<w.heap.size:=(Array.getElem?_eq_some_iff.1 hblk).1
  have h9:=sortpl_any g 0 cap ss.toArray w hH hgl (by simp;omega)
  rw[List.size_toArray]at h9
  refine h9.mono ?_
  rintro e w' ⟨rfl,n,os,rfl⟩
  have hF:(Go.Sort.flatK fC 3 (fG ss).toArray).size=ss.length*3:=by simp[fK]
  refine⟨rfl,⟨by rw[kh],.inr ⟨g,cap,_,by rw[fK],hg,heap_srt _ hblk,by rw[fK];exact h1,h2,by simp[putCells,h3],?_⟩⟩,below_srt _ hg hB⟩
  have h8:=take_putV (Go.Sort.flatK fC 3 (fG ss).toArray) cur (by rw[hF,h3];exact Nat.mul_le_mul_right 3 h1)
  rw[hF,flatK3]at h8
  rw[fK]
  exact h8
theorem sorted3(gf:Nat)(lb:Array Value)(eg:∀args w,(callFunc gf args).run Tryz.prog w= .ok (.enter gf args) w)(S Sp:List P3→Prop)(N:Nat)(hN:N≤1048577)(w:World)
  (hseq:SeqStopsK Fence.wide 5 Tryz.prog gf lb (fun x:P3=>#[.agg #[.int .i64 x.1,.int .i64 x.2.1,.int .i64 x.2.2]]) KeepsWalks S Sp N w):
  Calls Tryz.prog 84 #[.func (.func gf) #[] lb,.func (.func 72) #[] #[]] w fun e' w'=>∃v' ss,e'= .returned v'∧S ss∧ss.length≤N∧kQ w' w.heap.size v' (fG ss)∧Below w.heap.size w w':=by
 go_enter Tryz.func84,Tryz.ntmps84
 go_wp2_with fail
 refine(collect3 gf lb eg S Sp N hN _ hseq).mono ?_
 rintro e' w1 ⟨v',ss,rfl,hS,hl,hO,hb⟩
 go_wp2_with fail
 refine(sort3_any w.heap.size v' ss _ hO hb.size (by omega)).mono ?_
 rintro e' w2 ⟨rfl,hO2,hb2⟩
 go_wp2_with fail
 go_ret
 exact⟨_,ss,rfl,hS,hl,hO2,hb.trans hb2⟩
theorem na{p:Prop}(h:p:=by repeat(first|(with_reducible exact Below.refl _ _)|(with_reducible refine ag ?_ _)|(with_reducible refine ap ?_)|(with_reducible refine bh ?_ _))):p:=h
theorem nc{p:Prop}(h:p:=by repeat(first|(with_reducible exact Below.refl _ _)|(with_reducible assumption)|(with_reducible refine ap ?_)|(with_reducible refine bh ?_ _))):p:=h
theorem nf{p:Prop}(h:p:=by first|assumption|(simp(maxDischargeDepth:=9) [go_sem, *];done)):p:=h
theorem ng{p:Prop}(h:p:=by simp(maxDischargeDepth:=9) [results,Tryz.results89,go_sem, *]):p:=h
theorem nh{p:Prop}(h:p:=by simp(maxDischargeDepth:=9) [results,Tryz.results63,go_sem, *]):p:=h
theorem ni{p:Prop}(h:p:=by simp(maxDischargeDepth:=9) [results,Tryz.results77,go_sem, *]):p:=h
theorem nj{p:Prop}(h:p:=by simp(maxDischargeDepth:=9) [results,Tryz.results15,go_sem, *]):p:=h
theorem nk{p:Prop}(h:p:=by simp(maxDischargeDepth:=9) [results,Tryz.results75,go_sem, *]):p:=h
theorem nl{p:Prop}(h:p:=by simp(maxDischargeDepth:=9) [results,Tryz.results76,go_sem, *]):p:=h
theorem nm{p:Prop}(h:p:=by simp(maxDischargeDepth:=9) [results,Tryz.results54,go_sem, *]):p:=h
theorem np{p:Prop}(h:p:=by simp(maxDischargeDepth:=9) [results,Tryz.results51,go_sem, *]):p:=h
theorem nq{p:Prop}(h:p:=by simp(maxDischargeDepth:=9) [results,Tryz.results53,go_sem, *]):p:=h
theorem ns{p:Prop}(h:p:=by simp(maxDischargeDepth:=9) [results,Tryz.results23,go_sem, *]):p:=h
theorem nt{p:Prop}(h:p:=by simp(maxDischargeDepth:=9) [results,Tryz.results27,go_sem, *]):p:=h
theorem nu{p:Prop}(h:p:=by simp(maxDischargeDepth:=9) [results,Tryz.results9,go_sem, *]):p:=h
theorem nx{p:Prop}(h:p:=by simp(maxDischargeDepth:=9) [results,Tryz.results8,go_sem, *]):p:=h
theorem ny{p:Prop}(h:p:=by first|exact Or.inl rfl|exact Or.inr (by simp)):p:=h
theorem nB{p:Prop}(h:p:=by simp[results,Tryz.results105,go_sem]<;>omega):p:=h
theorem nC{p:Prop}(h:p:=by simp[results,Tryz.results79,go_sem]<;>omega):p:=h
theorem nD{p:Prop}(h:p:=by simp[results,Tryz.results87,go_sem]<;>omega):p:=h
theorem nE{p:Prop}(h:p:=by simp[results,Tryz.results88,go_sem]<;>omega):p:=h
theorem nF{p:Prop}(h:p:=by first|assumption|(simp;done)|(simp;omega)):p:=h
theorem nH{p:Prop}(h:p:=by simp[results,Tryz.results55,go_sem]):p:=h
theorem nK{p:Prop}(h:p:=by with_reducible assumption):p:=h
theorem nL{p:Prop}(h:p:=by rw[List.length_map];omega):p:=h
theorem nN{p:Prop}(h:p:=by first|(simp;omega)|omega):p:=h
theorem nO{p:Prop}(h:p:=by first|omega|(simp;omega)):p:=h
theorem nP{p:Prop}(h:p:=by simp only[gA,gZ,gS];rfl):p:=h
theorem nQ{p:Prop}(h:p:=by intro _ _ _ h;exact h):p:=h
theorem nT{p:Prop}(h:p:=by simp[Value.oneCell']):p:=h
theorem nU{p:Prop}(h:p:=by simp;try omega):p:=h
theorem nV{p:Prop}(h:p:=by simp[go_sem]):p:=h
theorem nY{p:Prop}(h:p:=by simp<;>omega):p:=h
theorem nZ{p:Prop}(h:p:=by assumption):p:=h
theorem oa{p:Prop}(h:p:=by simp;omega):p:=h
theorem oc{p:Prop}(h:p:=by kernel_rfl):p:=h
end Go.Proofs.YtdmhihcipkhecaaGreat
