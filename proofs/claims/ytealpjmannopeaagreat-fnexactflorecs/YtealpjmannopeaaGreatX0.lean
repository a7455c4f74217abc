/- Laid together: what the claim needs of the texts that were built one by one. -/
import Derived.Below
import Derived.BigQuiet
import Derived.Carry
import Derived.ChangeOld
import Derived.Deep.DeepCutAuto
import Derived.Deep.Fields
import Derived.Deep.QuietTactic
import Derived.Deep.RegionHeld3
import Derived.Deep.Slices
import Derived.Lib.SmallJoins
import Derived.OpenShut
import Derived.OwnWalk
import Derived.ProofKit
import Derived.RangeFuncRecord
import Derived.ShutString
import Derived.Test.YtealpjmannopeaaGreatRows
import Derived.WalkKit
import Derived.WalkSpells
set_option linter.unusedVariables false
namespace Go.Proofs.YtealpjmannopeaaGreat
/- Short names for library rows. -/
theorem tA{α:Type _}{l:List α}{i:Nat}{a:α}:l.toArray.setIfInBounds i a=(l.set i a).toArray:=List.setIfInBounds_toArray l i a
theorem tZ{α:Type _}{x a:α}{l:List α}:(x :: l).set 0 a=a :: l:=rfl
theorem tS{α:Type _}{x a:α}{l:List α}{i:Nat}:(x :: l).set (i+1) a=x :: l.set i a:=rfl
theorem gA{α:Type _}{l:List α}{i:Nat}:l.toArray[i]? =l[i]? :=List.getElem?_toArray
theorem gZ{α:Type _}{x:α}{l:List α}:(x :: l)[0]? =some x:=rfl
theorem gS{α:Type _}{x:α}{l:List α}{i:Nat}:(x :: l)[i+1]? =l[i]? :=rfl
open Go.ChangeShapes Go.WideShapes Go.ChangeAt Go.RowKit
theorem kT{P:Program}{ops:Array Oper}{Q:Exit→Act→World→Prop}{md:Region.Mode}{S:World→Prop}(i:Nat){oi:Oper}{fuel:Nat}{listed:Array Bool}{a:Act}{w:World}(v:Value)(y:∀w,S w→(execOp a.eval oi).run P w= .ok (.value v) w)(h:wpAnyH P md ops Q S fuel (listed.setIfInBounds i true) (a.put oi.dst v) w)(h1:ops[i]? =some oi:=by simp only[gA,gZ,gS];rfl)(h2:Region.noSelect ops=true:=by kernel_rfl)(h3:Region.free md ops listed i=true:=by kernel_rfl)(h4:(Region.ready md ops listed).contains i=true:=by kernel_rfl)(h5:∀c a w,Q (.panic c) (a.put oi.dst v) w→Q (.panic c) a w:=by intro _ _ _ h;exact h)(h6:Region.wanted oi (yielded ops a.tmps)=true:=by rfl)(h7:S w:=by assumption):wpAnyH P md ops Q S (fuel+1) listed a w:=wpAnyH_take h1 h2 h3 h4 h5 (Or.inl ⟨h6,y⟩) h7 h
theorem kU{P:Program}{ops:Array Oper}{Q:Exit→Act→World→Prop}{md:Region.Mode}{S:World→Prop}(i:Nat){oi:Oper}{fuel:Nat}{listed:Array Bool}{a:Act}{w:World}(h:wpAnyH P md ops Q S fuel (listed.setIfInBounds i true) (a.put oi.dst undef) w)(h1:ops[i]? =some oi:=by simp only[gA,gZ,gS];rfl)(h2:Region.noSelect ops=true:=by kernel_rfl)(h3:Region.free md ops listed i=true:=by kernel_rfl)(h4:(Region.ready md ops listed).contains i=true:=by kernel_rfl)(h5:∀c a w,Q (.panic c) (a.put oi.dst undef) w→Q (.panic c) a w:=by intro _ _ _ h;exact h)(h6:Region.wanted oi (yielded ops a.tmps)=false:=by rfl)(h7:S w:=by assumption):wpAnyH P md ops Q S (fuel+1) listed a w:=wpAnyH_take (v:=undef) h1 h2 h3 h4 h5 (Or.inr ⟨h6,rfl⟩) h7 h
theorem cA{w:World}{g:Nat}{cs:Array Value}{t:TypeId}{fr:Nat×Nat}(h:w.heap[g]? =some (.cells cs t fr))(i:Nat):w.cell? ⟨g,i,none⟩=cs[i]? :=Joins.cell_of_block h i
theorem cF{w:World}{g:Nat}{cs:Array Value}{t:TypeId}(h:w.heap[g]? =some (.cells cs t (0,0)))(i:Nat):w.frozen? ⟨g,i,none⟩=false:=Joins.unfrozen_of_block h i
theorem zB{B:Nat}{w w':World}(hb:Below B w w'){n:Nat}(h:w.heap.size≤w'.heap.size→n<w'.heap.size:=by intro h9;(try simp at h9);omega):n<w'.heap.size:=h hb.size
theorem sN{w:World}{p:Addr}{u:Value}{b:Nat}{x:Option Obj}(h:w.heap[b]? =x)(hn:b≠p.block:=by(try dsimp only);omega):(w.setCell p u).heap[b]? =x:=(Below.heap_setCell _ _ _ _ hn).trans h
theorem c2{w:World}{g:Nat}{t:TypeId}{fr:Nat×Nat}{u0 u1:Value}(h:w.heap[g]? =some (.cells #[u0,u1] t fr)):w.cell? ⟨g,0,none⟩=some u0∧w.cell? ⟨g,1,none⟩=some u1:=⟨cA h 0,cA h 1⟩
theorem f2{w:World}{g:Nat}{cs:Array Value}{t:TypeId}(h:w.heap[g]? =some (.cells cs t (0,0))):w.frozen? ⟨g,0,none⟩=false∧w.frozen? ⟨g,1,none⟩=false:=⟨cF h 0,cF h 1⟩
theorem c4{w:World}{g:Nat}{t:TypeId}{fr:Nat×Nat}{u0 u1 u2 u3:Value}(h:w.heap[g]? =some (.cells #[u0,u1,u2,u3] t fr)):w.cell? ⟨g,0,none⟩=some u0∧w.cell? ⟨g,1,none⟩=some u1∧w.cell? ⟨g,2,none⟩=some u2∧w.cell? ⟨g,3,none⟩=some u3:=⟨cA h 0,cA h 1,cA h 2,cA h 3⟩
theorem f4{w:World}{g:Nat}{cs:Array Value}{t:TypeId}(h:w.heap[g]? =some (.cells cs t (0,0))):w.frozen? ⟨g,0,none⟩=false∧w.frozen? ⟨g,1,none⟩=false∧w.frozen? ⟨g,2,none⟩=false∧w.frozen? ⟨g,3,none⟩=false:=⟨cF h 0,cF h 1,cF h 2,cF h 3⟩
theorem c5{w:World}{g:Nat}{t:TypeId}{fr:Nat×Nat}{u0 u1 u2 u3 u4:Value}(h:w.heap[g]? =some (.cells #[u0,u1,u2,u3,u4] t fr)):w.cell? ⟨g,0,none⟩=some u0∧w.cell? ⟨g,1,none⟩=some u1∧w.cell? ⟨g,2,none⟩=some u2∧w.cell? ⟨g,3,none⟩=some u3∧w.cell? ⟨g,4,none⟩=some u4:=⟨cA h 0,cA h 1,cA h 2,cA h 3,cA h 4⟩
theorem f5{w:World}{g:Nat}{cs:Array Value}{t:TypeId}(h:w.heap[g]? =some (.cells cs t (0,0))):w.frozen? ⟨g,0,none⟩=false∧w.frozen? ⟨g,1,none⟩=false∧w.frozen? ⟨g,2,none⟩=false∧w.frozen? ⟨g,3,none⟩=false∧w.frozen? ⟨g,4,none⟩=false:=⟨cF h 0,cF h 1,cF h 2,cF h 3,cF h 4⟩
theorem c9{w:World}{g:Nat}{t:TypeId}{fr:Nat×Nat}{u0 u1 u2 u3 u4 u5 u6 u7 u8:Value}(h:w.heap[g]? =some (.cells #[u0,u1,u2,u3,u4,u5,u6,u7,u8] t fr)):w.cell? ⟨g,0,none⟩=some u0∧w.cell? ⟨g,1,none⟩=some u1∧w.cell? ⟨g,2,none⟩=some u2∧w.cell? ⟨g,3,none⟩=some u3∧w.cell? ⟨g,4,none⟩=some u4∧w.cell? ⟨g,5,none⟩=some u5∧w.cell? ⟨g,6,none⟩=some u6∧w.cell? ⟨g,7,none⟩=some u7∧w.cell? ⟨g,8,none⟩=some u8:=⟨cA h 0,cA h 1,cA h 2,cA h 3,cA h 4,cA h 5,cA h 6,cA h 7,cA h 8⟩
theorem f9{w:World}{g:Nat}{cs:Array Value}{t:TypeId}(h:w.heap[g]? =some (.cells cs t (0,0))):w.frozen? ⟨g,0,none⟩=false∧w.frozen? ⟨g,1,none⟩=false∧w.frozen? ⟨g,2,none⟩=false∧w.frozen? ⟨g,3,none⟩=false∧w.frozen? ⟨g,4,none⟩=false∧w.frozen? ⟨g,5,none⟩=false∧w.frozen? ⟨g,6,none⟩=false∧w.frozen? ⟨g,7,none⟩=false∧w.frozen? ⟨g,8,none⟩=false:=⟨cF h 0,cF h 1,cF h 2,cF h 3,cF h 4,cF h 5,cF h 6,cF h 7,cF h 8⟩
theorem c10{w:World}{g:Nat}{t:TypeId}{fr:Nat×Nat}{u0 u1 u2 u3 u4 u5 u6 u7 u8 u9:Value}(h:w.heap[g]? =some (.cells #[u0,u1,u2,u3,u4,u5,u6,u7,u8,u9] t fr)):w.cell? ⟨g,0,none⟩=some u0∧w.cell? ⟨g,1,none⟩=some u1∧w.cell? ⟨g,2,none⟩=some u2∧w.cell? ⟨g,3,none⟩=some u3∧w.cell? ⟨g,4,none⟩=some u4∧w.cell? ⟨g,5,none⟩=some u5∧w.cell? ⟨g,6,none⟩=some u6∧w.cell? ⟨g,7,none⟩=some u7∧w.cell? ⟨g,8,none⟩=some u8∧w.cell? ⟨g,9,none⟩=some u9:=⟨cA h 0,cA h 1,cA h 2,cA h 3,cA h 4,cA h 5,cA h 6,cA h 7,cA h 8,cA h 9⟩
theorem f10{w:World}{g:Nat}{cs:Array Value}{t:TypeId}(h:w.heap[g]? =some (.cells cs t (0,0))):w.frozen? ⟨g,0,none⟩=false∧w.frozen? ⟨g,1,none⟩=false∧w.frozen? ⟨g,2,none⟩=false∧w.frozen? ⟨g,3,none⟩=false∧w.frozen? ⟨g,4,none⟩=false∧w.frozen? ⟨g,5,none⟩=false∧w.frozen? ⟨g,6,none⟩=false∧w.frozen? ⟨g,7,none⟩=false∧w.frozen? ⟨g,8,none⟩=false∧w.frozen? ⟨g,9,none⟩=false:=⟨cF h 0,cF h 1,cF h 2,cF h 3,cF h 4,cF h 5,cF h 6,cF h 7,cF h 8,cF h 9⟩
theorem c13{w:World}{g:Nat}{t:TypeId}{fr:Nat×Nat}{u0 u1 u2 u3 u4 u5 u6 u7 u8 u9 u10 u11 u12:Value}(h:w.heap[g]? =some (.cells #[u0,u1,u2,u3,u4,u5,u6,u7,u8,u9,u10,u11,u12] t fr)):w.cell? ⟨g,0,none⟩=some u0∧w.cell? ⟨g,1,none⟩=some u1∧w.cell? ⟨g,2,none⟩=some u2∧w.cell? ⟨g,3,none⟩=some u3∧w.cell? ⟨g,4,none⟩=some u4∧w.cell? ⟨g,5,none⟩=some u5∧w.cell? ⟨g,6,none⟩=some u6∧w.cell? ⟨g,7,none⟩=some u7∧w.cell? ⟨g,8,none⟩=some u8∧w.cell? ⟨g,9,none⟩=some u9∧w.cell? ⟨g,10,none⟩=some u10∧w.cell? ⟨g,11,none⟩=some u11∧w.cell? ⟨g,12,none⟩=some u12:=⟨cA h 0,cA h 1,cA h 2,cA h 3,cA h 4,cA h 5,cA h 6,cA h 7,cA h 8,cA h 9,cA h 10,cA h 11,cA h 12⟩
theorem f13{w:World}{g:Nat}{cs:Array Value}{t:TypeId}(h:w.heap[g]? =some (.cells cs t (0,0))):w.frozen? ⟨g,0,none⟩=false∧w.frozen? ⟨g,1,none⟩=false∧w.frozen? ⟨g,2,none⟩=false∧w.frozen? ⟨g,3,none⟩=false∧w.frozen? ⟨g,4,none⟩=false∧w.frozen? ⟨g,5,none⟩=false∧w.frozen? ⟨g,6,none⟩=false∧w.frozen? ⟨g,7,none⟩=false∧w.frozen? ⟨g,8,none⟩=false∧w.frozen? ⟨g,9,none⟩=false∧w.frozen? ⟨g,10,none⟩=false∧w.frozen? ⟨g,11,none⟩=false∧w.frozen? ⟨g,12,none⟩=false:=⟨cF h 0,cF h 1,cF h 2,cF h 3,cF h 4,cF h 5,cF h 6,cF h 7,cF h 8,cF h 9,cF h 10,cF h 11,cF h 12⟩
theorem kV{P:Program}{ops:Array Oper}{Q:Exit→Act→World→Prop}{md:Region.Mode}{S:World→Prop}(i:Nat){oi:Oper}{fuel:Nat}{listed:Array Bool}{a a':Act}{w:World}{v:Value}(h:wpAnyH P md ops Q S fuel (listed.setIfInBounds i true) a' w)(h1:ops[i]? =some oi:=by simp only[gA,gZ,gS];rfl)(h2:Region.noSelect ops=true:=by kernel_rfl)(h3:Region.free md ops listed i=true:=by kernel_rfl)(h4:(Region.ready md ops listed).contains i=true:=by kernel_rfl)(y:∀w,S w→(execOp a.eval oi).run P w= .ok (.value v) w:=by intro w9 hSw;(try dsimp only at hSw);go_simp<;>with_reducible rfl)(h5:∀c a w,Q (.panic c) (a.put oi.dst v) w→Q (.panic c) a w:=by intro _ _ _ h;exact h)(h6:Region.wanted oi (yielded ops a.tmps)=true:=by rfl)(h7:S w:=by assumption)(ha:a.put oi.dst v=a':=by(try simp only[Act.put,tA,tZ,tS]);rfl):wpAnyH P md ops Q S (fuel+1) listed a w:=by subst ha;exact kT i v y h h1 h2 h3 h4 h5 h6 h7
theorem rD{P:Program}{ops:Array Oper}{Q:Exit→Act→World→Prop}{md:Region.Mode}{S:World→Prop}(i:Nat){o:Oper}{fuel:Nat}{listed:Array Bool}{a:Act}{w:World}(h:∀K':Act→World→Prop,Go.Shut (∀a w,S w→(S w→wpAnyH P md ops Q S fuel (listed.setIfInBounds i true) a w)→K' a w)→if Region.wanted o (yielded ops a.tmps)=true then Oper.wp P o a w K' Q else K' (a.put o.dst undef) w)(ho:ops[i]? =some o:=by simp only[gA,gZ,gS];rfl)(hr:Region.ready md ops listed=[i]:=by kernel_rfl):wpAnyH P md ops Q S (fuel+1) listed a w:=wpAnyH_ready hr (by simp) (AllReadyH.cons ho h AllReadyH.nil)
theorem nA{w:World}{o:Obj}{b:Nat}(h:w.heap.size=b:=by first|rfl|(simp;done)):(w.alloc o).heap[b]? =some o:=by subst h;exact World.alloc_heap_new w o
theorem aN{w:World}{o:Obj}{b:Nat}{x:Option Obj}(h:w.heap[b]? =x)(hb:b<w.heap.size:=by first|(simp;done)|(simp;omega)):(w.alloc o).heap[b]? =x:=(Below.heap_alloc _ _ _ hb).trans h
theorem zA{B:Nat}{w w':World}(hb:Below B w w')(n:Nat)(h:w.heap.size≤w'.heap.size→n<w'.heap.size:=by intro h9;(try simp at h9);omega):n<w'.heap.size:=h hb.size
theorem ak{B:Nat}{w W:World}(h:Below B w W:=by repeat(first|(with_reducible exact Below.refl _ _)|(with_reducible assumption)|(with_reducible refine aV ?_ (by first|(simp;done)|(simp;omega)) _)|(with_reducible refine aB ?_ _)|(with_reducible refine aj ?_)|(with_reducible refine aK ?_ _)|(with_reducible refine ae ?_ (by with_reducible assumption)))):Below B w W:=h
theorem ar{B:Nat}{w W:World}(h:Below B w W:=by repeat(first|(with_reducible refine aV ?_ (by first|(simp;done)|(simp;omega)) _)|(with_reducible refine aB ?_ _)|(with_reducible exact Below.refl _ _)|(with_reducible assumption)|(with_reducible refine aj ?_)|(with_reducible refine aK ?_ _)|(with_reducible refine ae ?_ (by with_reducible assumption)))):Below B w W:=h
theorem aL{B:Nat}{w W:World}(h:Below B w W:=by repeat(first|exact Below.refl _ _|exact ai _ _|assumption|refine aB ?_ _|refine aV ?_ (by first|(simp;done)|(simp;omega)) _|refine aj ?_|refine aK ?_ _|refine ae ?_ (by assumption))):Below B w W:=h
theorem sA{p:Prop}(h:p:=by first|(simp;done)|(simp;omega)):p:=h
theorem sB{p:Prop}(h:p:=by first|omega|(simp;done)|(simp;omega)):p:=h
theorem sC{p:Prop}(h:p:=by first|(simp;done)|(simp;omega)|omega):p:=h
end Go.Proofs.YtealpjmannopeaaGreat
namespace Go.Proofs.YtealpjmannopeaaGreat
open Go.ChangeShapes Go.WideShapes Go.ChangeAt Go.RowKit Go.Deep
theorem aW{z:Int}(h:(Lit.int .i64 z).wf=true): -9223372036854775808≤z∧z≤9223372036854775807:=by
 have:=bounds_i64 h;omega
theorem ae{w w1 w2:World}(h:Below w.heap.size w w1)(k:Below w1.heap.size w1 w2):Below w.heap.size w w2:=h.trans (k.mono h.size)
theorem aB{w w1:World}(h:Below w.heap.size w w1)(o:Obj):Below w.heap.size w (w1.alloc o):=h.alloc h.size o
theorem aj{w w1:World}(h:Below w.heap.size w w1):Below w.heap.size w w1.drew:=h.drew
theorem aK{w w1:World}(h:Below w.heap.size w w1)(n:Nat):Below w.heap.size w (w1.drewN n):=h.trans ⟨rfl,rfl,rfl,Nat.le_refl _,fun _ _=>rfl⟩
theorem aV{w w1:World}{p:Addr}(h:Below w.heap.size w w1)(hp:w.heap.size≤p.block)(u:Value):Below w.heap.size w (w1.setCell p u):=h.setCell hp u
theorem aH{W:World}{p:Addr}{u:Value}{b o:Nat}(h:p.block≠b):(W.setCell p u).cell? ⟨b,o,none⟩=W.cell? ⟨b,o,none⟩:=World.cell?_of_block (w:=W) (Below.heap_setCell _ _ _ _ (fun e=>h e.symm))
theorem ai(w:World)(o:Obj):Below w.heap.size w (w.alloc o):=aB (Below.refl _ _) o
theorem ac{W w1:World}(hb:Below W.heap.size W w1):(∀b o,b<W.heap.size→w1.cell? ⟨b,o,none⟩=W.cell? ⟨b,o,none⟩)∧(∀b o,b<W.heap.size→w1.frozen? ⟨b,o,none⟩=W.frozen? ⟨b,o,none⟩)∧(∀b,b<W.heap.size→b<w1.heap.size):=
 ⟨fun b o h=>hb.cell (p:=⟨b,o,none⟩) h,fun b o h=>hb.frozen (p:=⟨b,o,none⟩) h,fun b h=>Nat.lt_of_lt_of_le h hb.size⟩
theorem ab{p:Prop}(h:p):Hid p:=h
theorem aa{p:Prop}(h:Hid p):p:=h
theorem db{a b:Int}(h:a=b):Ending.returned (.int .i64 a)= .returned (.int .i64 b):=by rw[h]
theorem af{a b:Bool}(h:a=b):Ending.returned (.bool a)= .returned (.bool b):=by rw[h]
/-- The lesser and the greater of two. -/
def loI(a c:Int):Int:=if c<a then c else a
def hiI(b d:Int):Int:=if b<d then d else b
theorem loI_a{a c:Int}(h:¬ c<a):loI a c=a:=if_neg h
theorem loI_c{a c:Int}(h:c<a):loI a c=c:=if_pos h
theorem hiI_b{b d:Int}(h:¬ b<d):hiI b d=b:=if_neg h
theorem hiI_d{b d:Int}(h:b<d):hiI b d=d:=if_pos h
/-- Whether a number is from least to most. -/
def aP(n a b:Int):Bool:=decide (a≤n∧n≤b)
theorem gj{n a b:Int}(h1:a≤n)(h2:n≤b):aP n a b=true:=decide_eq_true ⟨h1,h2⟩
theorem dX{n a b:Int}(h:n<a∨b<n):aP n a b=false:=decide_eq_false (by omega)
theorem aZ{n a b:Int}:aP n a b=true↔a≤n∧n≤b:=by simp[aP]
/-- The cells of a list of fields, from a place on: false for an int, true for a bool. -/
def gN(P:Program)(rec:TypeId→Option (List Bool)):List Field→Nat→Option (List Bool)
 | [],_=>some []
 |f :: r,off=>match rec f.type with
  |some ks=>if f.offset=off∧P.cellsOf f.type=ks.length then
    match gN P rec r (off+ks.length)with
    |some rest=>some (ks++rest)
    |none=>none
   else none
  |none=>none
def bf(P:Program):Nat→TypeId→Option (List Bool)
 |0,_=>none
 |n+1,t=>match P.underlying t with
  |some (.int .i64)=>some [false]
  |some .bool=>some [true]
  |some (.struct fs)=>match gN P (bf P n) fs.toList 0 with
   |some ks=>if P.cellsOf t=ks.length then some ks else none
   |none=>none
  |_=>none
/-- Cells that are ints and bools, as asked. -/
def ef:List Value→List Bool→Prop
 | [],[]=>True
 |v :: vs,b :: bs=>(if b=true then∃x,v= .bool x else∃z,v= .int .i64 z∧(Lit.int .i64 z).wf=true)∧ef vs bs
 |_,_=>False
theorem ef.app{vs us:List Value}{bs cs:List Bool}(h:ef vs bs)(k:ef us cs):ef (vs++us) (bs++cs):=by
 induction vs generalizing bs with
 |nil=>cases bs with
  |nil=>exact k
  |cons b bs=>exact h.elim
 |cons v vs ih=>cases bs with
  |nil=>exact h.elim
  |cons b bs=>exact⟨h.1,ih h.2⟩
theorem aE{cs:List Value}{bs:List Bool}(h:ef cs (false :: bs)):∃z r,cs= .int .i64 z :: r∧(Lit.int .i64 z).wf=true∧ef r bs:=by
 cases cs with
 |nil=>exact h.elim
 |cons v vs=>
  obtain⟨h1,h2⟩:=h
  obtain⟨z,rfl,hz⟩:∃z,v= .int .i64 z∧(Lit.int .i64 z).wf=true:=by simpa using h1
  exact⟨z,vs,rfl,hz,h2⟩
theorem fits_bool{cs:List Value}{bs:List Bool}(h:ef cs (true :: bs)):∃z r,cs= .bool z :: r∧ef r bs:=by
 cases cs with
 |nil=>exact h.elim
 |cons v vs=>
  obtain⟨h1,h2⟩:=h
  obtain⟨z,rfl⟩:∃z,v= .bool z:=by simpa using h1
  exact⟨z,vs,rfl,h2⟩
theorem fe{cs:List Value}(h:ef cs []):cs=[]:=by
 cases cs with
 |nil=>rfl
 |cons v vs=>exact h.elim
section
variable {H : Type} {enc : TypeId × Value → H} {P : Program} {w : World} {base : Nat} {spare : Nat → Bool} {held : Bool}
theorem fits_fs{rec:TypeId→Option (List Bool)}{cs:List Value}(l:List Field)(off:Nat)(ks:List Bool)
  (hr:∀f ∈ l,∀k,rec f.type=some k→ef ((cs.drop f.offset).take (P.cellsOf f.type)) k)
  (h:gN P rec l off=some ks):ef ((cs.drop off).take ks.length) ks:=by
 induction l generalizing off ks with
 |nil=>simp only[gN,Option.some.injEq]at h;subst h;simp[ef]
 |cons f r ih=>
  simp only[gN]at h
  split at h
  ·rename_i k hk
   split at h
   ·rename_i hc
    split at h
    ·rename_i rest hrest
     simp only[Option.some.injEq]at h
     subst h
     have h1:=hr f (by simp) k hk
     rw[hc.1,hc.2]at h1
     have h2:=ih (off+k.length) rest (fun g hg=>hr g (by simp[hg])) hrest
     have e:(cs.drop off).take (k++rest).length=(cs.drop off).take k.length++(cs.drop (off+k.length)).take rest.length:=by
      rw[List.length_append,List.take_add,List.drop_drop]
     rw[e]
     exact h1.app h2
    ·cases h
   ·cases h
  ·cases h
theorem dt(n:Nat):∀ {t:TypeId} {fuel:Nat} {cs:List Value} {x:DataW H×List MemPlace} {ks:List Bool},
  bf P n t=some ks→DataW.trod enc P w base spare held fuel t cs=some x→ef cs ks:=by
 induction n with
 |zero=>intro t fuel cs x ks h;cases h
 |succ n ih=>
  intro t fuel cs x ks h ht
  simp only[bf]at h
  split at h
  ·rename_i hu
   simp only[Option.some.injEq]at h
   subst h
   obtain⟨z,rfl,_,hz⟩:=DataW.trod_int hu ht
   exact⟨by simpa using hz,trivial⟩
  ·rename_i hu
   simp only[Option.some.injEq]at h
   subst h
   obtain⟨z,rfl,_⟩:=DataW.trod_bool hu ht
   exact⟨by simp,trivial⟩
  ·rename_i fs hu
   split at h
   ·rename_i ks' hk
    split at h
    ·rename_i hc
     simp only[Option.some.injEq]at h
     subst h
     obtain⟨xs,m,_,_,hl,hlen,hf⟩:=DataW.trod_struct hu ht
     have:=fits_fs (P:=P) (cs:=cs) fs.toList 0 _ (fun f hf' k hk'=>by
      obtain⟨i,hi,hfi⟩:=List.getElem_of_mem hf'
      have hfi':fs[i]? =some f:=by rw[←hfi];simp[Array.getElem?_eq_getElem (by simpa using hi)]
      have h5:=hf i f hfi'
      rw[List.getElem?_eq_getElem (by rw[hlen];simpa using hi)]at h5
      exact ih hk' h5) hk
     rw[List.drop_zero,List.take_of_length_le (by omega)]at this
     exact this
    ·cases h
   ·cases h
  ·cases h
theorem open_flat{r:Reach}{b0:Nat}{t:TypeId}{fs:Array Field}{v:Value}{d:DataW H}{p:List MemPlace}{ks:List Bool}
  (n:Nat) (hs:P.underlying t=some (.struct fs)) (hk:bf P n t=some ks)
  (hv:Value.okWide P w r b0 t v) (h:DataW.Trod enc P w base spare held t v d p):∃cs,v= .agg cs.toArray∧ef cs ks:=by
 obtain⟨cs,rfl,hsz⟩:=okWide_struct hs hv
 obtain⟨fuel,hf⟩:=h
 refine⟨cs.toList,by simp,?_⟩
 have:=dt n hk hf
 simpa[Value.cells]using this
end
section
variable {H : Type} {enc : TypeId × Value → H} {P : Program} {w : World} {base : Nat} {spare : Nat → Bool} {held : Bool}
theorem gx{t e:TypeId}{fuel:Nat}{cs:List Value}{x:DataW H×List MemPlace}(ht:P.underlying t=some (.slice e))(h:DataW.trod enc P w base spare held fuel t cs=some x):∃a len cap,cs=[.slice a len cap]:=by
 rcases open_slice ht h with⟨hcs,_⟩|⟨a',len',cap',m,n,D,Pl,hcs,_⟩
 ·exact⟨_,_,_,hcs⟩
 ·exact⟨_,_,_,hcs⟩
theorem open_st{r:Reach}{b0:Nat}{t t1 e:TypeId}{fs:Array Field}{v:Value}{d:DataW H}{p:List MemPlace}
  (hs:P.underlying t=some (.struct fs)) (hC:P.cellsOf t=2)
  (h0:(fs[0]?).map (fun f=>(f.offset,P.underlying f.type,P.cellsOf f.type))=some (0,some (.int .i64),1))
  (h1:(fs[1]?).map (fun f=>(f.offset,f.type,P.cellsOf f.type))=some (1,t1,1))
  (ht:P.underlying t1=some (.slice e))
  (hv:Value.okWide P w r b0 t v) (h:DataW.Trod enc P w base spare held t v d p):
  ∃m a len cap d' p',v= .agg #[.int .i64 m,.slice a len cap]∧(Lit.int .i64 m).wf=true∧DataW.Trod enc P w base spare held t1 (.slice a len cap) d' p':=by
 obtain⟨cs,rfl,hsz⟩:=okWide_struct hs hv
 obtain⟨fuel,hf⟩:=h
 obtain⟨xs,n,_,_,hl,hlen,hfs⟩:=DataW.trod_struct hs hf
 rw[hC]at hsz
 obtain⟨f0,hf0,e0⟩:=Option.map_eq_some_iff.1 h0
 obtain⟨f1,hf1,e1⟩:=Option.map_eq_some_iff.1 h1
 simp only[Prod.mk.injEq]at e0 e1
 have l0:0<fs.size:=(Array.getElem?_eq_some_iff.1 hf0).1
 have l1:1<fs.size:=(Array.getElem?_eq_some_iff.1 hf1).1
 have r0:=hfs 0 f0 hf0
 have r1:=hfs 1 f1 hf1
 rw[e0.1,e0.2.2,List.getElem?_eq_getElem (by omega)]at r0
 rw[e1.1,e1.2.2,e1.2.1,List.getElem?_eq_getElem (by omega)]at r1
 obtain⟨z,hz,_,hw⟩:=DataW.trod_int e0.2.1 r0
 obtain⟨a,len,cap,hc⟩:=gx ht r1
 rw[hc]at r1
 have hcl:(Value.agg cs).cells=cs:=by simp[Value.cells]
 rw[hcl]at hz hc
 have hcs:cs=#[.int .i64 z,.slice a len cap]:=by
  obtain⟨l⟩:=cs
  match l,hsz with
  | [u,v'],_=>
   simp at hz hc
   rw[hz,hc]
 exact⟨z,a,len,cap,_,_,by rw[hcs],hw,n,r1⟩
end
/-- What a cell is: an int, a bool, or a slice of a type. -/
inductive Kd where
 |i
 |b
 |s (t:TypeId)
/-- The cells of a list of fields, from a place on. -/
def gO(P:Program)(rec:TypeId→Option (List Kd)):List Field→Nat→Option (List Kd)
 | [],_=>some []
 |f :: r,off=>match rec f.type with
  |some ks=>if f.offset=off∧P.cellsOf f.type=ks.length then
    match gO P rec r (off+ks.length)with
    |some rest=>some (ks++rest)
    |none=>none
   else none
  |none=>none
def dw(P:Program):Nat→TypeId→Option (List Kd)
 |0,_=>none
 |n+1,t=>match P.underlying t with
  |some (.int .i64)=>some [.i]
  |some .bool=>some [.b]
  |some (.slice _)=>some [.s t]
  |some (.struct fs)=>match gO P (dw P n) fs.toList 0 with
   |some ks=>if P.cellsOf t=ks.length then some ks else none
   |none=>none
  |_=>none
section
variable {H : Type} {enc : TypeId × Value → H} {P : Program} {w : World} {base : Nat} {spare : Nat → Bool} {held : Bool}
/-- One cell is as asked. -/
def FitT(enc:TypeId×Value→H)(P:Program)(w:World)(base:Nat)(spare:Nat→Bool)(held:Bool)(v:Value):Kd→Prop
 | .i=>∃z,v= .int .i64 z∧(Lit.int .i64 z).wf=true
 | .b=>∃x,v= .bool x
 | .s t=>∃a len cap d p,v= .slice a len cap∧DataW.Trod enc P w base spare held t (.slice a len cap) d p
/-- Cells that are ints, bools and slices, as asked. -/
def cj(enc:TypeId×Value→H)(P:Program)(w:World)(base:Nat)(spare:Nat→Bool)(held:Bool):List Value→List Kd→Prop
 | [],[]=>True
 |v :: vs,k :: ks=>FitT enc P w base spare held v k∧cj enc P w base spare held vs ks
 |_,_=>False
theorem cj.app{vs us:List Value}{bs cs:List Kd}(h:cj enc P w base spare held vs bs)(k:cj enc P w base spare held us cs):cj enc P w base spare held (vs++us) (bs++cs):=by
 induction vs generalizing bs with
 |nil=>cases bs with
  |nil=>exact k
  |cons k1 bs=>exact h.elim
 |cons v vs ih=>cases bs with
  |nil=>exact h.elim
  |cons k1 bs=>exact⟨h.1,ih h.2⟩
theorem fitT_i{cs:List Value}{bs:List Kd}(h:cj enc P w base spare held cs (.i :: bs)):∃z r,cs= .int .i64 z :: r∧(Lit.int .i64 z).wf=true∧cj enc P w base spare held r bs:=by
 cases cs with
 |nil=>exact h.elim
 |cons v vs=>
  obtain⟨⟨z,rfl,hz⟩,h2⟩:=h
  exact⟨z,vs,rfl,hz,h2⟩
theorem fitT_b{cs:List Value}{bs:List Kd}(h:cj enc P w base spare held cs (.b :: bs)):∃z r,cs= .bool z :: r∧cj enc P w base spare held r bs:=by
 cases cs with
 |nil=>exact h.elim
 |cons v vs=>
  obtain⟨⟨z,rfl⟩,h2⟩:=h
  exact⟨z,vs,rfl,h2⟩
theorem fitT_s{t:TypeId}{cs:List Value}{bs:List Kd}(h:cj enc P w base spare held cs (.s t :: bs)):∃a len cap d p r,cs= .slice a len cap :: r∧DataW.Trod enc P w base spare held t (.slice a len cap) d p∧cj enc P w base spare held r bs:=by
 cases cs with
 |nil=>exact h.elim
 |cons v vs=>
  obtain⟨⟨a,len,cap,d,p,rfl,ht⟩,h2⟩:=h
  exact⟨a,len,cap,d,p,vs,rfl,ht,h2⟩
theorem fitT_nil{cs:List Value}(h:cj enc P w base spare held cs []):cs=[]:=by
 cases cs with
 |nil=>rfl
 |cons v vs=>exact h.elim
theorem fitsT_fs{rec:TypeId→Option (List Kd)}{cs:List Value}(l:List Field)(off:Nat)(ks:List Kd)
  (hr:∀f ∈ l,∀k,rec f.type=some k→cj enc P w base spare held ((cs.drop f.offset).take (P.cellsOf f.type)) k)
  (h:gO P rec l off=some ks):cj enc P w base spare held ((cs.drop off).take ks.length) ks:=by
 induction l generalizing off ks with
 |nil=>simp only[gO,Option.some.injEq]at h;subst h;simp[cj]
 |cons f r ih=>
  simp only[gO]at h
  split at h
  ·rename_i k hk
   split at h
   ·rename_i hc
    split at h
    ·rename_i rest hrest
     simp only[Option.some.injEq]at h
     subst h
     have h1:=hr f (by simp) k hk
     rw[hc.1,hc.2]at h1
     have h2:=ih (off+k.length) rest (fun g hg=>hr g (by simp[hg])) hrest
     have e:(cs.drop off).take (k++rest).length=(cs.drop off).take k.length++(cs.drop (off+k.length)).take rest.length:=by
      rw[List.length_append,List.take_add,List.drop_drop]
     rw[e]
     exact h1.app h2
    ·cases h
   ·cases h
  ·cases h
theorem cH(n:Nat):∀ {t:TypeId} {fuel:Nat} {cs:List Value} {x:DataW H×List MemPlace} {ks:List Kd},
  dw P n t=some ks→DataW.trod enc P w base spare held fuel t cs=some x→cj enc P w base spare held cs ks:=by
 induction n with
 |zero=>intro t fuel cs x ks h;cases h
 |succ n ih=>
  intro t fuel cs x ks h ht
  simp only[dw]at h
  split at h
  ·rename_i hu
   simp only[Option.some.injEq]at h
   subst h
   obtain⟨z,rfl,_,hz⟩:=DataW.trod_int hu ht
   exact⟨⟨z,rfl,hz⟩,trivial⟩
  ·rename_i hu
   simp only[Option.some.injEq]at h
   subst h
   obtain⟨z,rfl,_⟩:=DataW.trod_bool hu ht
   exact⟨⟨z,rfl⟩,trivial⟩
  ·rename_i hu
   simp only[Option.some.injEq]at h
   subst h
   obtain⟨a,len,cap,rfl⟩:=gx hu ht
   exact⟨⟨a,len,cap,x.1,x.2,rfl,fuel,by simpa[Value.cells]using ht⟩,trivial⟩
  ·rename_i fs hu
   split at h
   ·rename_i ks' hk
    split at h
    ·rename_i hc
     simp only[Option.some.injEq]at h
     subst h
     obtain⟨xs,m,_,_,hl,hlen,hf⟩:=DataW.trod_struct hu ht
     have:=fitsT_fs (enc:=enc) (w:=w) (base:=base) (spare:=spare) (held:=held) (P:=P) (cs:=cs) fs.toList 0 _ (fun f hf' k hk'=>by
      obtain⟨i,hi,hfi⟩:=List.getElem_of_mem hf'
      have hfi':fs[i]? =some f:=by rw[←hfi];simp[Array.getElem?_eq_getElem (by simpa using hi)]
      have h5:=hf i f hfi'
      rw[List.getElem?_eq_getElem (by rw[hlen];simpa using hi)]at h5
      exact ih hk' h5) hk
     rw[List.drop_zero,List.take_of_length_le (by omega)]at this
     exact this
    ·cases h
   ·cases h
  ·cases h
theorem open_flatT{r:Reach}{b0:Nat}{t:TypeId}{fs:Array Field}{v:Value}{d:DataW H}{p:List MemPlace}{ks:List Kd}
  (n:Nat) (hs:P.underlying t=some (.struct fs)) (hk:dw P n t=some ks)
  (hv:Value.okWide P w r b0 t v) (h:DataW.Trod enc P w base spare held t v d p):∃cs,v= .agg cs.toArray∧cj enc P w base spare held cs ks:=by
 obtain⟨cs,rfl,hsz⟩:=okWide_struct hs hv
 obtain⟨fuel,hf⟩:=h
 refine⟨cs.toList,by simp,?_⟩
 have:=cH n hk hf
 simpa[Value.cells]using this
end
end Go.Proofs.YtealpjmannopeaaGreat
namespace Go.Proofs.YtealpjmannopeaaGreat
open Go.ChangeShapes Go.WideShapes Go.ChangeAt Go.RowKit
theorem bU{b0 b1 a0 a1 a2 a3 a4 a5 a6 a7 a8 a9 a10 a11 a12 c0 c1 c2 c3 c4 c5 c6 c7 c8 c9 c10 c11 c12:Nat}{k0 k1 k2 k3 k4 k5 k6 k7 k8 k9 k10 k11 k12 l0 l1 l2 l3 l4 l5 l6 l7 l8 l9 l10 l11 l12:Value}{W W':World}(h:((W.cell? ⟨b0,a0,none⟩=some k0∧W.cell? ⟨b0,a1,none⟩=some k1∧W.cell? ⟨b0,a2,none⟩=some k2∧W.cell? ⟨b0,a3,none⟩=some k3∧W.cell? ⟨b0,a4,none⟩=some k4∧W.cell? ⟨b0,a5,none⟩=some k5∧W.cell? ⟨b0,a6,none⟩=some k6∧W.cell? ⟨b0,a7,none⟩=some k7∧W.cell? ⟨b0,a8,none⟩=some k8∧W.cell? ⟨b0,a9,none⟩=some k9∧W.cell? ⟨b0,a10,none⟩=some k10∧W.cell? ⟨b0,a11,none⟩=some k11∧W.cell? ⟨b0,a12,none⟩=some k12∧W.cell? ⟨b1,c0,none⟩=some l0∧W.cell? ⟨b1,c1,none⟩=some l1∧W.cell? ⟨b1,c2,none⟩=some l2∧W.cell? ⟨b1,c3,none⟩=some l3∧W.cell? ⟨b1,c4,none⟩=some l4∧W.cell? ⟨b1,c5,none⟩=some l5∧W.cell? ⟨b1,c6,none⟩=some l6∧W.cell? ⟨b1,c7,none⟩=some l7∧W.cell? ⟨b1,c8,none⟩=some l8∧W.cell? ⟨b1,c9,none⟩=some l9∧W.cell? ⟨b1,c10,none⟩=some l10∧W.cell? ⟨b1,c11,none⟩=some l11∧W.cell? ⟨b1,c12,none⟩=some l12)∧b0<W.heap.size∧b1<W.heap.size))(hb:Below W.heap.size W W'):((W'.cell? ⟨b0,a0,none⟩=some k0∧W'.cell? ⟨b0,a1,none⟩=some k1∧W'.cell? ⟨b0,a2,none⟩=some k2∧W'.cell? ⟨b0,a3,none⟩=some k3∧W'.cell? ⟨b0,a4,none⟩=some k4∧W'.cell? ⟨b0,a5,none⟩=some k5∧W'.cell? ⟨b0,a6,none⟩=some k6∧W'.cell? ⟨b0,a7,none⟩=some k7∧W'.cell? ⟨b0,a8,none⟩=some k8∧W'.cell? ⟨b0,a9,none⟩=some k9∧W'.cell? ⟨b0,a10,none⟩=some k10∧W'.cell? ⟨b0,a11,none⟩=some k11∧W'.cell? ⟨b0,a12,none⟩=some k12∧W'.cell? ⟨b1,c0,none⟩=some l0∧W'.cell? ⟨b1,c1,none⟩=some l1∧W'.cell? ⟨b1,c2,none⟩=some l2∧W'.cell? ⟨b1,c3,none⟩=some l3∧W'.cell? ⟨b1,c4,none⟩=some l4∧W'.cell? ⟨b1,c5,none⟩=some l5∧W'.cell? ⟨b1,c6,none⟩=some l6∧W'.cell? ⟨b1,c7,none⟩=some l7∧W'.cell? ⟨b1,c8,none⟩=some l8∧W'.cell? ⟨b1,c9,none⟩=some l9∧W'.cell? ⟨b1,c10,none⟩=some l10∧W'.cell? ⟨b1,c11,none⟩=some l11∧W'.cell? ⟨b1,c12,none⟩=some l12)∧b0<W'.heap.size∧b1<W'.heap.size):=by
 obtain⟨h99,s0,s1⟩:=h
 have e0:∀z,W'.cell? ⟨b0,z,none⟩=W.cell? ⟨b0,z,none⟩:=fun z=>hb.cell s0
 have e1:∀z,W'.cell? ⟨b1,z,none⟩=W.cell? ⟨b1,z,none⟩:=fun z=>hb.cell s1
 refine⟨?_,Nat.lt_of_lt_of_le s0 hb.size,Nat.lt_of_lt_of_le s1 hb.size⟩
 simp only[e0,e1]
 exact h99
theorem eqWinT(a b:Int)(w:World):Calls Tryz.prog 79 #[.agg #[.int .i64 a,.int .i64 b],.agg #[.int .i64 a,.int .i64 b]] w fun e w'=>e= .returned (.bool true)∧Below w.heap.size w w':=by
 go_enter Tryz.func79,Tryz.ntmps79
 go_wp2
 go_ret
 exact⟨rfl,(ar)⟩
theorem eqAggT(n s l m:Int)(w:World):Calls Tryz.prog 80 #[.agg #[.int .i64 n,.int .i64 s,.int .i64 l,.int .i64 m],.agg #[.int .i64 n,.int .i64 s,.int .i64 l,.int .i64 m]] w fun e w'=>e= .returned (.bool true)∧Below w.heap.size w w':=by
 go_enter Tryz.func80,Tryz.ntmps80
 go_wp2
 go_ret
 exact⟨rfl,(ar)⟩
theorem eqItmT(q t k v n:Int)(w:World):Calls Tryz.prog 53 #[.agg #[.int .i64 q,.int .i64 t,.int .i64 k,.int .i64 v,.int .i64 n],.agg #[.int .i64 q,.int .i64 t,.int .i64 k,.int .i64 v,.int .i64 n]] w fun e w'=>e= .returned (.bool true)∧Below w.heap.size w w':=by
 go_enter Tryz.func53,Tryz.ntmps53
 go_wp2
 go_ret
 exact⟨rfl,(ar)⟩
theorem toItmT(q t k v n:Int)(w:World):Calls Tryz.prog 115 #[.agg #[.int .i64 q,.int .i64 t,.int .i64 k,.int .i64 v,.int .i64 n]] w fun e w'=>e= .returned (.agg #[.int .i64 q,.int .i64 t,.int .i64 k,.int .i64 v,.int .i64 n])∧Below w.heap.size w w':=by
 go_enter Tryz.func115,Tryz.ntmps115
 go_wp2
 refine bodyPost_ret (v:= .agg #[.int .i64 q,.int .i64 t,.int .i64 k,.int .i64 v,.int .i64 n]) (by simp[results,Tryz.results115,go_sem]) rfl ⟨rfl,?_⟩
 exact(ar)
/-- A row of 13 numbers. -/
structure bK where
 ky:Int
 st:Int
 en:Int
 an:Int
 asu:Int
 ale:Int
 amo:Int
 fn:Int
 fsu:Int
 fle:Int
 fmo:Int
 td:Int
 tm:Bool
/-- A row lies in its cells; rows lie one behind the other; a slice's value holds rows. -/
def dx(W:World)(g o:Nat)(x:bK):Prop:=W.cell? ⟨g,o,none⟩=some (.int .i64 x.ky)∧W.cell? ⟨g,o+1,none⟩=some (.int .i64 x.st)∧W.cell? ⟨g,o+2,none⟩=some (.int .i64 x.en)∧W.cell? ⟨g,o+3,none⟩=some (.int .i64 x.an)∧W.cell? ⟨g,o+4,none⟩=some (.int .i64 x.asu)∧W.cell? ⟨g,o+5,none⟩=some (.int .i64 x.ale)∧W.cell? ⟨g,o+6,none⟩=some (.int .i64 x.amo)∧W.cell? ⟨g,o+7,none⟩=some (.int .i64 x.fn)∧W.cell? ⟨g,o+8,none⟩=some (.int .i64 x.fsu)∧W.cell? ⟨g,o+9,none⟩=some (.int .i64 x.fle)∧W.cell? ⟨g,o+10,none⟩=some (.int .i64 x.fmo)∧W.cell? ⟨g,o+11,none⟩=some (.int .i64 x.td)∧W.cell? ⟨g,o+12,none⟩=some (.bool x.tm)
def er(W:World)(g o:Nat)(xs:List bK):Prop:=∀i x,xs[i]? =some x→dx W g (o+i*13) x
def dm(W:World)(a:Option Addr)(len:Nat)(xs:List bK):Prop:=xs.length=len∧len≤maxLen∧(len=0∨∃g o,a=some ⟨g,o,none⟩∧er W g o xs)
theorem dx.lt{W:World}{g o:Nat}{x:bK}(h:dx W g o x):g<W.heap.size:=by
 obtain⟨h0,_⟩:=h
 rcases Nat.lt_or_ge g W.heap.size with hl|hg
 ·exact hl
 ·simp[World.cell?,Array.getElem?_eq_none hg]at h0
theorem er.lt{W:World}{g o:Nat}{xs:List bK}(h:er W g o xs)(hp:0<xs.length):g<W.heap.size:=(h 0 xs[0] (List.getElem?_eq_getElem hp)).lt
theorem dx.below{W W':World}{B g o:Nat}{x:bK}(h:dx W g o x)(hb:Below B W W')(hg:g<B):dx W' g o x:=by
 obtain⟨h0,h1,h2,h3,h4,h5,h6,h7,h8,h9,h10,h11,h12⟩:=h
 exact⟨(hb.cell (p:=⟨g,_,none⟩) hg).trans h0,(hb.cell (p:=⟨g,_,none⟩) hg).trans h1,(hb.cell (p:=⟨g,_,none⟩) hg).trans h2,(hb.cell (p:=⟨g,_,none⟩) hg).trans h3,(hb.cell (p:=⟨g,_,none⟩) hg).trans h4,(hb.cell (p:=⟨g,_,none⟩) hg).trans h5,(hb.cell (p:=⟨g,_,none⟩) hg).trans h6,(hb.cell (p:=⟨g,_,none⟩) hg).trans h7,(hb.cell (p:=⟨g,_,none⟩) hg).trans h8,(hb.cell (p:=⟨g,_,none⟩) hg).trans h9,(hb.cell (p:=⟨g,_,none⟩) hg).trans h10,(hb.cell (p:=⟨g,_,none⟩) hg).trans h11,(hb.cell (p:=⟨g,_,none⟩) hg).trans h12⟩
theorem er.below{W W':World}{B g o:Nat}{xs:List bK}(h:er W g o xs)(hb:Below B W W')(hg:0<xs.length→g<B):er W' g o xs:=by
 intro i x hx
 have hlt:i<xs.length:=(List.getElem?_eq_some_iff.1 hx).1
 exact(h i x hx).below hb (hg (by omega))
theorem dm.below{W W':World}{a:Option Addr}{len:Nat}{xs:List bK}(h:dm W a len xs)(hb:Below W.heap.size W W'):dm W' a len xs:=by
 obtain⟨h1,h2,h3⟩:=h
 refine⟨h1,h2,?_⟩
 rcases h3 with h3|⟨g,o,ha,hr⟩
 ·exact Or.inl h3
 ·exact Or.inr ⟨g,o,ha,hr.below hb (fun hp=>hr.lt hp)⟩
theorem dx.grown{W W':World}{row:Option Nat}{g o:Nat}{x:bK}(h:dx W g o x)(hg:W.grownBy W' row)(hne:some g≠row):dx W' g o x:=by
 have hbk:=hg.block g h.lt hne
 obtain⟨h0,h1,h2,h3,h4,h5,h6,h7,h8,h9,h10,h11,h12⟩:=h
 exact⟨(World.cell?_of_block (w:=W) hbk).trans h0,(World.cell?_of_block (w:=W) hbk).trans h1,(World.cell?_of_block (w:=W) hbk).trans h2,(World.cell?_of_block (w:=W) hbk).trans h3,(World.cell?_of_block (w:=W) hbk).trans h4,(World.cell?_of_block (w:=W) hbk).trans h5,(World.cell?_of_block (w:=W) hbk).trans h6,(World.cell?_of_block (w:=W) hbk).trans h7,(World.cell?_of_block (w:=W) hbk).trans h8,(World.cell?_of_block (w:=W) hbk).trans h9,(World.cell?_of_block (w:=W) hbk).trans h10,(World.cell?_of_block (w:=W) hbk).trans h11,(World.cell?_of_block (w:=W) hbk).trans h12⟩
theorem dm.grown{W W':World}{row:Option Nat}{a:Option Addr}{n:Nat}{xs:List bK}(h:dm W a n xs)(hg:W.grownBy W' row)(hne:∀g o,0<n→a=some ⟨g,o,none⟩→some g≠row):dm W' a n xs:=by
 obtain⟨h1,h2,h3⟩:=h
 refine⟨h1,h2,?_⟩
 rcases h3 with h3|⟨g,o,ha,hr⟩
 ·exact Or.inl h3
 ·refine Or.inr ⟨g,o,ha,fun i x hx=>(hr i x hx).grown hg (hne g o ?_ ha)⟩
  have hlt:i<xs.length:=(List.getElem?_eq_some_iff.1 hx).1
  omega
/-- A row is stored; a block of rows, known whole. -/
def gP(W:World)(g o:Nat)(x:bK):World:=(((((((((((((W.setCell ⟨g,o,none⟩ (.int .i64 x.ky)).setCell ⟨g,o+1,none⟩ (.int .i64 x.st)).setCell ⟨g,o+2,none⟩ (.int .i64 x.en)).setCell ⟨g,o+3,none⟩ (.int .i64 x.an)).setCell ⟨g,o+4,none⟩ (.int .i64 x.asu)).setCell ⟨g,o+5,none⟩ (.int .i64 x.ale)).setCell ⟨g,o+6,none⟩ (.int .i64 x.amo)).setCell ⟨g,o+7,none⟩ (.int .i64 x.fn)).setCell ⟨g,o+8,none⟩ (.int .i64 x.fsu)).setCell ⟨g,o+9,none⟩ (.int .i64 x.fle)).setCell ⟨g,o+10,none⟩ (.int .i64 x.fmo)).setCell ⟨g,o+11,none⟩ (.int .i64 x.td)).setCell ⟨g,o+12,none⟩ (.bool x.tm))
def cw(W:World)(g ty len:Nat):Prop:=∃cur,W.heap[g]? =some (.cells cur ty (0,0))∧cur.size=len*13
theorem cw.set{W:World}{g ty len i:Nat}(h:cw W g ty len)(v:Value):cw (W.setCell ⟨g,i,none⟩ v) g ty len:=by
 obtain⟨cur,h1,h2⟩:=h
 exact⟨_,Joins.block_setCell h1 v,by simp[h2]⟩
theorem cw.below{W W':World}{g ty len B:Nat}(h:cw W g ty len)(hb:Below B W W')(hg:g<B):cw W' g ty len:=by
 obtain⟨cur,h1,h2⟩:=h
 exact⟨cur,(hb.block g hg).trans h1,h2⟩
theorem cw.lt{W:World}{g ty len:Nat}(h:cw W g ty len):g<W.heap.size:=by
 obtain⟨cur,h1,h2⟩:=h
 exact(Array.getElem?_eq_some_iff.1 h1).1
theorem cw.cell{W:World}{g ty len i:Nat}(h:cw W g ty len)(hi:i<len*13):∃u,W.cell? ⟨g,i,none⟩=some u:=by
 obtain⟨cur,h1,h2⟩:=h
 exact⟨_,(cA h1 i).trans (Array.getElem?_eq_getElem (by omega))⟩
theorem cw.frozen{W:World}{g ty len i:Nat}(h:cw W g ty len):W.frozen? ⟨g,i,none⟩=false:=by
 obtain⟨cur,h1,h2⟩:=h
 exact Joins.unfrozen_of_block h1 i
theorem cw.cells{W:World}{g ty len k:Nat}(h:cw W g ty len)(hk:k<len):(∃u,W.cell? ⟨g,k*13,none⟩=some u)∧(∃u,W.cell? ⟨g,k*13+1,none⟩=some u)∧(∃u,W.cell? ⟨g,k*13+2,none⟩=some u)∧(∃u,W.cell? ⟨g,k*13+3,none⟩=some u)∧(∃u,W.cell? ⟨g,k*13+4,none⟩=some u)∧(∃u,W.cell? ⟨g,k*13+5,none⟩=some u)∧(∃u,W.cell? ⟨g,k*13+6,none⟩=some u)∧(∃u,W.cell? ⟨g,k*13+7,none⟩=some u)∧(∃u,W.cell? ⟨g,k*13+8,none⟩=some u)∧(∃u,W.cell? ⟨g,k*13+9,none⟩=some u)∧(∃u,W.cell? ⟨g,k*13+10,none⟩=some u)∧(∃u,W.cell? ⟨g,k*13+11,none⟩=some u)∧(∃u,W.cell? ⟨g,k*13+12,none⟩=some u):=⟨h.cell (by omega),h.cell (by omega),h.cell (by omega),h.cell (by omega),h.cell (by omega),h.cell (by omega),h.cell (by omega),h.cell (by omega),h.cell (by omega),h.cell (by omega),h.cell (by omega),h.cell (by omega),h.cell (by omega)⟩
theorem cw.sets{W:World}{g ty len o:Nat}(h:cw W g ty len)(x:bK):cw (gP W g o x) g ty len:=(((((((((((((h.set _).set _).set _).set _).set _).set _).set _).set _).set _).set _).set _).set _).set _)
theorem ag{W:World}{g i j:Nat}{v:Value}(h:i≠j):(W.setCell ⟨g,i,none⟩ v).cell? ⟨g,j,none⟩=W.cell? ⟨g,j,none⟩:=World.cell?_setCell_other _ _ _ _ (by intro e;injection e with e1 e2;exact h e2)
theorem cn{W:World}{g ty len i:Nat}{v:Value}(h:cw W g ty len)(hi:i<len*13):(W.setCell ⟨g,i,none⟩ v).cell? ⟨g,i,none⟩=some v:=by
 obtain⟨u,hu⟩:=h.cell hi
 exact World.cell?_setCell_same _ _ _ hu
theorem setOr_this{W:World}{g ty len k:Nat}(h:cw W g ty len)(hk:k<len)(x:bK):dx (gP W g (k*13) x) g (k*13) x:=by
 unfold gP
 refine⟨?_,?_,?_,?_,?_,?_,?_,?_,?_,?_,?_,?_,?_⟩
 ·(repeat rw[ag (by omega)]);rw[cn h (by omega)]
 ·(repeat rw[ag (by omega)]);rw[cn (h.set _) (by omega)]
 ·(repeat rw[ag (by omega)]);rw[cn ((h.set _).set _) (by omega)]
 ·(repeat rw[ag (by omega)]);rw[cn (((h.set _).set _).set _) (by omega)]
 ·(repeat rw[ag (by omega)]);rw[cn ((((h.set _).set _).set _).set _) (by omega)]
 ·(repeat rw[ag (by omega)]);rw[cn (((((h.set _).set _).set _).set _).set _) (by omega)]
 ·(repeat rw[ag (by omega)]);rw[cn ((((((h.set _).set _).set _).set _).set _).set _) (by omega)]
 ·(repeat rw[ag (by omega)]);rw[cn (((((((h.set _).set _).set _).set _).set _).set _).set _) (by omega)]
 ·(repeat rw[ag (by omega)]);rw[cn ((((((((h.set _).set _).set _).set _).set _).set _).set _).set _) (by omega)]
 ·(repeat rw[ag (by omega)]);rw[cn (((((((((h.set _).set _).set _).set _).set _).set _).set _).set _).set _) (by omega)]
 ·rw[ag (by omega),ag (by omega),cn ((((((((((h.set _).set _).set _).set _).set _).set _).set _).set _).set _).set _) (by omega)]
 ·rw[ag (by omega),cn (((((((((((h.set _).set _).set _).set _).set _).set _).set _).set _).set _).set _).set _) (by omega)]
 ·rw[cn ((((((((((((h.set _).set _).set _).set _).set _).set _).set _).set _).set _).set _).set _).set _) (by omega)]
theorem setOr_ne{W:World}{g i k:Nat}{x y:bK}(h:dx W g (i*13) y)(hk:i≠k):dx (gP W g (k*13) x) g (i*13) y:=by
 unfold gP
 obtain⟨h0,h1,h2,h3,h4,h5,h6,h7,h8,h9,h10,h11,h12⟩:=h
 refine⟨?_,?_,?_,?_,?_,?_,?_,?_,?_,?_,?_,?_,?_⟩
 ·rw[ag (by omega),ag (by omega),ag (by omega),ag (by omega),ag (by omega),ag (by omega),ag (by omega),ag (by omega),ag (by omega),ag (by omega),ag (by omega),ag (by omega),ag (by omega)];exact h0
 ·rw[ag (by omega),ag (by omega),ag (by omega),ag (by omega),ag (by omega),ag (by omega),ag (by omega),ag (by omega),ag (by omega),ag (by omega),ag (by omega),ag (by omega),ag (by omega)];exact h1
 ·rw[ag (by omega),ag (by omega),ag (by omega),ag (by omega),ag (by omega),ag (by omega),ag (by omega),ag (by omega),ag (by omega),ag (by omega),ag (by omega),ag (by omega),ag (by omega)];exact h2
 ·rw[ag (by omega),ag (by omega),ag (by omega),ag (by omega),ag (by omega),ag (by omega),ag (by omega),ag (by omega),ag (by omega),ag (by omega),ag (by omega),ag (by omega),ag (by omega)];exact h3
 ·rw[ag (by omega),ag (by omega),ag (by omega),ag (by omega),ag (by omega),ag (by omega),ag (by omega),ag (by omega),ag (by omega),ag (by omega),ag (by omega),ag (by omega),ag (by omega)];exact h4
 ·rw[ag (by omega),ag (by omega),ag (by omega),ag (by omega),ag (by omega),ag (by omega),ag (by omega),ag (by omega),ag (by omega),ag (by omega),ag (by omega),ag (by omega),ag (by omega)];exact h5
 ·rw[ag (by omega),ag (by omega),ag (by omega),ag (by omega),ag (by omega),ag (by omega),ag (by omega),ag (by omega),ag (by omega),ag (by omega),ag (by omega),ag (by omega),ag (by omega)];exact h6
 ·rw[ag (by omega),ag (by omega),ag (by omega),ag (by omega),ag (by omega),ag (by omega),ag (by omega),ag (by omega),ag (by omega),ag (by omega),ag (by omega),ag (by omega),ag (by omega)];exact h7
 ·rw[ag (by omega),ag (by omega),ag (by omega),ag (by omega),ag (by omega),ag (by omega),ag (by omega),ag (by omega),ag (by omega),ag (by omega),ag (by omega),ag (by omega),ag (by omega)];exact h8
 ·rw[ag (by omega),ag (by omega),ag (by omega),ag (by omega),ag (by omega),ag (by omega),ag (by omega),ag (by omega),ag (by omega),ag (by omega),ag (by omega),ag (by omega),ag (by omega)];exact h9
 ·rw[ag (by omega),ag (by omega),ag (by omega),ag (by omega),ag (by omega),ag (by omega),ag (by omega),ag (by omega),ag (by omega),ag (by omega),ag (by omega),ag (by omega),ag (by omega)];exact h10
 ·rw[ag (by omega),ag (by omega),ag (by omega),ag (by omega),ag (by omega),ag (by omega),ag (by omega),ag (by omega),ag (by omega),ag (by omega),ag (by omega),ag (by omega),ag (by omega)];exact h11
 ·rw[ag (by omega),ag (by omega),ag (by omega),ag (by omega),ag (by omega),ag (by omega),ag (by omega),ag (by omega),ag (by omega),ag (by omega),ag (by omega),ag (by omega),ag (by omega)];exact h12
def i8(W:World)(a:Option Addr)(n cap:Nat):Prop:=n=0∨∃g,a=some ⟨g,0,none⟩∧cw W g 215 cap∧n≤cap
theorem i8.grown{W W':World}{row:Option Nat}{a:Option Addr}{n cap:Nat}(h:i8 W a n cap)(hg:W.grownBy W' row)(hne:∀g o,0<n→a=some ⟨g,o,none⟩→some g≠row):i8 W' a n cap:=by
 rcases h with h|⟨g,ha,hB,hc⟩
 ·exact Or.inl h
 ·by_cases h0:n=0
  ·exact Or.inl h0
  ·obtain⟨cur,c1,c2⟩:=hB
   exact Or.inr ⟨g,ha,⟨cur,(hg.block g (Array.getElem?_eq_some_iff.1 c1).1 (hne g 0 (by omega) ha)).trans c1,c2⟩,hc⟩
set_option maxHeartbeats 1000000 in
theorem eqOr_one(x:bK)(w:World):Calls Tryz.prog 197 #[.agg #[.int .i64 x.ky,.int .i64 x.st,.int .i64 x.en,.int .i64 x.an,.int .i64 x.asu,.int .i64 x.ale,.int .i64 x.amo,.int .i64 x.fn,.int .i64 x.fsu,.int .i64 x.fle,.int .i64 x.fmo,.int .i64 x.td,.bool x.tm],.agg #[.int .i64 x.ky,.int .i64 x.st,.int .i64 x.en,.int .i64 x.an,.int .i64 x.asu,.int .i64 x.ale,.int .i64 x.amo,.int .i64 x.fn,.int .i64 x.fsu,.int .i64 x.fle,.int .i64 x.fmo,.int .i64 x.td,.bool x.tm]] w fun e w'=>e= .returned (.bool true)∧Below w.heap.size w w':=by
 go_enter Tryz.func197,Tryz.ntmps197
 go_wp2_with (first
  |(go_at_call 79;refine(eqWinT _ _ _).mono ?_;rintro e w' ⟨rfl,hb⟩;obtain⟨hc,hf,hs⟩:=ac hb;(try have hz0:=zA hb w.heap.size);(try have hz1:=zA hb (w.heap.size+1)))
  |(go_at_call 80;refine(eqAggT _ _ _ _ _).mono ?_;rintro e w' ⟨rfl,hb⟩;obtain⟨hc,hf,hs⟩:=ac hb;(try have hz0:=zA hb w.heap.size);(try have hz1:=zA hb (w.heap.size+1))))
 go_ret
 exact⟨rfl,(ar)⟩
set_option maxRecDepth 20000 in
set_option maxHeartbeats 1000000 in
theorem eqOr_any(a1 a2:Option Addr)(len cap1 cap2:Nat)(xs:List bK)(w:World)(h1:dm w a1 len xs)(h2:dm w a2 len xs):Calls Tryz.prog 177 #[.slice a1 len cap1,.slice a2 len cap2] w fun e w'=>e= .returned (.bool true)∧Below w.heap.size w w':=by
 have hm:=h1.2.1
 unfold maxLen at hm
 go_enter Tryz.func177,Tryz.ntmps177
 go_wp2
 go_loopw [5] (fun i wr=>∃k:Nat,k≤len∧i= .int .i64 k∧Below w.heap.size w wr) (fun i _=>len - (intOf i).toNat)
 case atStart=>exact⟨0,Nat.zero_le _,rfl,Below.refl _ _⟩
 case round=>
  obtain⟨k,hk,rfl,hbw⟩:=hrel
  by_cases hlt:k<len
  ·obtain⟨hl1,_,hx1⟩:=h1
   obtain⟨hl2,_,hx2⟩:=h2
   obtain⟨g1,o1,rfl,hr1⟩:=hx1.resolve_left (by omega)
   obtain⟨g2,o2,rfl,hr2⟩:=hx2.resolve_left (by omega)
   obtain⟨x,hxk⟩:∃x,xs[k]? =some x:=⟨_,List.getElem?_eq_getElem (by omega)⟩
   have hg1:g1<w.heap.size:=hr1.lt (by omega)
   have hg2:g2<w.heap.size:=hr2.lt (by omega)
   have hs1:g1<wr.heap.size:=Nat.lt_of_lt_of_le hg1 hbw.size
   have hs2:g2<wr.heap.size:=Nat.lt_of_lt_of_le hg2 hbw.size
   have hS:((wr.cell? ⟨g1,o1+k*13,none⟩=some (.int .i64 x.ky)∧wr.cell? ⟨g1,o1+k*13+1,none⟩=some (.int .i64 x.st)∧wr.cell? ⟨g1,o1+k*13+2,none⟩=some (.int .i64 x.en)∧wr.cell? ⟨g1,o1+k*13+3,none⟩=some (.int .i64 x.an)∧wr.cell? ⟨g1,o1+k*13+4,none⟩=some (.int .i64 x.asu)∧wr.cell? ⟨g1,o1+k*13+5,none⟩=some (.int .i64 x.ale)∧wr.cell? ⟨g1,o1+k*13+6,none⟩=some (.int .i64 x.amo)∧wr.cell? ⟨g1,o1+k*13+7,none⟩=some (.int .i64 x.fn)∧wr.cell? ⟨g1,o1+k*13+8,none⟩=some (.int .i64 x.fsu)∧wr.cell? ⟨g1,o1+k*13+9,none⟩=some (.int .i64 x.fle)∧wr.cell? ⟨g1,o1+k*13+10,none⟩=some (.int .i64 x.fmo)∧wr.cell? ⟨g1,o1+k*13+11,none⟩=some (.int .i64 x.td)∧wr.cell? ⟨g1,o1+k*13+12,none⟩=some (.bool x.tm)∧wr.cell? ⟨g2,o2+k*13,none⟩=some (.int .i64 x.ky)∧wr.cell? ⟨g2,o2+k*13+1,none⟩=some (.int .i64 x.st)∧wr.cell? ⟨g2,o2+k*13+2,none⟩=some (.int .i64 x.en)∧wr.cell? ⟨g2,o2+k*13+3,none⟩=some (.int .i64 x.an)∧wr.cell? ⟨g2,o2+k*13+4,none⟩=some (.int .i64 x.asu)∧wr.cell? ⟨g2,o2+k*13+5,none⟩=some (.int .i64 x.ale)∧wr.cell? ⟨g2,o2+k*13+6,none⟩=some (.int .i64 x.amo)∧wr.cell? ⟨g2,o2+k*13+7,none⟩=some (.int .i64 x.fn)∧wr.cell? ⟨g2,o2+k*13+8,none⟩=some (.int .i64 x.fsu)∧wr.cell? ⟨g2,o2+k*13+9,none⟩=some (.int .i64 x.fle)∧wr.cell? ⟨g2,o2+k*13+10,none⟩=some (.int .i64 x.fmo)∧wr.cell? ⟨g2,o2+k*13+11,none⟩=some (.int .i64 x.td)∧wr.cell? ⟨g2,o2+k*13+12,none⟩=some (.bool x.tm))∧g1<wr.heap.size∧g2<wr.heap.size):=by
    obtain⟨c0,c1,c2,c3,c4,c5,c6,c7,c8,c9,c10,c11,c12⟩:=(hr1 k _ hxk).below hbw hg1
    obtain⟨d0,d1,d2,d3,d4,d5,d6,d7,d8,d9,d10,d11,d12⟩:=(hr2 k _ hxk).below hbw hg2
    exact⟨⟨c0,c1,c2,c3,c4,c5,c6,c7,c8,c9,c10,c11,c12,d0,d1,d2,d3,d4,d5,d6,d7,d8,d9,d10,d11,d12⟩,hs1,hs2⟩
   clear hx1 hx2 hxk hr1 hr2
   go_wp2
   go_region_held3 (fun W=>((W.cell? ⟨g1,o1+k*13,none⟩=some (.int .i64 x.ky)∧W.cell? ⟨g1,o1+k*13+1,none⟩=some (.int .i64 x.st)∧W.cell? ⟨g1,o1+k*13+2,none⟩=some (.int .i64 x.en)∧W.cell? ⟨g1,o1+k*13+3,none⟩=some (.int .i64 x.an)∧W.cell? ⟨g1,o1+k*13+4,none⟩=some (.int .i64 x.asu)∧W.cell? ⟨g1,o1+k*13+5,none⟩=some (.int .i64 x.ale)∧W.cell? ⟨g1,o1+k*13+6,none⟩=some (.int .i64 x.amo)∧W.cell? ⟨g1,o1+k*13+7,none⟩=some (.int .i64 x.fn)∧W.cell? ⟨g1,o1+k*13+8,none⟩=some (.int .i64 x.fsu)∧W.cell? ⟨g1,o1+k*13+9,none⟩=some (.int .i64 x.fle)∧W.cell? ⟨g1,o1+k*13+10,none⟩=some (.int .i64 x.fmo)∧W.cell? ⟨g1,o1+k*13+11,none⟩=some (.int .i64 x.td)∧W.cell? ⟨g1,o1+k*13+12,none⟩=some (.bool x.tm)∧W.cell? ⟨g2,o2+k*13,none⟩=some (.int .i64 x.ky)∧W.cell? ⟨g2,o2+k*13+1,none⟩=some (.int .i64 x.st)∧W.cell? ⟨g2,o2+k*13+2,none⟩=some (.int .i64 x.en)∧W.cell? ⟨g2,o2+k*13+3,none⟩=some (.int .i64 x.an)∧W.cell? ⟨g2,o2+k*13+4,none⟩=some (.int .i64 x.asu)∧W.cell? ⟨g2,o2+k*13+5,none⟩=some (.int .i64 x.ale)∧W.cell? ⟨g2,o2+k*13+6,none⟩=some (.int .i64 x.amo)∧W.cell? ⟨g2,o2+k*13+7,none⟩=some (.int .i64 x.fn)∧W.cell? ⟨g2,o2+k*13+8,none⟩=some (.int .i64 x.fsu)∧W.cell? ⟨g2,o2+k*13+9,none⟩=some (.int .i64 x.fle)∧W.cell? ⟨g2,o2+k*13+10,none⟩=some (.int .i64 x.fmo)∧W.cell? ⟨g2,o2+k*13+11,none⟩=some (.int .i64 x.td)∧W.cell? ⟨g2,o2+k*13+12,none⟩=some (.bool x.tm))∧g1<W.heap.size∧g2<W.heap.size)) ((first|((repeat(first|(with_reducible assumption)|(with_reducible refine bU ?_ (by with_reducible assumption))|(with_reducible refine bU ?_ (aj (Below.refl _ _)))|(with_reducible refine bU ?_ (ai _ _))));done)|(refine⟨⟨?_,?_,?_,?_,?_,?_,?_,?_,?_,?_,?_,?_,?_,?_,?_,?_,?_,?_,?_,?_,?_,?_,?_,?_,?_,?_⟩,?_,?_⟩<;>first|(go_keep;done)|(simp;done)|(simp;omega)|omega)))
    (first
    |(go_at_call 197;refine(eqOr_one _ _).mono ?_;rintro e w' ⟨rfl,hb⟩;obtain⟨hc,hf,hs⟩:=ac hb))
   go_wp2
   go_roundw
   case rel=>exact⟨k+1,by omega,by go_num,(ar)⟩
   case measure=>simp[intOf];omega
  ·go_wp2
   go_ret
   exact⟨rfl,hbw⟩
theorem ah(n a b:Int)(w:World):Calls Tryz.prog 126 #[.int .i64 n,.int .i64 a,.int .i64 b] w fun e w'=>e= .returned (.bool (aP n a b))∧w'=w:=by
 by_cases h1:a≤n
 ·by_cases h2:n≤b
  ·have h3:=ab (gj h1 h2)
   go_enter Tryz.func126,Tryz.ntmps126
   go_wp2
   go_ret
   exact⟨af (aa h3).symm,rfl⟩
  ·have h3:=ab (dX (n:=n) (a:=a) (b:=b) (by omega))
   go_enter Tryz.func126,Tryz.ntmps126
   go_wp2
   go_ret
   exact⟨af (aa h3).symm,rfl⟩
 ·have h3:=ab (dX (n:=n) (a:=a) (b:=b) (by omega))
  go_enter Tryz.func126,Tryz.ntmps126
  go_wp2
  go_ret
  exact⟨af (aa h3).symm,rfl⟩
theorem al(n a b:Int)(w:World):Calls Tryz.prog 63 #[.int .i64 n,.int .i64 a,.int .i64 b] w fun e w'=>e= .returned (.bool (aP n a b))∧w'=w:=by
 by_cases h1:a≤n
 ·by_cases h2:n≤b
  ·have h3:=ab (gj h1 h2)
   go_enter Tryz.func63,Tryz.ntmps63
   go_wp2
   go_ret
   exact⟨af (aa h3).symm,rfl⟩
  ·have h3:=ab (dX (n:=n) (a:=a) (b:=b) (by omega))
   go_enter Tryz.func63,Tryz.ntmps63
   go_wp2
   go_ret
   exact⟨af (aa h3).symm,rfl⟩
 ·have h3:=ab (dX (n:=n) (a:=a) (b:=b) (by omega))
  go_enter Tryz.func63,Tryz.ntmps63
  go_wp2
  go_ret
  exact⟨af (aa h3).symm,rfl⟩
theorem gk(a b:Int)(w:World):Calls Tryz.prog 180 #[.agg #[.int .i64 a,.int .i64 b]] w fun e w'=>e= .returned (.agg #[.int .i64 a,.int .i64 b])∧Below w.heap.size w w':=by
 go_enter Tryz.func180,Tryz.ntmps180
 go_wp2
 exact bodyPost_ret (v:= .agg #[.int .i64 a,.int .i64 b]) (by simp[results,Tryz.results180,go_sem]) rfl ⟨rfl,aB (aB (ai _ _) _) _⟩
/-- When a window is ok. -/
def bV(a b:Int):Bool:=aP a 0 60&&aP b (a+1) 120
theorem eg(a b:Int)(w:World):Calls Tryz.prog 195 #[.agg #[.int .i64 a,.int .i64 b]] w fun e w'=>e= .returned (.bool (bV a b))∧Below w.heap.size w w':=by
 by_cases h1:0≤a∧a≤60
 ·obtain⟨h1,h2⟩:=h1
  have h3:=gj h1 h2
  have h4:Hid (bV a b=aP b (a+1) 120):=ab (by simp[bV,h3])
  go_enter Tryz.func195,Tryz.ntmps195
  go_wp2_with (go_at_call 126;refine(ah _ _ _ _).mono ?_;rintro e w' ⟨rfl,rfl⟩)
  go_ret
  exact⟨af (aa h4).symm,ai _ _⟩
 ·have h3:=dX (n:=a) (a:=0) (b:=60) (by omega)
  have h4:Hid (bV a b=false):=ab (by simp[bV,h3])
  go_enter Tryz.func195,Tryz.ntmps195
  go_wp2_with (go_at_call 126;refine(ah _ _ _ _).mono ?_;rintro e w' ⟨rfl,rfl⟩)
  go_ret
  exact⟨af (aa h4).symm,ai _ _⟩
theorem au(a b:Int)(w:World):Calls Tryz.prog 146 #[.agg #[.int .i64 a,.int .i64 b]] w fun e w'=>e= .returned (.bool (bV a b))∧Below w.heap.size w w':=by
 by_cases h1:0≤a∧a≤60
 ·obtain⟨h1,h2⟩:=h1
  have h3:=gj h1 h2
  have h4:Hid (bV a b=aP b (a+1) 120):=ab (by simp[bV,h3])
  go_enter Tryz.func146,Tryz.ntmps146
  go_wp2_with (go_at_call 63;refine(al _ _ _ _).mono ?_;rintro e w' ⟨rfl,rfl⟩)
  go_ret
  exact⟨af (aa h4).symm,ai _ _⟩
 ·have h3:=dX (n:=a) (a:=0) (b:=60) (by omega)
  have h4:Hid (bV a b=false):=ab (by simp[bV,h3])
  go_enter Tryz.func146,Tryz.ntmps146
  go_wp2_with (go_at_call 63;refine(al _ _ _ _).mono ?_;rintro e w' ⟨rfl,rfl⟩)
  go_ret
  exact⟨af (aa h4).symm,ai _ _⟩
theorem iI(n s l m:Int)(w:World):Calls Tryz.prog 181 #[.agg #[.int .i64 n,.int .i64 s,.int .i64 l,.int .i64 m]] w fun e w'=>e= .returned (.agg #[.int .i64 n,.int .i64 s,.int .i64 l,.int .i64 m])∧Below w.heap.size w w':=by
 go_enter Tryz.func181,Tryz.ntmps181
 go_wp2
 refine bodyPost_ret (v:= .agg #[.int .i64 n,.int .i64 s,.int .i64 l,.int .i64 m]) (by simp[results,Tryz.results181,go_sem]) rfl ⟨rfl,?_⟩
 exact(aL)
/-- When what is known is ok. -/
def dj(n s l m:Int):Bool:=if n=0 then(s==0)&&(l==0)&&(m==0)else aP n 1 1000&&aP l (-9) 9&&aP m l 9&&aP s (n*l) (n*m)
theorem okAgg_0(s l m:Int):dj 0 s l m=((s==0)&&(l==0)&&(m==0)):=rfl
theorem i9{n:Int}(h:n≠0)(s l m:Int):dj n s l m=(aP n 1 1000&&aP l (-9) 9&&aP m l 9&&aP s (n*l) (n*m)):=if_neg h
theorem ja{n l:Int}(h1:aP n 1 1000=true)(h2:aP l (-9) 9=true): -9000≤n*l∧n*l≤9000:=by
 rw[aZ]at h1 h2
 have a:=Int.mul_le_mul_of_nonneg_left h2.2 (show(0:Int)≤n by omega)
 have b:=Int.mul_le_mul_of_nonneg_left h2.1 (show(0:Int)≤n by omega)
 omega
theorem inB_up{m l:Int}(h1:aP l (-9) 9=true)(h2:aP m l 9=true):aP m (-9) 9=true:=by
 rw[aZ]at*
 omega
theorem av(n s l m:Int)(w:World):Calls Tryz.prog 147 #[.agg #[.int .i64 n,.int .i64 s,.int .i64 l,.int .i64 m]] w fun e w'=>e= .returned (.bool (dj n s l m))∧Below w.heap.size w w':=by
 by_cases h0:n=0
 ·subst h0
  rw[okAgg_0]
  cases c0:(s==0)<;>cases c1:(l==0)<;>cases c2:(m==0)
  all_goals
   have hq:Hid (true=true):=ab rfl
   go_enter Tryz.func147,Tryz.ntmps147
   go_wp2_with (go_at_call 63;refine(al _ _ _ _).mono ?_;rintro e w' ⟨rfl,rfl⟩)
   go_ret
   exact⟨rfl,(aL)⟩
 rw[i9 h0]
 have g0:(n==0)=false:=by simpa using h0
 clear h0
 cases c0:aP n 1 1000
 ·have hq:Hid ((false&&aP l (-9) 9&&aP m l 9&&aP s (n*l) (n*m))=false):=ab (by simp)
  go_enter Tryz.func147,Tryz.ntmps147
  go_wp2_with (go_at_call 63;refine(al _ _ _ _).mono ?_;rintro e w' ⟨rfl,rfl⟩)
  go_ret
  exact⟨af (aa hq).symm,(aL)⟩
 cases c1:aP l (-9) 9
 ·have hq:Hid ((true&&false&&aP m l 9&&aP s (n*l) (n*m))=false):=ab (by simp)
  go_enter Tryz.func147,Tryz.ntmps147
  go_wp2_with (go_at_call 63;refine(al _ _ _ _).mono ?_;rintro e w' ⟨rfl,rfl⟩)
  go_ret
  exact⟨af (aa hq).symm,(aL)⟩
 cases c2:aP m l 9
 ·have hq:Hid ((true&&true&&false&&aP s (n*l) (n*m))=false):=ab (by simp)
  go_enter Tryz.func147,Tryz.ntmps147
  go_wp2_with (go_at_call 63;refine(al _ _ _ _).mono ?_;rintro e w' ⟨rfl,rfl⟩)
  go_ret
  exact⟨af (aa hq).symm,(aL)⟩
 have m1:=ja c0 c1
 have m2:=ja c0 (inB_up c1 c2)
 have hq:Hid ((true&&true&&true&&aP s (n*l) (n*m))=aP s (n*l) (n*m)):=ab (by simp)
 go_enter Tryz.func147,Tryz.ntmps147
 go_wp2_with (go_at_call 63;refine(al _ _ _ _).mono ?_;rintro e w' ⟨rfl,rfl⟩)
 go_ret
 exact⟨af (aa hq).symm,(aL)⟩
theorem aC(n s l m:Int)(w:World):Calls Tryz.prog 193 #[.agg #[.int .i64 n,.int .i64 s,.int .i64 l,.int .i64 m]] w fun e w'=>e= .returned (.bool (dj n s l m))∧Below w.heap.size w w':=by
 by_cases h0:n=0
 ·subst h0
  rw[okAgg_0]
  cases c0:(s==0)<;>cases c1:(l==0)<;>cases c2:(m==0)
  all_goals
   have hq:Hid (true=true):=ab rfl
   go_enter Tryz.func193,Tryz.ntmps193
   go_wp2_with (go_at_call 126;refine(ah _ _ _ _).mono ?_;rintro e w' ⟨rfl,rfl⟩)
   go_ret
   exact⟨rfl,(aL)⟩
 rw[i9 h0]
 have g0:(n==0)=false:=by simpa using h0
 clear h0
 cases c0:aP n 1 1000
 ·have hq:Hid ((false&&aP l (-9) 9&&aP m l 9&&aP s (n*l) (n*m))=false):=ab (by simp)
  go_enter Tryz.func193,Tryz.ntmps193
  go_wp2_with (go_at_call 126;refine(ah _ _ _ _).mono ?_;rintro e w' ⟨rfl,rfl⟩)
  go_ret
  exact⟨af (aa hq).symm,(aL)⟩
 cases c1:aP l (-9) 9
 ·have hq:Hid ((true&&false&&aP m l 9&&aP s (n*l) (n*m))=false):=ab (by simp)
  go_enter Tryz.func193,Tryz.ntmps193
  go_wp2_with (go_at_call 126;refine(ah _ _ _ _).mono ?_;rintro e w' ⟨rfl,rfl⟩)
  go_ret
  exact⟨af (aa hq).symm,(aL)⟩
 cases c2:aP m l 9
 ·have hq:Hid ((true&&true&&false&&aP s (n*l) (n*m))=false):=ab (by simp)
  go_enter Tryz.func193,Tryz.ntmps193
  go_wp2_with (go_at_call 126;refine(ah _ _ _ _).mono ?_;rintro e w' ⟨rfl,rfl⟩)
  go_ret
  exact⟨af (aa hq).symm,(aL)⟩
 have m1:=ja c0 c1
 have m2:=ja c0 (inB_up c1 c2)
 have hq:Hid ((true&&true&&true&&aP s (n*l) (n*m))=aP s (n*l) (n*m)):=ab (by simp)
 go_enter Tryz.func193,Tryz.ntmps193
 go_wp2_with (go_at_call 126;refine(ah _ _ _ _).mono ?_;rintro e w' ⟨rfl,rfl⟩)
 go_ret
 exact⟨af (aa hq).symm,(aL)⟩
end Go.Proofs.YtealpjmannopeaaGreat
namespace Go.Proofs.YtealpjmannopeaaGreat
open Go.ChangeShapes Go.WideShapes Go.ChangeAt Go.RowKit Go.Deep
/-- Each number is an int. -/
def bK.ok64(x:bK):Prop:=(-9223372036854775808≤x.ky∧x.ky≤9223372036854775807)∧(-9223372036854775808≤x.st∧x.st≤9223372036854775807)∧(-9223372036854775808≤x.en∧x.en≤9223372036854775807)∧(-9223372036854775808≤x.an∧x.an≤9223372036854775807)∧(-9223372036854775808≤x.asu∧x.asu≤9223372036854775807)∧(-9223372036854775808≤x.ale∧x.ale≤9223372036854775807)∧(-9223372036854775808≤x.amo∧x.amo≤9223372036854775807)∧(-9223372036854775808≤x.fn∧x.fn≤9223372036854775807)∧(-9223372036854775808≤x.fsu∧x.fsu≤9223372036854775807)∧(-9223372036854775808≤x.fle∧x.fle≤9223372036854775807)∧(-9223372036854775808≤x.fmo∧x.fmo≤9223372036854775807)∧(-9223372036854775808≤x.td∧x.td≤9223372036854775807)
section
variable {H : Type} {enc : TypeId × Value → H} {P : Program} {w : World} {base : Nat} {spare : Nat → Bool} {held : Bool}
theorem cellsOr{a:Addr}{cs:List Value}(h:w.cells? base a 13=some cs)(f0:ef cs [false,false,false,false,false,false,false,false,false,false,false,false,true]):a.spot=none∧∃x:bK,dx w a.block a.off x∧x.ok64:=by
 obtain⟨z0,r0,rfl,y0,f1⟩:=aE f0
 clear f0
 obtain⟨z1,r1,rfl,y1,f2⟩:=aE f1
 clear f1
 obtain⟨z2,r2,rfl,y2,f3⟩:=aE f2
 clear f2
 obtain⟨z3,r3,rfl,y3,f4⟩:=aE f3
 clear f3
 obtain⟨z4,r4,rfl,y4,f5⟩:=aE f4
 clear f4
 obtain⟨z5,r5,rfl,y5,f6⟩:=aE f5
 clear f5
 obtain⟨z6,r6,rfl,y6,f7⟩:=aE f6
 clear f6
 obtain⟨z7,r7,rfl,y7,f8⟩:=aE f7
 clear f7
 obtain⟨z8,r8,rfl,y8,f9⟩:=aE f8
 clear f8
 obtain⟨z9,r9,rfl,y9,f10⟩:=aE f9
 clear f9
 obtain⟨z10,r10,rfl,y10,f11⟩:=aE f10
 clear f10
 obtain⟨z11,r11,rfl,y11,f12⟩:=aE f11
 clear f11
 obtain⟨z12,r12,rfl,f13⟩:=fits_bool f12
 clear f12
 obtain rfl:=fe f13
 obtain⟨_,hlen,hc⟩:=World.cells?_some h
 have c0:=hc 0 (by omega)
 have c1:=hc 1 (by omega)
 have c2:=hc 2 (by omega)
 have c3:=hc 3 (by omega)
 have c4:=hc 4 (by omega)
 have c5:=hc 5 (by omega)
 have c6:=hc 6 (by omega)
 have c7:=hc 7 (by omega)
 have c8:=hc 8 (by omega)
 have c9:=hc 9 (by omega)
 have c10:=hc 10 (by omega)
 have c11:=hc 11 (by omega)
 have c12:=hc 12 (by omega)
 obtain⟨g,o,sp⟩:=a
 have ha0:(⟨g,o,sp⟩:Addr).add 0=⟨g,o,sp⟩:=by simp[Addr.add]
 have hsp:sp=none:=World.cell?_spot (w:=w) (a:=⟨g,o,sp⟩) (v:= .int .i64 z0) (by rw[←ha0];simpa using c0)
 subst hsp
 exact⟨rfl,⟨z0,z1,z2,z3,z4,z5,z6,z7,z8,z9,z10,z11,z12⟩,⟨by simpa[Addr.add]using c0,by simpa[Addr.add]using c1,by simpa[Addr.add]using c2,by simpa[Addr.add]using c3,by simpa[Addr.add]using c4,by simpa[Addr.add]using c5,by simpa[Addr.add]using c6,by simpa[Addr.add]using c7,by simpa[Addr.add]using c8,by simpa[Addr.add]using c9,by simpa[Addr.add]using c10,by simpa[Addr.add]using c11,by simpa[Addr.add]using c12⟩,aW y0,aW y1,aW y2,aW y3,aW y4,aW y5,aW y6,aW y7,aW y8,aW y9,aW y10,aW y11⟩
theorem openOr{t e:TypeId}{a:Option Addr}{len cap:Nat}{d:DataW H}{p:List MemPlace}(ht:P.underlying t=some (.slice e))(hk:bf P 5 e=some [false,false,false,false,false,false,false,false,false,false,false,false,true])(hC:P.cellsOf e=13)
  (h:DataW.Trod enc P w base spare held t (.slice a len cap) d p):∃xs:List bK,dm w a len xs∧∀x ∈ xs,x.ok64:=by
 obtain⟨fuel,hf⟩:=h
 rcases open_slice ht hf with⟨hcs,_⟩|⟨a',len',cap',m,n,D,Pl,hcs,_,hl,hm,hmm,_,hx⟩
 ·simp[Value.cells]at hcs
  obtain⟨rfl,rfl,rfl⟩:=hcs
  exact⟨[],⟨rfl,Nat.zero_le _,Or.inl rfl⟩,by simp⟩
 ·simp[Value.cells]at hcs
  obtain⟨rfl,rfl,rfl⟩:=hcs
  have hlm:len≤m:=by rw[hmm];split<;>omega
  have hall:∀i,i<len→∃x:bK,(i=0→a'.spot=none)∧dx w a'.block (a'.off+i*13) x∧x.ok64:=by
   intro i hi
   obtain⟨cs',h1,h2⟩:=hx i (by omega)
   rw[hC]at h1
   obtain⟨hsp,x,hxa,hxo⟩:=cellsOr h1 (dt 5 hk h2)
   have hb:(a'.add (i*13)).block=a'.block∧(a'.add (i*13)).off=a'.off+i*13:=by
    unfold Addr.add
    split
    ·exact⟨rfl,by omega⟩
    ·exact⟨rfl,rfl⟩
   rw[hb.1,hb.2]at hxa
   refine⟨x,fun h0=>?_,hxa,hxo⟩
   subst h0
   simpa[Addr.add]using hsp
  by_cases h0:len=0
  ·subst h0
   exact⟨[],⟨rfl,Nat.zero_le _,Or.inl rfl⟩,by simp⟩
  have hinh:Inhabited bK:=⟨⟨0,0,0,0,0,0,0,0,0,0,0,0,false⟩⟩
  obtain⟨f,hf'⟩:=choose_lt hall
  have hsp:=(hf' 0 (by omega)).1 rfl
  refine⟨(List.range len).map f,⟨by simp,by omega,Or.inr ⟨a'.block,a'.off,by cases a';simp_all,?_⟩⟩,?_⟩
  ·intro i x hix
   simp only[List.getElem?_map,Option.map_eq_some_iff]at hix
   obtain⟨j,hj,rfl⟩:=hix
   have hil:i<len:=by
    rcases Nat.lt_or_ge i len with h'|h'
    ·exact h'
    ·rw[List.getElem?_eq_none (by simpa using h')]at hj;cases hj
   rw[List.getElem?_eq_getElem (by simpa using hil)]at hj
   simp at hj
   subst hj
   exact(hf' i hil).2.1
  ·intro x hxm
   simp only[List.mem_map,List.mem_range]at hxm
   obtain⟨i,hi,rfl⟩:=hxm
   exact(hf' i hi).2.2
end
theorem Tryz.infoOr:(Tryz.prog.info? 215).map (fun i=>(i.zero,i.size,i.bytes))=some (some (.agg #[.int .i64 0,.int .i64 0,.int .i64 0,.int .i64 0,.int .i64 0,.int .i64 0,.int .i64 0,.int .i64 0,.int .i64 0,.int .i64 0,.int .i64 0,.int .i64 0,.bool false]),13,104):=by kernel_rfl
theorem mkOr(len:Nat)(hl:len≤1048576):∃C:Array Value,C.size=len*13∧∀w:World,(Instr.makeSlice 134 (.int .i64 (len:Int)) (.int .i64 (len:Int))).run Tryz.prog w= .ok (.slice (some ⟨w.heap.size,0,none⟩) len len) (w.alloc (.cells C 215)):=by
 obtain⟨i0,hi,hz0,hz1,hz2⟩:=info_parts Tryz.infoOr
 refine⟨madeCells (Value.agg #[.int .i64 0,.int .i64 0,.int .i64 0,.int .i64 0,.int .i64 0,.int .i64 0,.int .i64 0,.int .i64 0,.int .i64 0,.int .i64 0,.int .i64 0,.int .i64 0,.bool false]).cells (len*i0.size),by rw[size_madeCells,hz1],fun w=>?_⟩
 have h:=run_make (P:=Tryz.prog) w 134 215 i0 _ Tryz.underlying134 hi hz0 .i64 .i64 len len (by omega) (Int.le_refl _) (by rw[hz2];omega) (by omega)
 simpa using h
/-- The slice that is being filled. -/
def es(W:World)(g ty len:Nat)(ys:List bK):Prop:=cw W g ty len∧∀i x,ys[i]? =some x→dx W g (i*13) x
theorem es.step{wr w':World}{g ty len k:Nat}{xs:List bK}{x:bK}(h:es wr g ty len (xs.take k))(hb:Below wr.heap.size wr w')(hk:k<len)(hx:xs[k]? =some x):es (gP w' g (k*13) x) g ty len (xs.take (k+1)):=by
 have hB:=h.1.below hb h.1.lt
 refine⟨hB.sets x,fun i y hy=>?_⟩
 have hik:i<k+1:=by
  rcases Nat.lt_or_ge i (k+1)with h'|h'
  ·exact h'
  ·rw[List.getElem?_eq_none (by simp;omega)]at hy;cases hy
 rw[List.getElem?_take_of_lt hik]at hy
 by_cases he:i=k
 ·subst he
  rw[hx]at hy
  cases hy
  exact setOr_this hB hk x
 ·refine setOr_ne ?_ he
  exact(h.2 i y (by rw[List.getElem?_take_of_lt (by omega)];exact hy)).below hb h.1.lt
theorem es.start{w:World}{ty len:Nat}{C:Array Value}(hC:C.size=len*13)(xs:List bK):es (w.alloc (.cells C ty)) w.heap.size ty len (xs.take 0):=
 ⟨⟨C,by show(w.heap.push _)[w.heap.size]? =_;simp,hC⟩,fun i x h=>by simp at h⟩
theorem es.done{W:World}{g ty len k:Nat}{xs:List bK}(h:es W g ty len (xs.take k))(hk:xs.length≤k):er W g 0 xs:=by
 intro i x hx
 rw[List.take_of_length_le hk]at h
 simpa using h.2 i x hx
theorem below_setOr{B g o:Nat}{W W':World}{x:bK}(h:Below B W W')(hg:B≤g):Below B W (gP W' g o x):=(((((((((((((h.setCell hg _).setCell hg _).setCell hg _).setCell hg _).setCell hg _).setCell hg _).setCell hg _).setCell hg _).setCell hg _).setCell hg _).setCell hg _).setCell hg _).setCell hg _)
set_option maxRecDepth 20000 in
set_option maxHeartbeats 1000000 in
theorem toOr_one(ky:Int)(st:Int)(en:Int)(an:Int)(asu:Int)(ale:Int)(amo:Int)(fn:Int)(fsu:Int)(fle:Int)(fmo:Int)(td:Int)(tm:Bool)(w:World):Calls Tryz.prog 179 #[.agg #[.int .i64 ky,.int .i64 st,.int .i64 en,.int .i64 an,.int .i64 asu,.int .i64 ale,.int .i64 amo,.int .i64 fn,.int .i64 fsu,.int .i64 fle,.int .i64 fmo,.int .i64 td,.bool tm]] w fun e w'=>e= .returned (.agg #[.int .i64 ky,.int .i64 st,.int .i64 en,.int .i64 an,.int .i64 asu,.int .i64 ale,.int .i64 amo,.int .i64 fn,.int .i64 fsu,.int .i64 fle,.int .i64 fmo,.int .i64 td,.bool tm])∧Below w.heap.size w w':=by
 go_enter Tryz.func179,Tryz.ntmps179
 go_wp2_with (first
  |(go_at_call 180;refine(gk _ _ _).mono ?_;rintro e w' ⟨rfl,hb⟩;obtain⟨hc,hf,hs⟩:=ac hb;(try have hz0:=zA hb w.heap.size);(try have hz1:=zA hb (w.heap.size+1));(try have hz2:=zA hb (w.heap.size+1+1)))
  |(go_at_call 181;refine(iI _ _ _ _ _).mono ?_;rintro e w' ⟨rfl,hb⟩;obtain⟨hc,hf,hs⟩:=ac hb;(try have hz0:=zA hb w.heap.size);(try have hz1:=zA hb (w.heap.size+1));(try have hz2:=zA hb (w.heap.size+1+1))))
 refine bodyPost_ret (v:= .agg #[.int .i64 ky,.int .i64 st,.int .i64 en,.int .i64 an,.int .i64 asu,.int .i64 ale,.int .i64 amo,.int .i64 fn,.int .i64 fsu,.int .i64 fle,.int .i64 fmo,.int .i64 td,.bool tm]) (by simp(maxDischargeDepth:=9) [results,Tryz.results179,go_sem, *]) rfl ⟨rfl,?_⟩
 exact(ar)
set_option maxRecDepth 20000 in
set_option maxHeartbeats 1000000 in
theorem toOr_at(a:Option Addr)(len cap:Nat)(xs:List bK)(w:World)(h:dm w a len xs)(hl:len≤1048576):Calls Tryz.prog 149 #[.slice a len cap] w fun e w'=>e= .returned (.slice (some ⟨w.heap.size,0,none⟩) len len)∧er w' w.heap.size 0 xs∧cw w' w.heap.size 215 len∧Below w.heap.size w w':=by
 obtain⟨C,hC,hmk⟩:=mkOr len hl
 go_enter Tryz.func149,Tryz.ntmps149
 go_wp2
 go_loopw [4] (fun i wr=>∃k:Nat,k≤len∧i= .int .i64 k∧es wr w.heap.size 215 len (xs.take k)∧Below w.heap.size w wr) (fun i _=>len - (intOf i).toNat)
 case atStart=>exact⟨0,Nat.zero_le _,rfl,es.start hC xs,ai _ _⟩
 case round=>
  obtain⟨k,hk,rfl,hF,hbw⟩:=hrel
  by_cases hlt:k<len
  ·obtain⟨hxl,hml,hx⟩:=h
   obtain⟨g,o,rfl,hr⟩:=hx.resolve_left (by omega)
   obtain⟨x,hxk⟩:∃x,xs[k]? =some x:=⟨_,List.getElem?_eq_getElem (by omega)⟩
   have hg:g<w.heap.size:=hr.lt (by omega)
   have hX:=ab hxk
   obtain⟨c0,c1,c2,c3,c4,c5,c6,c7,c8,c9,c10,c11,c12⟩:=(hr k _ hxk).below hbw hg
   obtain⟨⟨u0,d0⟩,⟨u1,d1⟩,⟨u2,d2⟩,⟨u3,d3⟩,⟨u4,d4⟩,⟨u5,d5⟩,⟨u6,d6⟩,⟨u7,d7⟩,⟨u8,d8⟩,⟨u9,d9⟩,⟨u10,d10⟩,⟨u11,d11⟩,⟨u12,d12⟩⟩:=hF.1.cells hlt
   have f0:=hF.1.frozen (i:=k*13)
   have f1:=hF.1.frozen (i:=k*13+1)
   have f2:=hF.1.frozen (i:=k*13+2)
   have f3:=hF.1.frozen (i:=k*13+3)
   have f4:=hF.1.frozen (i:=k*13+4)
   have f5:=hF.1.frozen (i:=k*13+5)
   have f6:=hF.1.frozen (i:=k*13+6)
   have f7:=hF.1.frozen (i:=k*13+7)
   have f8:=hF.1.frozen (i:=k*13+8)
   have f9:=hF.1.frozen (i:=k*13+9)
   have f10:=hF.1.frozen (i:=k*13+10)
   have f11:=hF.1.frozen (i:=k*13+11)
   have f12:=hF.1.frozen (i:=k*13+12)
   have hz:=hF.1.lt
   clear hx hxk
   go_wp2_with (go_at_call 179;refine(toOr_one _ _ _ _ _ _ _ _ _ _ _ _ _ _).mono ?_;rintro e w' ⟨rfl,hb⟩;obtain⟨hc,hf,hs⟩:=ac hb)
   go_roundw
   case rel=>exact⟨k+1,by omega,by go_num,hF.step hb hlt (aa hX),below_setOr (ae hbw hb) (Nat.le_refl _)⟩
   case measure=>simp[intOf];omega
  ·go_wp2
   go_ret
   exact⟨rfl,hF.done (by have:=h.1;omega),hF.1,hbw⟩
theorem szOr_le(a:Option Addr)(len cap:Nat)(L:Int)(w:World)(hL:L≤1048576)(h1:(len:Int)≤L):Calls Tryz.prog 142 #[.slice a len cap,.int .i64 L] w fun e w'=>e= .returned (.int .i64 (L - (len:Int)))∧w'=w:=by
 go_enter Tryz.func142,Tryz.ntmps142
 go_wp2
 go_ret
 exact⟨rfl,rfl⟩
theorem szOr_gt(a:Option Addr)(len cap:Nat)(L:Int)(w:World)(h:len≤maxLen)(h0:0≤L)(hL:L≤1048576)(h1:¬ (len:Int)≤L):Calls Tryz.prog 142 #[.slice a len cap,.int .i64 L] w fun e w'=>e= .returned (.int .i64 (-1))∧w'=w:=by
 unfold maxLen at h
 go_enter Tryz.func142,Tryz.ntmps142
 go_wp2
 go_ret
 exact⟨rfl,rfl⟩
theorem OrRs_of{W:World}{g len:Nat}{xs:List bK}(h1:xs.length=len)(h2:len≤maxLen)(h:er W g 0 xs):dm W (some ⟨g,0,none⟩) len xs:=⟨h1,h2,Or.inr ⟨g,0,rfl,h⟩⟩
theorem toOr_any(a:Option Addr)(len cap:Nat)(xs:List bK)(w:World)(h:dm w a len xs)(hl:len≤1048576):Calls Tryz.prog 149 #[.slice a len cap] w fun e w'=>∃a',e= .returned (.slice a' len len)∧dm w' a' len xs∧i8 w' a' len len∧(∀g o,0<len→a'=some ⟨g,o,none⟩→w.heap.size≤g)∧Below w.heap.size w w':=
 (toOr_at a len cap xs w h hl).mono fun e w' ⟨h1,h2,h3,h4⟩=>⟨_,h1,OrRs_of h.1 h.2.1 h2,Or.inr ⟨_,rfl,h3,Nat.le_refl _⟩,fun g o _ e'=>by simp at e';omega,h4⟩
end Go.Proofs.YtealpjmannopeaaGreat
namespace Go.Proofs.YtealpjmannopeaaGreat
open Go.ChangeShapes Go.WideShapes Go.ChangeAt Go.RowKit
theorem co{W:World}(p:Addr)(v:Value):W.grownBy (W.setCell p v) (some p.block):=⟨rfl,rfl,rfl,by simp[World.setCell],fun k hk hne=>Below.heap_setCell W p v k (fun e=>hne (by rw[e]))⟩
theorem dm.set{W:World}{p:Addr}{v:Value}{a:Option Addr}{n:Nat}{xs:List bK}(h:dm W a n xs)(hp:∀g o,0<n→a=some ⟨g,o,none⟩→p.block<g):dm (W.setCell p v) a n xs:=h.grown (co p v) (fun g o hn ha=>by have:=hp g o hn ha;simp;omega)
theorem i8.set{W:World}{p:Addr}{v:Value}{a:Option Addr}{n cap:Nat}(h:i8 W a n cap)(hp:∀g o,0<n→a=some ⟨g,o,none⟩→p.block<g):i8 (W.setCell p v) a n cap:=h.grown (co p v) (fun g o hn ha=>by have:=hp g o hn ha;simp;omega)
set_option maxRecDepth 20000 in
theorem toSt_any(m:Int)(a:Option Addr)(len cap:Nat)(xs:List bK)(w:World)(h:dm w a len xs)(hl:len≤1048576):Calls Tryz.prog 117 #[.agg #[.int .i64 m,.slice a len cap]] w fun e w'=>∃a',e= .returned (.agg #[.int .i64 m,.slice a' len len])∧dm w' a' len xs∧i8 w' a' len len∧(∀g o,0<len→a'=some ⟨g,o,none⟩→w.heap.size≤g)∧Below w.heap.size w w':=by
 go_enter Tryz.func117,Tryz.ntmps117
 go_wp2_with (go_at_call 149;refine(toOr_any a len cap xs _ (h.below (ar)) hl).mono ?_;rintro e' w' ⟨a',rfl,H,R,ge,hb⟩;obtain⟨hc,hf,hs⟩:=ac hb;have hz0:w.heap.size+1<w'.heap.size:=(zB hb);have hz1:w.heap.size+1+1<w'.heap.size:=(zB hb))
 have ge':∀g o,0<len→a'=some ⟨g,o,none⟩→w.heap.size+1+1<g:=fun g o hp ha=>by have:=ge g o hp ha;simp at this;omega
 refine bodyPost_ret (v:= .agg #[.int .i64 m,.slice a' len len]) (by simp(maxDischargeDepth:=9) [results,Tryz.results117,go_sem, *]) rfl ⟨a',rfl,?_,?_,fun g o hp ha=>by have:=ge' g o hp ha;omega,?_⟩
 ·repeat(first|exact H|refine dm.set ?_ (fun g o hp ha=>by have:=ge' g o hp ha;simp;omega))
 ·repeat(first|exact R|refine i8.set ?_ (fun g o hp ha=>by have:=ge' g o hp ha;simp;omega))
 ·exact(ar)
set_option maxRecDepth 20000 in
theorem eqSt_any(m:Int)(a1 a2:Option Addr)(len cap1 cap2:Nat)(xs:List bK)(w:World)(h1:dm w a1 len xs)(h2:dm w a2 len xs):Calls Tryz.prog 135 #[.agg #[.int .i64 m,.slice a1 len cap1],.agg #[.int .i64 m,.slice a2 len cap2]] w fun e w'=>e= .returned (.bool true)∧Below w.heap.size w w':=by
 go_enter Tryz.func135,Tryz.ntmps135
 go_wp2_with (go_at_call 177;refine(eqOr_any a1 a2 len cap1 cap2 xs _ (h1.below (ar)) (h2.below (ar))).mono ?_;rintro e' w' ⟨rfl,hb⟩)
 go_ret
 exact⟨rfl,(ar)⟩
end Go.Proofs.YtealpjmannopeaaGreat
namespace Go.Proofs.YtealpjmannopeaaGreat
open Go.ChangeShapes Go.WideShapes Go.ChangeAt Go.RowKit Go.Deep
theorem aA{W:World}{g o:Nat}{v:Value}(h:W.cell? ⟨g,o,none⟩=some v):g<W.heap.size:=by
 rcases Nat.lt_or_ge g W.heap.size with hl|hg
 ·exact hl
 ·simp[World.cell?,Array.getElem?_eq_none hg]at h
theorem am{W:World}{g i j:Nat}{v:Value}(h:i≠j):(W.setCell ⟨g,i,none⟩ v).cell? ⟨g,j,none⟩=W.cell? ⟨g,j,none⟩:=World.cell?_setCell_other _ _ _ _ (by intro e;injection e with e1 e2;exact h e2)
/-- What counting answers: none is left, or so many, and all is short. -/
def gG(L:Int)(ok:Prop)(e:Ending):Prop:=∃r:Int,e= .returned (.int .i64 r)∧(r= -1∨(0≤r∧r≤L∧ok))
/-- All blocks but some stay as they are. -/
structure fA(S:Nat→Prop)(w w':World):Prop where
 os:w'.os=w.os
 tape:w'.tape=w.tape
 output:w'.output=w.output
 size:w.heap.size≤w'.heap.size
 blk:∀b,b<w.heap.size→¬ S b→w'.heap[b]? =w.heap[b]?
theorem fA.refl(S:Nat→Prop)(w:World):fA S w w:=⟨rfl,rfl,rfl,Nat.le_refl _,fun _ _ _=>rfl⟩
theorem fA.mono{S T:Nat→Prop}{w w':World}(h:fA S w w')(hs:∀b,S b→T b):fA T w w':=⟨h.os,h.tape,h.output,h.size,fun b hb hT=>h.blk b hb (fun hS=>hT (hs b hS))⟩
theorem fA.set{S:Nat→Prop}{w W:World}{p:Addr}(h:fA S w W)(hp:S p.block)(v:Value):fA S w (W.setCell p v):=⟨h.os,h.tape,h.output,by simp[World.setCell];exact h.size,fun b hb hS=>(Below.heap_setCell _ _ _ _ (fun e=>hS (by rw[e];exact hp))).trans (h.blk b hb hS)⟩
theorem fA.bel{S:Nat→Prop}{B:Nat}{w W W':World}(h:Below B w W)(hB:B≤W.heap.size)(k:fA S W W')(hS:∀b,S b→B≤b):Below B w W':=⟨k.os.trans h.os,k.tape.trans h.tape,k.output.trans h.output,Nat.le_trans h.size k.size,fun b hb=>(k.blk b (by omega) (fun e=>by have:=hS b e;omega)).trans (h.block b hb)⟩
/-- Ints lie one behind the other; a slice's value holds ints. -/
def InAt(W:World)(g o:Nat)(xs:List Int):Prop:=∀(i:Nat) (x:Int),xs[i]? =some x→W.cell? ⟨g,o+i,none⟩=some (.int .i64 x)
def fB(W:World)(a:Option Addr)(len:Nat)(xs:List Int):Prop:=xs.length=len∧len≤maxLen∧(len=0∨∃g o,a=some ⟨g,o,none⟩∧InAt W g o xs)
theorem InAt.lt{W:World}{g o:Nat}{xs:List Int}(h:InAt W g o xs)(hp:0<xs.length):g<W.heap.size:=aA (h 0 xs[0] (List.getElem?_eq_getElem hp))
theorem fB.below{W W':World}{a:Option Addr}{len:Nat}{xs:List Int}(h:fB W a len xs)(hb:Below W.heap.size W W'):fB W' a len xs:=by
 obtain⟨h1,h2,h3⟩:=h
 refine⟨h1,h2,?_⟩
 rcases h3 with h3|⟨g,o,ha,hr⟩
 ·exact Or.inl h3
 ·refine Or.inr ⟨g,o,ha,fun i x hx=>?_⟩
  have hlt:i<xs.length:=(List.getElem?_eq_some_iff.1 hx).1
  exact(hb.cell (p:=⟨g,o+i,none⟩) (hr.lt (by omega))).trans (hr i x hx)
theorem fB.keepB{S:Nat→Prop}{W W':World}{a:Option Addr}{len:Nat}{xs:List Int}(h:fB W a len xs)(k:fA S W W')(hs:∀g o,0<len→a=some ⟨g,o,none⟩→¬ S g):fB W' a len xs:=by
 obtain⟨h1,h2,h3⟩:=h
 refine⟨h1,h2,?_⟩
 rcases h3 with h3|⟨g,o,ha,hr⟩
 ·exact Or.inl h3
 ·refine Or.inr ⟨g,o,ha,fun i x hx=>?_⟩
  have hlt:i<xs.length:=(List.getElem?_eq_some_iff.1 hx).1
  exact(World.cell?_of_block (w:=W) (a:=⟨g,o+i,none⟩) (k.blk g (hr.lt (by omega)) (hs g o (by omega) ha))).trans (hr i x hx)
section
variable {H : Type} {enc : TypeId × Value → H} {P : Program} {w : World} {base : Nat} {spare : Nat → Bool} {held : Bool}
theorem openIn{t e:TypeId}{a:Option Addr}{len cap:Nat}{d:DataW H}{p:List MemPlace}(ht:P.underlying t=some (.slice e))(he:P.underlying e=some (.int .i64))(hC:P.cellsOf e=1)
  (h:DataW.Trod enc P w base spare held t (.slice a len cap) d p):∃xs:List Int,fB w a len xs∧∀x ∈ xs,-9223372036854775808≤x∧x≤9223372036854775807:=by
 obtain⟨fuel,hf⟩:=h
 rcases open_slice ht hf with⟨hcs,_⟩|⟨a',len',cap',m,n,D,Pl,hcs,_,hl,hm,hmm,_,hx⟩
 ·simp[Value.cells]at hcs
  obtain⟨rfl,rfl,rfl⟩:=hcs
  exact⟨[],⟨rfl,Nat.zero_le _,Or.inl rfl⟩,by simp⟩
 ·simp[Value.cells]at hcs
  obtain⟨rfl,rfl,rfl⟩:=hcs
  have hlm:len≤m:=by rw[hmm];split<;>omega
  have hall:∀i,i<len→∃z:Int,(i=0→a'.spot=none)∧w.cell? ⟨a'.block,a'.off+i,none⟩=some (.int .i64 z)∧(-9223372036854775808≤z∧z≤9223372036854775807):=by
   intro i hi
   obtain⟨cs',h1,h2⟩:=hx i (by omega)
   rw[hC]at h1
   obtain⟨z,rfl,_,hw⟩:=DataW.trod_int he h2
   obtain⟨_,_,hc⟩:=World.cells?_some h1
   have c0:=hc 0 (by omega)
   have hsp:(a'.add (i*1)).spot=none:=World.cell?_spot (w:=w) (a:=a'.add (i*1)) (v:= .int .i64 z) (by simpa[Addr.add]using c0)
   have ha:a'.add (i*1)=⟨a'.block,a'.off+i,none⟩:=by
    cases a' with
    |mk g o sp=>
     simp only[Addr.add]at hsp ⊢
     split at hsp<;>simp_all
   refine⟨z,fun h0=>?_,?_,aW hw⟩
   ·subst h0
    simpa[Addr.add]using hsp
   ·rw[←ha]
    simpa[Addr.add]using c0
  by_cases h0:len=0
  ·subst h0
   exact⟨[],⟨rfl,Nat.zero_le _,Or.inl rfl⟩,by simp⟩
  have hinh:Inhabited Int:=⟨0⟩
  obtain⟨f,hf'⟩:=choose_lt hall
  have hsp:=(hf' 0 (by omega)).1 rfl
  refine⟨(List.range len).map f,⟨by simp,by omega,Or.inr ⟨a'.block,a'.off,by cases a';simp_all,?_⟩⟩,?_⟩
  ·intro i x hix
   simp only[List.getElem?_map,Option.map_eq_some_iff]at hix
   obtain⟨j,hj,rfl⟩:=hix
   have hil:i<len:=by
    rcases Nat.lt_or_ge i len with h'|h'
    ·exact h'
    ·rw[List.getElem?_eq_none (by simpa using h')]at hj;cases hj
   rw[List.getElem?_eq_getElem (by simpa using hil)]at hj
   simp at hj
   subst hj
   exact(hf' i hil).2.1
  ·intro x hxm
   simp only[List.mem_map,List.mem_range]at hxm
   obtain⟨i,hi,rfl⟩:=hxm
   exact(hf' i hi).2.2
end
/-- A block of ints, known whole. -/
def eO(W:World)(g len:Nat):Prop:=∃cur,W.heap[g]? =some (.cells cur 3 (0,0))∧cur.size=len
theorem eO.set{W:World}{g len i:Nat}(h:eO W g len)(v:Value):eO (W.setCell ⟨g,i,none⟩ v) g len:=by
 obtain⟨cur,h1,h2⟩:=h
 exact⟨_,Joins.block_setCell h1 v,by simp[h2]⟩
theorem eO.lt{W:World}{g len:Nat}(h:eO W g len):g<W.heap.size:=by
 obtain⟨cur,h1,h2⟩:=h
 exact(Array.getElem?_eq_some_iff.1 h1).1
theorem eO.cell{W:World}{g len i:Nat}(h:eO W g len)(hi:i<len):∃u,W.cell? ⟨g,i,none⟩=some u:=by
 obtain⟨cur,h1,h2⟩:=h
 exact⟨_,(cA h1 i).trans (Array.getElem?_eq_getElem (by omega))⟩
theorem eO.frozen{W:World}{g len i:Nat}(h:eO W g len):W.frozen? ⟨g,i,none⟩=false:=by
 obtain⟨cur,h1,h2⟩:=h
 exact Joins.unfrozen_of_block h1 i
def WrIn(W:World)(a:Option Addr)(n:Nat):Prop:=n=0∨∃g,a=some ⟨g,0,none⟩∧eO W g n
theorem In_this{W:World}{g len i:Nat}{v:Value}(h:eO W g len)(hi:i<len):(W.setCell ⟨g,i,none⟩ v).cell? ⟨g,i,none⟩=some v:=by
 obtain⟨u,hu⟩:=h.cell hi
 exact World.cell?_setCell_same _ _ _ hu
theorem Tryz.infoIn:(Tryz.prog.info? 3).map (fun i=>(i.zero,i.size,i.bytes))=some (some (.int .i64 0),1,8):=by kernel_rfl
theorem mkIn(len:Nat)(hl:len≤1048576):∃C:Array Value,C.size=len∧∀w:World,(Instr.makeSlice 28 (.int .i64 (len:Int)) (.int .i64 (len:Int))).run Tryz.prog w= .ok (.slice (some ⟨w.heap.size,0,none⟩) len len) (w.alloc (.cells C 3)):=by
 obtain⟨i0,hi,hz0,hz1,hz2⟩:=info_parts Tryz.infoIn
 refine⟨madeCells (Value.int .i64 0).cells (len*i0.size),by rw[size_madeCells,hz1];omega,fun w=>?_⟩
 have h:=run_make (P:=Tryz.prog) w 28 3 i0 _ Tryz.underlying28 hi hz0 .i64 .i64 len len (by omega) (Int.le_refl _) (by rw[hz2];omega) (by omega)
 simpa using h
set_option maxRecDepth 20000 in
set_option maxHeartbeats 1000000 in
theorem toIn_any(a:Option Addr)(len cap:Nat)(xs:List Int)(w:World)(h:fB w a len xs)(hl:len≤1048576):Calls Tryz.prog 70 #[.slice a len cap] w fun e w'=>∃a',e= .returned (.slice a' len len)∧fB w' a' len xs∧WrIn w' a' len∧(∀g o,0<len→a'=some ⟨g,o,none⟩→w.heap.size≤g)∧Below w.heap.size w w':=by
 obtain⟨C,hC,hmk⟩:=mkIn len hl
 go_enter Tryz.func70,Tryz.ntmps70
 go_wp2
 go_loopw [4] (fun i wr=>∃k:Nat,k≤len∧i= .int .i64 k∧eO wr w.heap.size len∧(∀(i:Nat) (x:Int),i<k→xs[i]? =some x→wr.cell? ⟨w.heap.size,i,none⟩=some (.int .i64 x))∧Below w.heap.size w wr) (fun i _=>len - (intOf i).toNat)
 case atStart=>exact⟨0,Nat.zero_le _,rfl,⟨C,by show(w.heap.push _)[w.heap.size]? =_;simp,hC⟩,fun i x hi=>absurd hi (by omega),ai _ _⟩
 case round=>
  obtain⟨k,hk,rfl,hB,hF,hbw⟩:=hrel
  by_cases hlt:k<len
  ·obtain⟨hxl,hml,hx⟩:=h
   obtain⟨g,o,rfl,hr⟩:=hx.resolve_left (by omega)
   obtain⟨x,hxk⟩:∃x,xs[k]? =some x:=⟨_,List.getElem?_eq_getElem (by omega)⟩
   have hg:g<w.heap.size:=hr.lt (by omega)
   have hX:=ab hxk
   have HF:=ab hF
   have HB:=ab hB
   have c0:=(hbw.cell (p:=⟨g,o+k,none⟩) hg).trans (hr k _ hxk)
   obtain⟨u,d0⟩:=hB.cell hlt
   have f0:=hB.frozen (i:=k)
   have hz:=hB.lt
   have hltI:(k:Int)<(len:Int):=by omega
   clear hx hxk hr hF
   go_wp2
   go_roundw
   case rel=>
    refine⟨k+1,by omega,by go_num,(aa HB).set _,fun i y hi hy=>?_,hbw.setCell (Nat.le_refl _) _⟩
    by_cases he:i=k
    ·subst he
     rw[aa hX]at hy
     cases hy
     exact In_this (aa HB) hlt
    ·rw[am (by omega)]
     exact aa HF i y (by omega) hy
   case measure=>simp[intOf];omega
  ·go_wp2
   go_ret
   refine⟨_,rfl,⟨h.1,h.2.1,Or.inr ⟨_,0,rfl,fun i x hx=>?_⟩⟩,Or.inr ⟨_,rfl,hB⟩,fun g o _ e=>by simp at e;omega,hbw⟩
   have hi:i<xs.length:=(List.getElem?_eq_some_iff.1 hx).1
   rw[Nat.zero_add]
   exact hF i x (by have:=h.1;omega) hx
set_option maxRecDepth 20000 in
set_option maxHeartbeats 1000000 in
theorem eqIn_any(a1 a2:Option Addr)(len cap1 cap2:Nat)(xs:List Int)(w:World)(h1:fB w a1 len xs)(h2:fB w a2 len xs):Calls Tryz.prog 84 #[.slice a1 len cap1,.slice a2 len cap2] w fun e w'=>e= .returned (.bool true)∧Below w.heap.size w w':=by
 have hm:=h1.2.1
 unfold maxLen at hm
 go_enter Tryz.func84,Tryz.ntmps84
 go_wp2
 go_loopw [5] (fun i wr=>∃k:Nat,k≤len∧i= .int .i64 k∧Below w.heap.size w wr) (fun i _=>len - (intOf i).toNat)
 case atStart=>exact⟨0,Nat.zero_le _,rfl,Below.refl _ _⟩
 case round=>
  obtain⟨k,hk,rfl,hbw⟩:=hrel
  by_cases hlt:k<len
  ·obtain⟨hl1,_,hx1⟩:=h1
   obtain⟨hl2,_,hx2⟩:=h2
   obtain⟨g1,o1,rfl,hr1⟩:=hx1.resolve_left (by omega)
   obtain⟨g2,o2,rfl,hr2⟩:=hx2.resolve_left (by omega)
   obtain⟨x,hxk⟩:∃x,xs[k]? =some x:=⟨_,List.getElem?_eq_getElem (by omega)⟩
   have c0:=(hbw.cell (p:=⟨g1,o1+k,none⟩) (hr1.lt (by omega))).trans (hr1 k _ hxk)
   have d0:=(hbw.cell (p:=⟨g2,o2+k,none⟩) (hr2.lt (by omega))).trans (hr2 k _ hxk)
   have hltI:(k:Int)<(len:Int):=by omega
   clear hx1 hx2 hxk hr1 hr2
   go_wp2_with fail
   go_quiet (fail)
   go_wp2
   go_roundw
   case rel=>exact⟨k+1,by omega,by go_num,(ak)⟩
   case measure=>simp[intOf];omega
  ·go_wp2
   go_ret
   exact⟨rfl,hbw⟩
/-- Truth values lie one behind the other; a slice's value holds truth values. -/
def BoAt(W:World)(g o:Nat)(xs:List Bool):Prop:=∀(i:Nat) (x:Bool),xs[i]? =some x→W.cell? ⟨g,o+i,none⟩=some (.bool x)
def gH(W:World)(a:Option Addr)(len:Nat)(xs:List Bool):Prop:=xs.length=len∧len≤maxLen∧(len=0∨∃g o,a=some ⟨g,o,none⟩∧BoAt W g o xs)
theorem BoAt.lt{W:World}{g o:Nat}{xs:List Bool}(h:BoAt W g o xs)(hp:0<xs.length):g<W.heap.size:=aA (h 0 xs[0] (List.getElem?_eq_getElem hp))
theorem gH.below{W W':World}{a:Option Addr}{len:Nat}{xs:List Bool}(h:gH W a len xs)(hb:Below W.heap.size W W'):gH W' a len xs:=by
 obtain⟨h1,h2,h3⟩:=h
 refine⟨h1,h2,?_⟩
 rcases h3 with h3|⟨g,o,ha,hr⟩
 ·exact Or.inl h3
 ·refine Or.inr ⟨g,o,ha,fun i x hx=>?_⟩
  have hlt:i<xs.length:=(List.getElem?_eq_some_iff.1 hx).1
  exact(hb.cell (p:=⟨g,o+i,none⟩) (hr.lt (by omega))).trans (hr i x hx)
theorem gH.keepB{S:Nat→Prop}{W W':World}{a:Option Addr}{len:Nat}{xs:List Bool}(h:gH W a len xs)(k:fA S W W')(hs:∀g o,0<len→a=some ⟨g,o,none⟩→¬ S g):gH W' a len xs:=by
 obtain⟨h1,h2,h3⟩:=h
 refine⟨h1,h2,?_⟩
 rcases h3 with h3|⟨g,o,ha,hr⟩
 ·exact Or.inl h3
 ·refine Or.inr ⟨g,o,ha,fun i x hx=>?_⟩
  have hlt:i<xs.length:=(List.getElem?_eq_some_iff.1 hx).1
  exact(World.cell?_of_block (w:=W) (a:=⟨g,o+i,none⟩) (k.blk g (hr.lt (by omega)) (hs g o (by omega) ha))).trans (hr i x hx)
section
variable {H : Type} {enc : TypeId × Value → H} {P : Program} {w : World} {base : Nat} {spare : Nat → Bool} {held : Bool}
theorem openBo{t e:TypeId}{a:Option Addr}{len cap:Nat}{d:DataW H}{p:List MemPlace}(ht:P.underlying t=some (.slice e))(he:P.underlying e=some .bool)(hC:P.cellsOf e=1)
  (h:DataW.Trod enc P w base spare held t (.slice a len cap) d p):∃xs:List Bool,gH w a len xs∧∀x ∈ xs,x=x:=by
 obtain⟨fuel,hf⟩:=h
 rcases open_slice ht hf with⟨hcs,_⟩|⟨a',len',cap',m,n,D,Pl,hcs,_,hl,hm,hmm,_,hx⟩
 ·simp[Value.cells]at hcs
  obtain⟨rfl,rfl,rfl⟩:=hcs
  exact⟨[],⟨rfl,Nat.zero_le _,Or.inl rfl⟩,by simp⟩
 ·simp[Value.cells]at hcs
  obtain⟨rfl,rfl,rfl⟩:=hcs
  have hlm:len≤m:=by rw[hmm];split<;>omega
  have hall:∀i,i<len→∃z:Bool,(i=0→a'.spot=none)∧w.cell? ⟨a'.block,a'.off+i,none⟩=some (.bool z)∧z=z:=by
   intro i hi
   obtain⟨cs',h1,h2⟩:=hx i (by omega)
   rw[hC]at h1
   obtain⟨z,rfl,_⟩:=DataW.trod_bool he h2
   obtain⟨_,_,hc⟩:=World.cells?_some h1
   have c0:=hc 0 (by omega)
   have hsp:(a'.add (i*1)).spot=none:=World.cell?_spot (w:=w) (a:=a'.add (i*1)) (v:= .bool z) (by simpa[Addr.add]using c0)
   have ha:a'.add (i*1)=⟨a'.block,a'.off+i,none⟩:=by
    cases a' with
    |mk g o sp=>
     simp only[Addr.add]at hsp ⊢
     split at hsp<;>simp_all
   refine⟨z,fun h0=>?_,?_,rfl⟩
   ·subst h0
    simpa[Addr.add]using hsp
   ·rw[←ha]
    simpa[Addr.add]using c0
  by_cases h0:len=0
  ·subst h0
   exact⟨[],⟨rfl,Nat.zero_le _,Or.inl rfl⟩,by simp⟩
  have hinh:Inhabited Bool:=⟨false⟩
  obtain⟨f,hf'⟩:=choose_lt hall
  have hsp:=(hf' 0 (by omega)).1 rfl
  refine⟨(List.range len).map f,⟨by simp,by omega,Or.inr ⟨a'.block,a'.off,by cases a';simp_all,?_⟩⟩,?_⟩
  ·intro i x hix
   simp only[List.getElem?_map,Option.map_eq_some_iff]at hix
   obtain⟨j,hj,rfl⟩:=hix
   have hil:i<len:=by
    rcases Nat.lt_or_ge i len with h'|h'
    ·exact h'
    ·rw[List.getElem?_eq_none (by simpa using h')]at hj;cases hj
   rw[List.getElem?_eq_getElem (by simpa using hil)]at hj
   simp at hj
   subst hj
   exact(hf' i hil).2.1
  ·intro x hxm
   simp only[List.mem_map,List.mem_range]at hxm
   obtain⟨i,hi,rfl⟩:=hxm
   exact(hf' i hi).2.2
end
/-- A block of truth values, known whole. -/
def eP(W:World)(g len:Nat):Prop:=∃cur,W.heap[g]? =some (.cells cur 4 (0,0))∧cur.size=len
theorem eP.set{W:World}{g len i:Nat}(h:eP W g len)(v:Value):eP (W.setCell ⟨g,i,none⟩ v) g len:=by
 obtain⟨cur,h1,h2⟩:=h
 exact⟨_,Joins.block_setCell h1 v,by simp[h2]⟩
theorem eP.lt{W:World}{g len:Nat}(h:eP W g len):g<W.heap.size:=by
 obtain⟨cur,h1,h2⟩:=h
 exact(Array.getElem?_eq_some_iff.1 h1).1
theorem eP.cell{W:World}{g len i:Nat}(h:eP W g len)(hi:i<len):∃u,W.cell? ⟨g,i,none⟩=some u:=by
 obtain⟨cur,h1,h2⟩:=h
 exact⟨_,(cA h1 i).trans (Array.getElem?_eq_getElem (by omega))⟩
theorem eP.frozen{W:World}{g len i:Nat}(h:eP W g len):W.frozen? ⟨g,i,none⟩=false:=by
 obtain⟨cur,h1,h2⟩:=h
 exact Joins.unfrozen_of_block h1 i
def WrBo(W:World)(a:Option Addr)(n:Nat):Prop:=n=0∨∃g,a=some ⟨g,0,none⟩∧eP W g n
theorem Bo_this{W:World}{g len i:Nat}{v:Value}(h:eP W g len)(hi:i<len):(W.setCell ⟨g,i,none⟩ v).cell? ⟨g,i,none⟩=some v:=by
 obtain⟨u,hu⟩:=h.cell hi
 exact World.cell?_setCell_same _ _ _ hu
theorem Tryz.infoBo:(Tryz.prog.info? 4).map (fun i=>(i.zero,i.size,i.bytes))=some (some (.bool false),1,1):=by kernel_rfl
theorem mkBo(len:Nat)(hl:len≤1048576):∃C:Array Value,C.size=len∧∀w:World,(Instr.makeSlice 29 (.int .i64 (len:Int)) (.int .i64 (len:Int))).run Tryz.prog w= .ok (.slice (some ⟨w.heap.size,0,none⟩) len len) (w.alloc (.cells C 4)):=by
 obtain⟨i0,hi,hz0,hz1,hz2⟩:=info_parts Tryz.infoBo
 refine⟨madeCells (Value.bool false).cells (len*i0.size),by rw[size_madeCells,hz1];omega,fun w=>?_⟩
 have h:=run_make (P:=Tryz.prog) w 29 4 i0 _ Tryz.underlying29 hi hz0 .i64 .i64 len len (by omega) (Int.le_refl _) (by rw[hz2];omega) (by omega)
 simpa using h
set_option maxRecDepth 20000 in
set_option maxHeartbeats 1000000 in
theorem toBo_any(a:Option Addr)(len cap:Nat)(xs:List Bool)(w:World)(h:gH w a len xs)(hl:len≤1048576):Calls Tryz.prog 71 #[.slice a len cap] w fun e w'=>∃a',e= .returned (.slice a' len len)∧gH w' a' len xs∧WrBo w' a' len∧(∀g o,0<len→a'=some ⟨g,o,none⟩→w.heap.size≤g)∧Below w.heap.size w w':=by
 obtain⟨C,hC,hmk⟩:=mkBo len hl
 go_enter Tryz.func71,Tryz.ntmps71
 go_wp2
 go_loopw [4] (fun i wr=>∃k:Nat,k≤len∧i= .int .i64 k∧eP wr w.heap.size len∧(∀(i:Nat) (x:Bool),i<k→xs[i]? =some x→wr.cell? ⟨w.heap.size,i,none⟩=some (.bool x))∧Below w.heap.size w wr) (fun i _=>len - (intOf i).toNat)
 case atStart=>exact⟨0,Nat.zero_le _,rfl,⟨C,by show(w.heap.push _)[w.heap.size]? =_;simp,hC⟩,fun i x hi=>absurd hi (by omega),ai _ _⟩
 case round=>
  obtain⟨k,hk,rfl,hB,hF,hbw⟩:=hrel
  by_cases hlt:k<len
  ·obtain⟨hxl,hml,hx⟩:=h
   obtain⟨g,o,rfl,hr⟩:=hx.resolve_left (by omega)
   obtain⟨x,hxk⟩:∃x,xs[k]? =some x:=⟨_,List.getElem?_eq_getElem (by omega)⟩
   have hg:g<w.heap.size:=hr.lt (by omega)
   have hX:=ab hxk
   have HF:=ab hF
   have HB:=ab hB
   have c0:=(hbw.cell (p:=⟨g,o+k,none⟩) hg).trans (hr k _ hxk)
   obtain⟨u,d0⟩:=hB.cell hlt
   have f0:=hB.frozen (i:=k)
   have hz:=hB.lt
   have hltI:(k:Int)<(len:Int):=by omega
   clear hx hxk hr hF
   go_wp2
   go_roundw
   case rel=>
    refine⟨k+1,by omega,by go_num,(aa HB).set _,fun i y hi hy=>?_,hbw.setCell (Nat.le_refl _) _⟩
    by_cases he:i=k
    ·subst he
     rw[aa hX]at hy
     cases hy
     exact Bo_this (aa HB) hlt
    ·rw[am (by omega)]
     exact aa HF i y (by omega) hy
   case measure=>simp[intOf];omega
  ·go_wp2
   go_ret
   refine⟨_,rfl,⟨h.1,h.2.1,Or.inr ⟨_,0,rfl,fun i x hx=>?_⟩⟩,Or.inr ⟨_,rfl,hB⟩,fun g o _ e=>by simp at e;omega,hbw⟩
   have hi:i<xs.length:=(List.getElem?_eq_some_iff.1 hx).1
   rw[Nat.zero_add]
   exact hF i x (by have:=h.1;omega) hx
set_option maxRecDepth 20000 in
set_option maxHeartbeats 1000000 in
theorem eqBo_any(a1 a2:Option Addr)(len cap1 cap2:Nat)(xs:List Bool)(w:World)(h1:gH w a1 len xs)(h2:gH w a2 len xs):Calls Tryz.prog 85 #[.slice a1 len cap1,.slice a2 len cap2] w fun e w'=>e= .returned (.bool true)∧Below w.heap.size w w':=by
 have hm:=h1.2.1
 unfold maxLen at hm
 go_enter Tryz.func85,Tryz.ntmps85
 go_wp2
 go_loopw [5] (fun i wr=>∃k:Nat,k≤len∧i= .int .i64 k∧Below w.heap.size w wr) (fun i _=>len - (intOf i).toNat)
 case atStart=>exact⟨0,Nat.zero_le _,rfl,Below.refl _ _⟩
 case round=>
  obtain⟨k,hk,rfl,hbw⟩:=hrel
  by_cases hlt:k<len
  ·obtain⟨hl1,_,hx1⟩:=h1
   obtain⟨hl2,_,hx2⟩:=h2
   obtain⟨g1,o1,rfl,hr1⟩:=hx1.resolve_left (by omega)
   obtain⟨g2,o2,rfl,hr2⟩:=hx2.resolve_left (by omega)
   obtain⟨x,hxk⟩:∃x,xs[k]? =some x:=⟨_,List.getElem?_eq_getElem (by omega)⟩
   have c0:=(hbw.cell (p:=⟨g1,o1+k,none⟩) (hr1.lt (by omega))).trans (hr1 k _ hxk)
   have d0:=(hbw.cell (p:=⟨g2,o2+k,none⟩) (hr2.lt (by omega))).trans (hr2 k _ hxk)
   have hltI:(k:Int)<(len:Int):=by omega
   clear hx1 hx2 hxk hr1 hr2
   go_wp2_with fail
   go_quiet (fail)
   go_wp2
   go_roundw
   case rel=>exact⟨k+1,by omega,by go_num,(ak)⟩
   case measure=>simp[intOf];omega
  ·go_wp2
   go_ret
   exact⟨rfl,hbw⟩
theorem jE{p:Prop}(h:p:=by simp[results,Tryz.results96,go_sem]):p:=h
theorem jF{p:Prop}(h:p:=by with_reducible assumption):p:=h
theorem jG{p:Prop}(h:p:=by simp;try omega):p:=h
theorem jH{p:Prop}(h:p:=by simp<;>omega):p:=h
theorem jI{p:Prop}(h:p:=by simp[go_sem]):p:=h
theorem jJ{p:Prop}(h:p:=by simp;omega):p:=h
theorem jK{p:Prop}(h:p:=by kernel_rfl):p:=h
end Go.Proofs.YtealpjmannopeaaGreat
