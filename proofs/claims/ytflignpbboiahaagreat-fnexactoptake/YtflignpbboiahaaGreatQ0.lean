/- Laid together: what the claim needs of the texts that were built one by one. -/
import Derived.Below
import Derived.BigQuiet
import Derived.Carry
import Derived.ChangeOld
import Derived.Deep.Fields
import Derived.Deep.QuietTactic
import Derived.Deep.RegionHeld3
import Derived.DeepKeys4
import Derived.Lib.SmallJoins
import Derived.LoopIn
import Derived.LoopNIn
import Derived.MapViews
import Derived.Maps.Own
import Derived.Maps.OwnSet
import Derived.Maps.Views
import Derived.OpenShut
import Derived.OwnWalkIn
import Derived.ProofKit
import Derived.RangeFuncBound
import Derived.RangeFuncBox
import Derived.RangeFuncCalls
import Derived.RangeFuncLeaves
import Derived.RangeFuncNested
import Derived.Shelf.Abstract
import Derived.Shelf.RegionOpen
import Derived.ShutString
import Derived.Sort.Grow
import Derived.Sort.MapsRangeIn
import Derived.Sort.OwnSorted
import Derived.Stop.RegionWithIn
import Derived.TacticsInMore
import Derived.Test.YtflignpbboiahaaGreatRows
import Derived.Test.YtflignpbboiahaaGreatShelf
import Derived.WalkKit
set_option linter.unusedVariables false
namespace Go.Proofs.YtflignpbboiahaaGreat
/- Short names for library rows. -/
theorem tA {α : Type _} {l : List α} {i : Nat} {a : α} : l.toArray.setIfInBounds i a = (l.set i a).toArray := List.setIfInBounds_toArray l i a
theorem tZ {α : Type _} {x a : α} {l : List α} : (x :: l).set 0 a = a :: l := rfl
theorem tS {α : Type _} {x a : α} {l : List α} {i : Nat} : (x :: l).set (i + 1) a = x :: l.set i a := rfl
theorem gA {α : Type _} {l : List α} {i : Nat} : l.toArray[i]? = l[i]? := List.getElem?_toArray
theorem gZ {α : Type _} {x : α} {l : List α} : (x :: l)[0]? = some x := rfl
theorem gS {α : Type _} {x : α} {l : List α} {i : Nat} : (x :: l)[i + 1]? = l[i]? := rfl
open Go.ChangeShapes Go.WideShapes Go.ChangeAt Go.RowKit
theorem kT {P : Program} {ops : Array Oper} {Q : Exit → Act → World → Prop} {md : Region.Mode} {S : World → Prop} (i : Nat) {oi : Oper} {fuel : Nat} {listed : Array Bool} {a : Act} {w : World} (v : Value) (y : ∀ w, S w → (execOp a.eval oi).run P w = .ok (.value v) w) (h : wpAnyH P md ops Q S fuel (listed.setIfInBounds i true) (a.put oi.dst v) w) (h1 : ops[i]? = some oi := by simp only [gA, gZ, gS]; rfl) (h2 : Region.noSelect ops = true := by kernel_rfl) (h3 : Region.free md ops listed i = true := by kernel_rfl) (h4 : (Region.ready md ops listed).contains i = true := by kernel_rfl) (h5 : ∀ c a w, Q (.panic c) (a.put oi.dst v) w → Q (.panic c) a w := by intro _ _ _ h; exact h) (h6 : Region.wanted oi (yielded ops a.tmps) = true := by rfl) (h7 : S w := by assumption) : wpAnyH P md ops Q S (fuel + 1) listed a w := wpAnyH_take h1 h2 h3 h4 h5 (Or.inl ⟨h6, y⟩) h7 h
theorem kU {P : Program} {ops : Array Oper} {Q : Exit → Act → World → Prop} {md : Region.Mode} {S : World → Prop} (i : Nat) {oi : Oper} {fuel : Nat} {listed : Array Bool} {a : Act} {w : World} (h : wpAnyH P md ops Q S fuel (listed.setIfInBounds i true) (a.put oi.dst undef) w) (h1 : ops[i]? = some oi := by simp only [gA, gZ, gS]; rfl) (h2 : Region.noSelect ops = true := by kernel_rfl) (h3 : Region.free md ops listed i = true := by kernel_rfl) (h4 : (Region.ready md ops listed).contains i = true := by kernel_rfl) (h5 : ∀ c a w, Q (.panic c) (a.put oi.dst undef) w → Q (.panic c) a w := by intro _ _ _ h; exact h) (h6 : Region.wanted oi (yielded ops a.tmps) = false := by rfl) (h7 : S w := by assumption) : wpAnyH P md ops Q S (fuel + 1) listed a w := wpAnyH_take (v := undef) h1 h2 h3 h4 h5 (Or.inr ⟨h6, rfl⟩) h7 h
theorem cA {w : World} {g : Nat} {cs : Array Value} {t : TypeId} {fr : Nat × Nat} (h : w.heap[g]? = some (.cells cs t fr)) (i : Nat) : w.cell? ⟨g, i, none⟩ = cs[i]? := Joins.cell_of_block h i
theorem cF {w : World} {g : Nat} {cs : Array Value} {t : TypeId} (h : w.heap[g]? = some (.cells cs t (0, 0))) (i : Nat) : w.frozen? ⟨g, i, none⟩ = false := Joins.unfrozen_of_block h i
theorem zB {B : Nat} {w w' : World} (hb : Below B w w') {n : Nat} (h : w.heap.size ≤ w'.heap.size → n < w'.heap.size := by intro h9; (try simp at h9); omega) : n < w'.heap.size := h hb.size
theorem sN {w : World} {p : Addr} {u : Value} {b : Nat} {x : Option Obj} (h : w.heap[b]? = x) (hn : b ≠ p.block := by (try dsimp only); omega) : (w.setCell p u).heap[b]? = x := (Below.heap_setCell _ _ _ _ hn).trans h
theorem kV {P : Program} {ops : Array Oper} {Q : Exit → Act → World → Prop} {md : Region.Mode} {S : World → Prop} (i : Nat) {oi : Oper} {fuel : Nat} {listed : Array Bool} {a a' : Act} {w : World} {v : Value} (h : wpAnyH P md ops Q S fuel (listed.setIfInBounds i true) a' w) (h1 : ops[i]? = some oi := by simp only [gA, gZ, gS]; rfl) (h2 : Region.noSelect ops = true := by kernel_rfl) (h3 : Region.free md ops listed i = true := by kernel_rfl) (h4 : (Region.ready md ops listed).contains i = true := by kernel_rfl) (y : ∀ w, S w → (execOp a.eval oi).run P w = .ok (.value v) w := by intro w9 hSw; (try dsimp only at hSw); go_simp <;> with_reducible rfl) (h5 : ∀ c a w, Q (.panic c) (a.put oi.dst v) w → Q (.panic c) a w := by intro _ _ _ h; exact h) (h6 : Region.wanted oi (yielded ops a.tmps) = true := by rfl) (h7 : S w := by assumption) (ha : a.put oi.dst v = a' := by (try simp only [Act.put, tA, tZ, tS]); rfl) : wpAnyH P md ops Q S (fuel + 1) listed a w := by subst ha; exact kT i v y h h1 h2 h3 h4 h5 h6 h7
theorem rD {P : Program} {ops : Array Oper} {Q : Exit → Act → World → Prop} {md : Region.Mode} {S : World → Prop} (i : Nat) {o : Oper} {fuel : Nat} {listed : Array Bool} {a : Act} {w : World} (h : ∀ K' : Act → World → Prop, Go.Shut (∀ a w, S w → (S w → wpAnyH P md ops Q S fuel (listed.setIfInBounds i true) a w) → K' a w) → if Region.wanted o (yielded ops a.tmps) = true then Oper.wp P o a w K' Q else K' (a.put o.dst undef) w) (ho : ops[i]? = some o := by simp only [gA, gZ, gS]; rfl) (hr : Region.ready md ops listed = [i] := by kernel_rfl) : wpAnyH P md ops Q S (fuel + 1) listed a w := wpAnyH_ready hr (by simp) (AllReadyH.cons ho h AllReadyH.nil)
theorem nA {w : World} {o : Obj} {b : Nat} (h : w.heap.size = b := by first | rfl | (simp; done)) : (w.alloc o).heap[b]? = some o := by subst h; exact World.alloc_heap_new w o
theorem aN {w : World} {o : Obj} {b : Nat} {x : Option Obj} (h : w.heap[b]? = x) (hb : b < w.heap.size := by first | (simp; done) | (simp; omega)) : (w.alloc o).heap[b]? = x := (Below.heap_alloc _ _ _ hb).trans h
theorem zA {B : Nat} {w w' : World} (hb : Below B w w') (n : Nat) (h : w.heap.size ≤ w'.heap.size → n < w'.heap.size := by intro h9; (try simp at h9); omega) : n < w'.heap.size := h hb.size
theorem belA {B : Nat} {w W : World} (h : Below B w W := by repeat (first | (with_reducible exact Below.refl _ _) | (with_reducible assumption) | (with_reducible refine bel_set ?_ (by first | (simp; done) | (simp; omega)) _) | (with_reducible refine bel_alloc ?_ _) | (with_reducible refine bel_drew ?_) | (with_reducible refine bel_drewN ?_ _) | (with_reducible refine bel_trans ?_ (by with_reducible assumption)))) : Below B w W := h
theorem belB {B : Nat} {w W : World} (h : Below B w W := by repeat (first | (with_reducible refine bel_set ?_ (by first | (simp; done) | (simp; omega)) _) | (with_reducible refine bel_alloc ?_ _) | (with_reducible exact Below.refl _ _) | (with_reducible assumption) | (with_reducible refine bel_drew ?_) | (with_reducible refine bel_drewN ?_ _) | (with_reducible refine bel_trans ?_ (by with_reducible assumption)))) : Below B w W := h
theorem belC {B : Nat} {w W : World} (h : Below B w W := by repeat (first | exact Below.refl _ _ | exact bel_one _ _ | assumption | refine bel_alloc ?_ _ | refine bel_set ?_ (by first | (simp; done) | (simp; omega)) _ | refine bel_drew ?_ | refine bel_drewN ?_ _ | refine bel_trans ?_ (by assumption))) : Below B w W := h
theorem sA {p : Prop} (h : p := by first | (simp; done) | (simp; omega)) : p := h
theorem sB {p : Prop} (h : p := by first | omega | (simp; done) | (simp; omega)) : p := h
theorem sC {p : Prop} (h : p := by first | (simp; done) | (simp; omega) | omega) : p := h
end Go.Proofs.YtflignpbboiahaaGreat
namespace Go.Proofs.YtflignpbboiahaaGreat
open Go.ChangeShapes Go.WideShapes Go.ChangeAt Go.RowKit Go.Deep
theorem bnd64 {z : Int} (h : (Lit.int .i64 z).wf = true) : -9223372036854775808 ≤ z ∧ z ≤ 9223372036854775807 := by
 have := bounds_i64 h; omega
theorem bel_trans {w w1 w2 : World} (h : Below w.heap.size w w1) (k : Below w1.heap.size w1 w2) : Below w.heap.size w w2 := h.trans (k.mono h.size)
theorem bel_alloc {w w1 : World} (h : Below w.heap.size w w1) (o : Obj) : Below w.heap.size w (w1.alloc o) := h.alloc h.size o
theorem bel_drew {w w1 : World} (h : Below w.heap.size w w1) : Below w.heap.size w w1.drew := h.drew
theorem bel_drewN {w w1 : World} (h : Below w.heap.size w w1) (n : Nat) : Below w.heap.size w (w1.drewN n) := h.trans ⟨rfl, rfl, rfl, Nat.le_refl _, fun _ _ => rfl⟩
theorem bel_set {w w1 : World} {p : Addr} (h : Below w.heap.size w w1) (hp : w.heap.size ≤ p.block) (u : Value) : Below w.heap.size w (w1.setCell p u) := h.setCell hp u
theorem bel_re (W : World) (o o' : Obj) : Below W.heap.size (W.alloc o) (W.alloc o') := ⟨rfl, rfl, rfl, by simp, fun k hk => by rw [Below.heap_alloc _ _ _ hk, Below.heap_alloc _ _ _ hk]⟩
theorem cell_set_ne {W : World} {p : Addr} {u : Value} {b o : Nat} (h : p.block ≠ b) : (W.setCell p u).cell? ⟨b, o, none⟩ = W.cell? ⟨b, o, none⟩ := World.cell?_of_block (w := W) (Below.heap_setCell _ _ _ _ (fun e => h e.symm))
theorem bel_one (w : World) (o : Obj) : Below w.heap.size w (w.alloc o) := bel_alloc (Below.refl _ _) o
theorem bcell {W w1 : World} (hb : Below W.heap.size W w1) : (∀ b o, b < W.heap.size → w1.cell? ⟨b, o, none⟩ = W.cell? ⟨b, o, none⟩) ∧ (∀ b o, b < W.heap.size → w1.frozen? ⟨b, o, none⟩ = W.frozen? ⟨b, o, none⟩) ∧ (∀ b, b < W.heap.size → b < w1.heap.size) :=
 ⟨fun b o h => hb.cell (p := ⟨b, o, none⟩) h, fun b o h => hb.frozen (p := ⟨b, o, none⟩) h, fun b h => Nat.lt_of_lt_of_le h hb.size⟩
theorem hide {p : Prop} (h : p) : Hid p := h
theorem unhide {p : Prop} (h : Hid p) : p := h
theorem ret_i {a b : Int} (h : a = b) : Ending.returned (.int .i64 a) = .returned (.int .i64 b) := by rw [h]
theorem ret_b {a b : Bool} (h : a = b) : Ending.returned (.bool a) = .returned (.bool b) := by rw [h]
/-- The lesser and the greater of two. -/
def loI (a c : Int) : Int := if c < a then c else a
def hiI (b d : Int) : Int := if b < d then d else b
theorem loI_a {a c : Int} (h : ¬ c < a) : loI a c = a := if_neg h
theorem loI_c {a c : Int} (h : c < a) : loI a c = c := if_pos h
theorem hiI_b {b d : Int} (h : ¬ b < d) : hiI b d = b := if_neg h
theorem hiI_d {b d : Int} (h : b < d) : hiI b d = d := if_pos h
/-- Whether a number is from least to most. -/
def inB (n a b : Int) : Bool := decide (a ≤ n ∧ n ≤ b)
theorem inB_tt {n a b : Int} (h1 : a ≤ n) (h2 : n ≤ b) : inB n a b = true := decide_eq_true ⟨h1, h2⟩
theorem inB_ff {n a b : Int} (h : n < a ∨ b < n) : inB n a b = false := decide_eq_false (by omega)
theorem inB_iff {n a b : Int} : inB n a b = true ↔ a ≤ n ∧ n ≤ b := by simp [inB]
/-- The cells of a list of fields, from a place on: false for an int, true for a bool. -/
def flatFs (P : Program) (rec : TypeId → Option (List Bool)) : List Field → Nat → Option (List Bool)
 | [], _ => some []
 | f :: r, off => match rec f.type with
  | some ks => if f.offset = off ∧ P.cellsOf f.type = ks.length then
    match flatFs P rec r (off + ks.length) with
    | some rest => some (ks ++ rest)
    | none => none
   else none
  | none => none
def flatK (P : Program) : Nat → TypeId → Option (List Bool)
 | 0, _ => none
 | n + 1, t => match P.underlying t with
  | some (.int .i64) => some [false]
  | some .bool => some [true]
  | some (.struct fs) => match flatFs P (flatK P n) fs.toList 0 with
   | some ks => if P.cellsOf t = ks.length then some ks else none
   | none => none
  | _ => none
/-- Cells that are ints and bools, as asked. -/
def Fits : List Value → List Bool → Prop
 | [], [] => True
 | v :: vs, b :: bs => (if b = true then ∃ x, v = .bool x else ∃ z, v = .int .i64 z ∧ (Lit.int .i64 z).wf = true) ∧ Fits vs bs
 | _, _ => False
theorem Fits.app {vs us : List Value} {bs cs : List Bool} (h : Fits vs bs) (k : Fits us cs) : Fits (vs ++ us) (bs ++ cs) := by
 induction vs generalizing bs with
 | nil => cases bs with
  | nil => exact k
  | cons b bs => exact h.elim
 | cons v vs ih => cases bs with
  | nil => exact h.elim
  | cons b bs => exact ⟨h.1, ih h.2⟩
theorem fits_int {cs : List Value} {bs : List Bool} (h : Fits cs (false :: bs)) : ∃ z r, cs = .int .i64 z :: r ∧ (Lit.int .i64 z).wf = true ∧ Fits r bs := by
 cases cs with
 | nil => exact h.elim
 | cons v vs =>
  obtain ⟨h1, h2⟩ := h
  obtain ⟨z, rfl, hz⟩ : ∃ z, v = .int .i64 z ∧ (Lit.int .i64 z).wf = true := by simpa using h1
  exact ⟨z, vs, rfl, hz, h2⟩
theorem fits_bool {cs : List Value} {bs : List Bool} (h : Fits cs (true :: bs)) : ∃ z r, cs = .bool z :: r ∧ Fits r bs := by
 cases cs with
 | nil => exact h.elim
 | cons v vs =>
  obtain ⟨h1, h2⟩ := h
  obtain ⟨z, rfl⟩ : ∃ z, v = .bool z := by simpa using h1
  exact ⟨z, vs, rfl, h2⟩
theorem fits_nil {cs : List Value} (h : Fits cs []) : cs = [] := by
 cases cs with
 | nil => rfl
 | cons v vs => exact h.elim
section
variable {H : Type} {enc : TypeId × Value → H} {P : Program} {w : World} {base : Nat} {spare : Nat → Bool} {held : Bool}
theorem fits_fs {rec : TypeId → Option (List Bool)} {cs : List Value} (l : List Field) (off : Nat) (ks : List Bool)
  (hr : ∀ f ∈ l, ∀ k, rec f.type = some k → Fits ((cs.drop f.offset).take (P.cellsOf f.type)) k)
  (h : flatFs P rec l off = some ks) : Fits ((cs.drop off).take ks.length) ks := by
 induction l generalizing off ks with
 | nil => simp only [flatFs, Option.some.injEq] at h; subst h; simp [Fits]
 | cons f r ih =>
  simp only [flatFs] at h
  split at h
  ·rename_i k hk
   split at h
   ·rename_i hc
    split at h
    ·rename_i rest hrest
     simp only [Option.some.injEq] at h
     subst h
     have h1 := hr f (by simp) k hk
     rw [hc.1, hc.2] at h1
     have h2 := ih (off + k.length) rest (fun g hg => hr g (by simp [hg])) hrest
     have e : (cs.drop off).take (k ++ rest).length = (cs.drop off).take k.length ++ (cs.drop (off + k.length)).take rest.length := by
      rw [List.length_append, List.take_add, List.drop_drop]
     rw [e]
     exact h1.app h2
    ·cases h
   ·cases h
  ·cases h
theorem fits_trod (n : Nat) : ∀ {t : TypeId} {fuel : Nat} {cs : List Value} {x : DataW H × List MemPlace} {ks : List Bool},
  flatK P n t = some ks → DataW.trod enc P w base spare held fuel t cs = some x → Fits cs ks := by
 induction n with
 | zero => intro t fuel cs x ks h; cases h
 | succ n ih =>
  intro t fuel cs x ks h ht
  simp only [flatK] at h
  split at h
  ·rename_i hu
   simp only [Option.some.injEq] at h
   subst h
   obtain ⟨z, rfl, _, hz⟩ := DataW.trod_int hu ht
   exact ⟨by simpa using hz, trivial⟩
  ·rename_i hu
   simp only [Option.some.injEq] at h
   subst h
   obtain ⟨z, rfl, _⟩ := DataW.trod_bool hu ht
   exact ⟨by simp, trivial⟩
  ·rename_i fs hu
   split at h
   ·rename_i ks' hk
    split at h
    ·rename_i hc
     simp only [Option.some.injEq] at h
     subst h
     obtain ⟨xs, m, _, _, hl, hlen, hf⟩ := DataW.trod_struct hu ht
     have := fits_fs (P := P) (cs := cs) fs.toList 0 _ (fun f hf' k hk' => by
      obtain ⟨i, hi, hfi⟩ := List.getElem_of_mem hf'
      have hfi' : fs[i]? = some f := by rw [← hfi]; simp [Array.getElem?_eq_getElem (by simpa using hi)]
      have h5 := hf i f hfi'
      rw [List.getElem?_eq_getElem (by rw [hlen]; simpa using hi)] at h5
      exact ih hk' h5) hk
     rw [List.drop_zero, List.take_of_length_le (by omega)] at this
     exact this
    ·cases h
   ·cases h
  ·cases h
theorem open_flat {r : Reach} {b0 : Nat} {t : TypeId} {fs : Array Field} {v : Value} {d : DataW H} {p : List MemPlace} {ks : List Bool}
  (n : Nat) (hs : P.underlying t = some (.struct fs)) (hk : flatK P n t = some ks)
  (hv : Value.okWide P w r b0 t v) (h : DataW.Trod enc P w base spare held t v d p) : ∃ cs, v = .agg cs.toArray ∧ Fits cs ks := by
 obtain ⟨cs, rfl, hsz⟩ := okWide_struct hs hv
 obtain ⟨fuel, hf⟩ := h
 refine ⟨cs.toList, by simp, ?_⟩
 have := fits_trod n hk hf
 simpa [Value.cells] using this
end
section
variable {H : Type} {enc : TypeId × Value → H} {P : Program} {w : World} {base : Nat} {spare : Nat → Bool} {held : Bool}
theorem slice_shape {t e : TypeId} {fuel : Nat} {cs : List Value} {x : DataW H × List MemPlace} (ht : P.underlying t = some (.slice e)) (h : DataW.trod enc P w base spare held fuel t cs = some x) : ∃ a len cap, cs = [.slice a len cap] := by
 rcases open_slice ht h with ⟨hcs, _⟩ | ⟨a', len', cap', m, n, D, Pl, hcs, _⟩
 ·exact ⟨_, _, _, hcs⟩
 ·exact ⟨_, _, _, hcs⟩
theorem open_st {r : Reach} {b0 : Nat} {t t1 e : TypeId} {fs : Array Field} {v : Value} {d : DataW H} {p : List MemPlace}
  (hs : P.underlying t = some (.struct fs)) (hC : P.cellsOf t = 2)
  (h0 : (fs[0]?).map (fun f => (f.offset, P.underlying f.type, P.cellsOf f.type)) = some (0, some (.int .i64), 1))
  (h1 : (fs[1]?).map (fun f => (f.offset, f.type, P.cellsOf f.type)) = some (1, t1, 1))
  (ht : P.underlying t1 = some (.slice e))
  (hv : Value.okWide P w r b0 t v) (h : DataW.Trod enc P w base spare held t v d p) :
  ∃ m a len cap d' p', v = .agg #[.int .i64 m, .slice a len cap] ∧ (Lit.int .i64 m).wf = true ∧ DataW.Trod enc P w base spare held t1 (.slice a len cap) d' p' := by
 obtain ⟨cs, rfl, hsz⟩ := okWide_struct hs hv
 obtain ⟨fuel, hf⟩ := h
 obtain ⟨xs, n, _, _, hl, hlen, hfs⟩ := DataW.trod_struct hs hf
 rw [hC] at hsz
 obtain ⟨f0, hf0, e0⟩ := Option.map_eq_some_iff.1 h0
 obtain ⟨f1, hf1, e1⟩ := Option.map_eq_some_iff.1 h1
 simp only [Prod.mk.injEq] at e0 e1
 have l0 : 0 < fs.size := (Array.getElem?_eq_some_iff.1 hf0).1
 have l1 : 1 < fs.size := (Array.getElem?_eq_some_iff.1 hf1).1
 have r0 := hfs 0 f0 hf0
 have r1 := hfs 1 f1 hf1
 rw [e0.1, e0.2.2, List.getElem?_eq_getElem (by omega)] at r0
 rw [e1.1, e1.2.2, e1.2.1, List.getElem?_eq_getElem (by omega)] at r1
 obtain ⟨z, hz, _, hw⟩ := DataW.trod_int e0.2.1 r0
 obtain ⟨a, len, cap, hc⟩ := slice_shape ht r1
 rw [hc] at r1
 have hcl : (Value.agg cs).cells = cs := by simp [Value.cells]
 rw [hcl] at hz hc
 have hcs : cs = #[.int .i64 z, .slice a len cap] := by
  obtain ⟨l⟩ := cs
  match l, hsz with
  | [u, v'], _ =>
   simp at hz hc
   rw [hz, hc]
 exact ⟨z, a, len, cap, _, _, by rw [hcs], hw, n, r1⟩
end
end Go.Proofs.YtflignpbboiahaaGreat
namespace Go.Proofs.YtflignpbboiahaaGreat
open Go.ChangeShapes Go.WideShapes Go.ChangeAt Go.RowKit Go.Maps
section
variable {κ : Type} {P : Program} {k : TypeId} {R : Value → Option (DataW Unit × List MemPlace)} {zd : DataW Unit} {b n : Nat} {kv : κ → Value} {ok : κ → Prop} {f : κ → DataW Unit} {w : World}
/-- Block b is a map that holds, at each key that is ok, what f says. -/
def OwnsFn (w : World) (P : Program) (k : TypeId) (R : Value → Option (DataW Unit × List MemPlace)) (zd : DataW Unit) (b n : Nat) (kv : κ → Value) (ok : κ → Prop) (f : κ → DataW Unit) : Prop :=
 ∃ D, w.ownsMap P k R b n D ∧ ∀ q, ok q → ∀ kl, keyOf P k (kv q) = some kl → D.atKey kl zd = f q
theorem OwnsFn.made (w : World) (P : Program) (k : TypeId) (R : Value → Option (DataW Unit × List MemPlace)) (zd : DataW Unit) (kv : κ → Value) (ok : κ → Prop) : OwnsFn (w.alloc (.map #[] 0)) P k R zd w.heap.size 0 kv ok (fun _ => zd) :=
 ⟨_, World.ownsMap_made w P k R, fun _ _ _ _ => rfl⟩
theorem OwnsFn.lt (h : OwnsFn w P k R zd b n kv ok f) : b < w.heap.size := by
 obtain ⟨D, h, _⟩ := h
 exact h.lt
theorem OwnsFn.below {w' : World} (h : OwnsFn w P k R zd b n kv ok f) (hb : Below w.heap.size w w') : OwnsFn w' P k R zd b n kv ok f := by
 obtain ⟨D, h, hf⟩ := h
 exact ⟨D, h.kept ⟨hb.os, hb.tape, hb.output, hb.size, fun k hk _ => hb.block k hk⟩ (row := none) (by simp), hf⟩
theorem OwnsFn.grown {w' : World} {row : Option Nat} (h : OwnsFn w P k R zd b n kv ok f) (hg : w.grownBy w' row) (hne : some b ≠ row) : OwnsFn w' P k R zd b n kv ok f := by
 obtain ⟨D, h, hf⟩ := h
 exact ⟨D, h.kept hg hne, hf⟩
theorem OwnsFn.drew (h : OwnsFn w P k R zd b n kv ok f) : OwnsFn w.drew P k R zd b n kv ok f := h
theorem OwnsFn.look {t e : TypeId} (h : OwnsFn w P k R zd b n kv ok f) (K : Keyed P k) (ht : P.underlying t = some (.map k e)) {z : Value} (hz : (zeroValue e).run P w = .ok z w) {zp : List MemPlace} (hzd : R z = some (zd, zp)) (hk : ∀ q, ok q → ∃ kl, keyOf P k (kv q) = some kl) (q : κ) (hq : ok q) :
  ∃ v ps, (Instr.lookup t (.map (some b)) (kv q) false).run P w = .ok v w ∧ R v = some (f q, ps) := by
 obtain ⟨D, h, hf⟩ := h
 obtain ⟨kl, hkl⟩ := hk q hq
 obtain ⟨v, ps, h1, h2⟩ := h.lookup K ht hz hzd hkl
 exact ⟨v, ps, h1, by rw [h2, hf q hq kl hkl]⟩
theorem OwnsFn.store [DecidableEq κ] {t e : TypeId} (h : OwnsFn w P k R zd b n kv ok f) (K : Keyed P k) (ht : P.underlying t = some (.map k e)) (hn : n < maxLen) (hk : ∀ q, ok q → ∃ kl, keyOf P k (kv q) = some kl) (hinj : ∀ q q', kv q = kv q' → q = q') (q : κ) (hq : ok q) {val : Value} {d : DataW Unit} {ps : List MemPlace} (hv : R val = some (d, ps)) :
  ∃ w', (Instr.mapUpdate t (.map (some b)) (kv q) val).run P w = .ok () w' ∧ OwnsFn w' P k R zd b (n + 1) kv ok (fun x => if x = q then d else f x) ∧ w.grownBy w' (some b) := by
 obtain ⟨D, h, hf⟩ := h
 obtain ⟨kl, hkl⟩ := hk q hq
 obtain ⟨w', h1, h2, h3⟩ := h.update K ht hn hkl hv
 refine ⟨w', h1, ⟨_, h2, fun x hx kx hkx => ?_⟩, h3⟩
 show _ = if x = q then d else f x
 by_cases e : x = q
 ·subst e
  rw [hkl] at hkx
  cases hkx
  rw [if_pos rfl, atKey_put_same h.isMap (K.key hkl)]
 ·rw [if_neg e]
  have hne : kx ≠ kl := fun e' => e (hinj _ _ (K.inj (by rw [← e']; exact hkx) hkl))
  rw [atKey_put_other hne]
  exact hf x hx kx hkx
end
section
variable {κ V : Type} {P : Program} {k : TypeId} {R : Value → Option (DataW Value × List MemPlace)} {b n : Nat} {kv : κ → Value} {ok : κ → Prop} {dv : V → DataW Value} {m : κ → Option V} {w : World}
/-- A map's datum tells, at each key that is ok, what m says: a value, or nothing. -/
def OpD (P : Program) (k : TypeId) (kv : κ → Value) (ok : κ → Prop) (dv : V → DataW Value) (D : DataW Value) (m : κ → Option V) : Prop :=
 ∀ q, ok q → ∀ kl, keyOf P k (kv q) = some kl → (∀ a, m q = some a → ∀ zd, D.atKey kl zd = dv a) ∧ (m q = none → has D kl = false)
/-- Block b is a map of at most n entries that tells what m says. -/
def OwnsOp (w : World) (P : Program) (k : TypeId) (R : Value → Option (DataW Value × List MemPlace)) (b n : Nat) (kv : κ → Value) (ok : κ → Prop) (dv : V → DataW Value) (m : κ → Option V) : Prop :=
 ∃ D, w.ownsMap P k R b n D ∧ OpD P k kv ok dv D m
theorem OwnsOp.made (w : World) (P : Program) (k : TypeId) (R : Value → Option (DataW Value × List MemPlace)) (kv : κ → Value) (ok : κ → Prop) (dv : V → DataW Value) : OwnsOp (w.alloc (.map #[] 0)) P k R w.heap.size 0 kv ok dv (fun _ => none) :=
 ⟨_, World.ownsMap_made w P k R, fun _ _ _ _ => ⟨fun _ h => (by cases h), fun _ => rfl⟩⟩
theorem OwnsOp.lt (h : OwnsOp w P k R b n kv ok dv m) : b < w.heap.size := by
 obtain ⟨D, h, _⟩ := h
 exact h.lt
theorem OwnsOp.below {w' : World} (h : OwnsOp w P k R b n kv ok dv m) (hb : Below w.heap.size w w') : OwnsOp w' P k R b n kv ok dv m := by
 obtain ⟨D, h, hf⟩ := h
 exact ⟨D, h.kept ⟨hb.os, hb.tape, hb.output, hb.size, fun k hk _ => hb.block k hk⟩ (row := none) (by simp), hf⟩
theorem OwnsOp.grown {w' : World} {row : Option Nat} (h : OwnsOp w P k R b n kv ok dv m) (hg : w.grownBy w' row) (hne : some b ≠ row) : OwnsOp w' P k R b n kv ok dv m := by
 obtain ⟨D, h, hf⟩ := h
 exact ⟨D, h.kept hg hne, hf⟩
theorem OwnsOp.drew (h : OwnsOp w P k R b n kv ok dv m) : OwnsOp w.drew P k R b n kv ok dv m := h
theorem OwnsOp.more {n2 : Nat} (h : OwnsOp w P k R b n kv ok dv m) (hn : n ≤ n2) : OwnsOp w P k R b n2 kv ok dv m := by
 obtain ⟨D, h, hf⟩ := h
 exact ⟨D, h.mono hn, hf⟩
/-- A map that lies where it lay. -/
theorem OwnsOp.keep {w' : World} (h : OwnsOp w P k R b n kv ok dv m) (hb : w'.heap[b]? = w.heap[b]?) : OwnsOp w' P k R b n kv ok dv m := by
 obtain ⟨D, ⟨es, clock, h1, h2⟩, hf⟩ := h
 exact ⟨D, ⟨es, clock, hb.trans h1, h2⟩, hf⟩
theorem OwnsOp.look {t e : TypeId} (h : OwnsOp w P k R b n kv ok dv m) (K : Keyed P k) (ht : P.underlying t = some (.map k e)) {z : Value} (hz : (zeroValue e).run P w = .ok z w) {zd : DataW Value} {zp : List MemPlace} (hzd : R z = some (zd, zp)) (hk : ∀ q, ok q → ∃ kl, keyOf P k (kv q) = some kl) (q : κ) (hq : ok q) :
  ∃ v ps, (Instr.lookup t (.map (some b)) (kv q) false).run P w = .ok v w ∧ R v = some ((m q).elim zd dv, ps) := by
 obtain ⟨D, h, hf⟩ := h
 obtain ⟨kl, hkl⟩ := hk q hq
 obtain ⟨v, ps, h1, h2⟩ := h.lookup K ht hz hzd hkl
 refine ⟨v, ps, h1, ?_⟩
 rw [h2]
 obtain ⟨f1, f2⟩ := hf q hq kl hkl
 cases hm : m q with
 | none => rw [atKey_of_not_has (f2 hm)]; rfl
 | some a => rw [f1 a hm]; rfl
theorem OwnsOp.store [DecidableEq κ] {t e : TypeId} (h : OwnsOp w P k R b n kv ok dv m) (K : Keyed P k) (ht : P.underlying t = some (.map k e)) (hn : n < maxLen) (hk : ∀ q, ok q → ∃ kl, keyOf P k (kv q) = some kl) (hinj : ∀ q q', kv q = kv q' → q = q') (q : κ) (hq : ok q) {val : Value} (a : V) {ps : List MemPlace} (hv : R val = some (dv a, ps)) :
  ∃ w', (Instr.mapUpdate t (.map (some b)) (kv q) val).run P w = .ok () w' ∧ OwnsOp w' P k R b (n + 1) kv ok dv (fun x => if x = q then some a else m x) ∧ w.grownBy w' (some b) := by
 obtain ⟨D, h, hf⟩ := h
 obtain ⟨kl, hkl⟩ := hk q hq
 obtain ⟨w', h1, h2, h3⟩ := h.update K ht hn hkl hv
 refine ⟨w', h1, ⟨_, h2, fun x hx kx hkx => ?_⟩, h3⟩
 by_cases e : x = q
 ·subst e
  rw [hkl] at hkx
  cases hkx
  simp only [if_true]
  exact ⟨fun a' ha' zd => by cases ha'; exact atKey_put_same h.isMap (K.key hkl) _ _, fun h9 => by cases h9⟩
 ·have hne : kx ≠ kl := fun e' => e (hinj _ _ (K.inj (by rw [← e']; exact hkx) hkl))
  simp only [if_neg e]
  obtain ⟨f1, f2⟩ := hf x hx kx hkx
  exact ⟨fun a' ha' zd => by rw [atKey_put_other hne]; exact f1 a' ha' zd, fun h9 => by rw [has_put_other hne]; exact f2 h9⟩
theorem OwnsOp.drop [DecidableEq κ] {t e : TypeId} (h : OwnsOp w P k R b n kv ok dv m) (K : Keyed P k) (ht : P.underlying t = some (.map k e)) (hk : ∀ q, ok q → ∃ kl, keyOf P k (kv q) = some kl) (hinj : ∀ q q', kv q = kv q' → q = q') (q : κ) (hq : ok q) (ty : TypeId) :
  ∃ w', (Builtin.delete_ #[t, k] ty #[.map (some b), kv q]).run P w = .ok (.tuple #[]) w' ∧ OwnsOp w' P k R b n kv ok dv (fun x => if x = q then none else m x) ∧ w.grownBy w' (some b) := by
 obtain ⟨D, h, hf⟩ := h
 obtain ⟨kl, hkl⟩ := hk q hq
 obtain ⟨w', h1, h2, h3⟩ := h.drop K ht hkl ty
 refine ⟨w', h1, ⟨_, h2, fun x hx kx hkx => ?_⟩, h3.grown⟩
 by_cases e : x = q
 ·subst e
  rw [hkl] at hkx
  cases hkx
  simp only [if_true]
  exact ⟨fun a' ha' => (by cases ha'), fun _ => has_del_same⟩
 ·have hne : kx ≠ kl := fun e' => e (hinj _ _ (K.inj (by rw [← e']; exact hkx) hkl))
  simp only [if_neg e]
  obtain ⟨f1, f2⟩ := hf x hx kx hkx
  exact ⟨fun a' ha' zd => by rw [atKey_del_other hne]; exact f1 a' ha' zd, fun h9 => by rw [has_del_other hne]; exact f2 h9⟩
/-- Keys that have come: no key twice; a key has come just where the map has it and it is no longer to come. -/
def CollO (P : Program) (k : TypeId) (kv : κ → Value) (ok : κ → Prop) (D0 : DataW Value) (left : Lit → Bool) (ss : List κ) : Prop :=
 ss.Nodup ∧ (∀ q ∈ ss, ok q) ∧ ∀ q, ok q → ∀ kl, keyOf P k (kv q) = some kl → (q ∈ ss ↔ (has D0 kl = true ∧ left kl = false))
theorem CollO.start (P : Program) (k : TypeId) (kv : κ → Value) (ok : κ → Prop) (D0 : DataW Value) : CollO P k kv ok D0 (has D0) [] :=
 ⟨List.nodup_nil, fun q h => (by cases h), fun q _ kl _ => by cases has D0 kl <;> simp⟩
theorem CollO.step {D0 : DataW Value} {left : Lit → Bool} {ss : List κ} (h : CollO P k kv ok D0 left ss) (K : Keyed P k) (hinj : ∀ q q', kv q = kv q' → q = q') {x : κ} {kl : Lit} (hx : ok x) (hkl : keyOf P k (kv x) = some kl) {y : DataW Value} (hlk : left kl = true) (hat : ∀ zd, D0.atKey kl zd = y) :
  CollO P k kv ok D0 (fun z => left z && !z.sameKey kl) (ss ++ [x]) := by
 have hhas : has D0 kl = true := has_true_of_atKey hat
 have hnew : x ∉ ss := fun h9 => by have := ((h.2.2 x hx kl hkl).1 h9).2; rw [hlk] at this; cases this
 refine ⟨List.nodup_append.2 ⟨h.1, by simp, fun a ha b hb => by simp at hb; subst hb; exact fun e => hnew (e ▸ ha)⟩, fun q hq => ?_, fun q hq kq hkq => ?_⟩
 ·rcases List.mem_append.1 hq with hq | hq
  ·exact h.2.1 q hq
  ·rw [List.mem_singleton.1 hq]; exact hx
 ·by_cases e : q = x
  ·subst e
   rw [hkl] at hkq
   cases hkq
   simp [hhas, WideAt.sameKey_self (K.key hkl)]
  ·have hne : kq ≠ kl := fun e' => e (hinj _ _ (K.inj (by rw [← e']; exact hkq) hkl))
   have hs : kq.sameKey kl = false := by
    cases h9 : kq.sameKey kl
    ·rfl
    ·exact absurd (WideAt.sameKey_eq h9) hne
   simp [h.2.2 q hq kq hkq, e, hs]
/-- At the end: just the keys at which there is something. -/
theorem CollO.all {D0 : DataW Value} {left : Lit → Bool} {ss : List κ} (h : CollO P k kv ok D0 left ss) (hk : ∀ q, ok q → ∃ kl, keyOf P k (kv q) = some kl) (hD : OpD P k kv ok dv D0 m) (hl : ∀ kl, left kl = false) : ss.Nodup ∧ ∀ q, q ∈ ss ↔ (ok q ∧ m q ≠ none) := by
 refine ⟨h.1, fun q => ⟨fun hq => ?_, fun ⟨hq, hm⟩ => ?_⟩⟩
 ·have hok := h.2.1 q hq
  obtain ⟨kl, hkl⟩ := hk q hok
  refine ⟨hok, fun h9 => ?_⟩
  have h1 := ((h.2.2 q hok kl hkl).1 hq).1
  rw [(hD q hok kl hkl).2 h9] at h1
  cases h1
 ·obtain ⟨kl, hkl⟩ := hk q hq
  refine (h.2.2 q hq kl hkl).2 ⟨?_, hl kl⟩
  cases h9 : m q with
  | none => exact absurd h9 hm
  | some a => exact has_true_of_atKey ((hD q hq kl hkl).1 a h9)
end
end Go.Proofs.YtflignpbboiahaaGreat
namespace Go.Proofs.YtflignpbboiahaaGreat
open Go.ChangeShapes Go.WideShapes Go.ChangeAt Go.RowKit Go.Maps Go.WideMaps
/-- A place as its three numbers. -/
abbrev P3 := Int × Int × Int
def v3 (q : P3) : Value := .agg #[.int .i64 q.1, .int .i64 q.2.1, .int .i64 q.2.2]
def ok3 (q : P3) : Prop := (Lit.int .i64 q.1).wf = true ∧ (Lit.int .i64 q.2.1).wf = true ∧ (Lit.int .i64 q.2.2).wf = true
theorem inj3 (q q' : P3) (h : v3 q = v3 q') : q = q' := by
 obtain ⟨a, b, c⟩ := q
 obtain ⟨a', b', c'⟩ := q'
 simp [v3] at h
 obtain ⟨h1, h2, h3⟩ := h
 subst h1 h2 h3
 rfl
theorem laid3 : laidOutB Tryz.prog = true := by kernel_rfl
theorem law3 : KeyLaw Tryz.prog 98 := deep_law_laid laid3 (m := 3) (by omega) (of_decide_eq_true (by kernel_rfl)) (by kernel_rfl) (by kernel_rfl)
theorem key3 : Keyed Tryz.prog 98 := Keyed.of_law law3
theorem keyOf3 (v : Value) : keyOf Tryz.prog 98 v = (if (Tryz.prog.keyType 98 && v.formed Tryz.prog 98) = true then (Tryz.prog.keyLits (Tryz.prog.types.size + 1) 98 v.cells.toList).map (fun ls => .string (keyBytes ls)) else none) := by
 unfold keyOf
 rw [Tryz.underlying98]
set_option maxRecDepth 100000 in
theorem some3 (q : P3) (h : ok3 q) : ∃ kl, keyOf Tryz.prog 98 (v3 q) = some kl := by
 obtain ⟨h1, h2, h3⟩ := h
 have hN : ∃ m, Tryz.prog.types.size = m + 3 := ⟨Tryz.prog.types.size - 3, by kernel_rfl⟩
 obtain ⟨m, hm⟩ := hN
 have c1 : Tryz.prog.cellsOf 98 = 3 := by kernel_rfl
 have c2 : Tryz.prog.cellsOf 64 = 2 := by kernel_rfl
 have c3 : Tryz.prog.cellsOf 3 = 1 := by kernel_rfl
 have hk : Tryz.prog.keyType 98 = true := by kernel_rfl
 have hf : (v3 q).formed Tryz.prog 98 = true := by
  simp [v3, Value.formed, Tryz.underlying98, c1]
 have hL : Tryz.prog.keyLits (m + 3 + 1) 98 [.int .i64 q.1, .int .i64 q.2.1, .int .i64 q.2.2] = some [.int .i64 q.1, .int .i64 q.2.1, .int .i64 q.2.2] := by
  simp [Tryz.underlying98, Tryz.underlying64, Tryz.underlying3, Program.keyLits, c1, c2, c3, h1, h2, h3]
  rw [if_pos (by decide)]
  rfl
 have e := keyOf3 (v3 q)
 rw [hk, hf, hm] at e
 simp only [Bool.and_self, ↓reduceIte] at e
 have e2 : (v3 q).cells.toList = [.int .i64 q.1, .int .i64 q.2.1, .int .i64 q.2.2] := rfl
 rw [e2, hL] at e
 exact ⟨_, e⟩
theorem lits_struct {P : Program} {d : Nat} {t : TypeId} {cs : List Value} {fs : Array Field} (h : P.underlying t = some (.struct fs)) : P.keyLits (d + 1) t cs = if cs.length = P.cellsOf t ∧ fs.all (·.name != "_") = true then (fs.toList.mapM fun f => P.keyLits d f.type ((cs.drop f.offset).take (P.cellsOf f.type))).map List.flatten else none := by
 conv => lhs; unfold Program.keyLits
 simp only [h]
theorem lit_int {P : Program} {d : Nat} {t : TypeId} {v : Value} {l : List Lit} (ht : P.underlying t = some (.int .i64)) (h : P.keyLits (d + 1) t [v] = some l) : ∃ n, v = .int .i64 n ∧ (Lit.int .i64 n).wf = true := by
 unfold Program.keyLits at h
 simp only [ht] at h
 cases v <;> simp at h
 rename_i q n
 obtain ⟨⟨rfl, hw⟩, _⟩ := h
 exact ⟨n, rfl, hw⟩
set_option maxRecDepth 100000 in
theorem inv3 (v : Value) (kl : Lit) (h : keyOf Tryz.prog 98 v = some kl) : ∃ q : P3, v = v3 q ∧ ok3 q := by
 have hN : ∃ m, Tryz.prog.types.size = m + 3 := ⟨Tryz.prog.types.size - 3, by kernel_rfl⟩
 obtain ⟨m, hm⟩ := hN
 have c1 : Tryz.prog.cellsOf 98 = 3 := by kernel_rfl
 have c2 : Tryz.prog.cellsOf 64 = 2 := by kernel_rfl
 have c3 : Tryz.prog.cellsOf 3 = 1 := by kernel_rfl
 rw [keyOf3, hm] at h
 split at h
 case isFalse => cases h
 rename_i hf
 rw [Bool.and_eq_true] at hf
 have hf2 := hf.2
 cases v <;> simp [Value.formed, Tryz.underlying98, c1] at hf2
 rename_i cs
 obtain ⟨l⟩ := cs
 match l, hf2 with
 | [a, b, c], _ =>
  have hL : ∃ l, Tryz.prog.keyLits (m + 3 + 1) 98 [a, b, c] = some l := by
   cases h9 : Tryz.prog.keyLits (m + 3 + 1) 98 [a, b, c] with
   | none => rw [show (Value.agg { toList := [a, b, c] }).cells.toList = [a, b, c] from rfl, h9] at h; cases h
   | some l => exact ⟨l, rfl⟩
  obtain ⟨l, hL⟩ := hL
  rw [lits_struct Tryz.underlying98] at hL
  simp [c1, c2, c3, lits_struct Tryz.underlying64] at hL
  cases ha : Tryz.prog.keyLits (m + 3) 3 [a] with
  | none => simp [ha] at hL
  | some la =>
   cases hb : Tryz.prog.keyLits (m + 2) 3 [b] with
   | none => simp [ha, hb] at hL
   | some lb =>
    cases hc : Tryz.prog.keyLits (m + 2) 3 [c] with
    | none => simp [ha, hb, hc] at hL
    | some lc =>
     obtain ⟨x, rfl, hx⟩ := lit_int Tryz.underlying3 ha
     obtain ⟨y, rfl, hy⟩ := lit_int Tryz.underlying3 hb
     obtain ⟨z, rfl, hz⟩ := lit_int Tryz.underlying3 hc
     exact ⟨(x, y, z), rfl, hx, hy, hz⟩
end Go.Proofs.YtflignpbboiahaaGreat
namespace Go.Proofs.YtflignpbboiahaaGreat
open Go.RowKit Go.Shelf Go.Maps
attribute [local go_sem] Oper.semAt_some
theorem grown_of0 {W W' : World} (h : Below W.heap.size W W') : W.grownBy W' none := ⟨h.os, h.tape, h.output, h.size, fun k hk _ => h.block k hk⟩
/-- What all keys are: each once, just those that are there. -/
def KeysAre (D0 : DataW Value) (ss : List P3) : Prop := CollO Tryz.prog 98 v3 ok3 D0 (fun _ => false) ss
set_option maxRecDepth 100000 in
set_option maxHeartbeats 2000000 in
theorem keysT_in (n : Nat) (hn : 1 ≤ n) (l Bm b nn : Nat) (D0 : DataW Value) {R : Value → Option (DataW Value × List MemPlace)} (J Jx : List P3 → World → Prop)
  (hY : ∀ pre x W, J pre W → pre.length < Maps.size D0 → YieldAt Fence.wide (n - 1) Tryz.prog l #[v3 x] W fun e W' =>
   (e = .returned (.bool true) ∧ J (pre ++ [x]) W' ∧ KeepsWalks W W') ∨ (e = .returned (.bool false) ∧ Jx (pre ++ [x]) W'))
  (W : World) (hJ : AbidesFrom W.heap.size J) (hm : W.cell? ⟨Bm, 0, none⟩ = some (.map (some b))) (hown : W.ownsMap Tryz.prog 98 R b nn D0) (h0 : J [] W) :
  CallsIn Fence.wide n Tryz.prog 97 #[.func (.yield l) #[] #[], .pointer (some ⟨Bm, 0, none⟩)] W fun e W' => (∃ v, e = .returned v) ∧
   ((∃ ss : List P3, KeysAre D0 ss ∧ J ss W') ∨ (∃ pre : List P3, True ∧ Jx pre W')) := by
 refine callsIn_of_wp Tryz.func97 rfl trivial ?_ rfl
 simp only [Tryz.ntmps97, List.size_toArray, List.length_cons, List.length_nil, Nat.reduceAdd, Nat.reduceSub, Array.replicate_succ, Array.replicate_zero, List.push_toArray, List.append_toArray, List.nil_append, List.cons_append]
 gi_wp2_with (first
  | (gi_at_range; refine wpListIn_range_own _ rfl _ 58 rfl 98 96 key3 Tryz.underlying58 _ b nn _ rfl hown ?_; intro w0 hrg0 hg0 hs0)
  | gi_in)
 go_frame
 gi_loopw [3] (fun _ wr => ∃ (left : Lit → Bool) (cnt : Nat) (ss : List P3), wr.ranges Tryz.prog 98 R b W.heap.size nn D0 left cnt ∧ ss.length + cnt ≤ Maps.size D0 ∧ CollO Tryz.prog 98 v3 ok3 D0 left ss ∧ J ss wr)
  (fun _ wr => wr.rangeLeft b W.heap.size)
 case atStart =>
  exact ⟨_, _, [], hrg0, by simp, CollO.start _ _ _ _ D0, hJ [] W w0 none h0 hg0 (fun r e => by cases e)⟩
 case round =>
  obtain ⟨left, cnt, ss, hrg, hcs, hC, hJs⟩ := hrel
  gi_wp2_with (first
   | (gi_at_next; refine wpListIn_next_ranges _ rfl _ rfl 98 key3 R v3 id (fun key kl hk => by obtain ⟨x, hx, _⟩ := inv3 key kl hk; exact ⟨x, hx⟩) (fun v _ _ => ⟨v, rfl⟩) b W.heap.size nn _ _ _ rfl hrg ?_ ?_)
   | gi_in)
  ·intro hc0 hl0
   have hl1 : left = fun _ => false := funext hl0
   subst hl1
   gi_wp2
   go_end0
   exact ⟨⟨_, rfl⟩, .inl ⟨ss, hC, hJs⟩⟩
  ·intro xa xb xc c kl yd yp w2 cnt2 hkey hlk hv hat hrg2 hlt hg2 hs2 hen
   obtain ⟨x', ex, hx⟩ := inv3 _ kl hkey
   obtain rfl : (xa, xb, xc) = x' := inj3 _ _ ex
   have hC2 := hC.step key3 inj3 hx hkey hlk hat
   have hrb : w2.heap.size ≤ (w2.alloc (.cells #[.int .i64 xa, .int .i64 xb, .int .i64 xc] 98)).heap.size := by simp
   have hJ2 : J ss w2 := hJ ss wr w2 (some W.heap.size) hJs hg2 (fun r e => by cases e; exact ⟨Nat.le_refl _, hrg.iter_walk⟩)
   have hJ2a : J ss (w2.alloc (.cells #[.int .i64 xa, .int .i64 xb, .int .i64 xc] 98)) := hJ ss w2 _ none hJ2 (grown_of0 (bel_one _ _)) (fun r e => by cases e)
   have hrg2a := hrg2.of_walks (KeepsWalks.alloc w2 (.cells #[.int .i64 xa, .int .i64 xb, .int .i64 xc] 98))
   obtain ⟨fn, tmps, assign, body, hy, hR⟩ := hY ss (xa, xb, xc) _ hJ2a (by omega)
   clear hs2 hrb
   simp only [v3] at hy hen hR
   gi_wp2
   refine hR.mono ?_
   rintro e W3 (⟨rfl, hJ3, hk3⟩ | ⟨rfl, hJx3⟩)
   ·gi_wp2
    have hrg3 := hrg2a.of_walks hk3
    go_roundw
    case rel => exact ⟨_, cnt2, ss ++ [(xa, xb, xc)], hrg3, by simp; omega, hC2, hJ3⟩
    case measure => rw [hrg3.left_eq, hrg.left_eq]; exact hlt
   ·gi_wp2
    refine bodyPost_ret (results_none rfl _ _ _) rfl ?_
    exact ⟨⟨_, rfl⟩, .inr ⟨ss ++ [(xa, xb, xc)], trivial, hJx3⟩⟩
/-- maps.Keys hands back a value that tells the keys. -/
theorem keysT_stops (n : Nat) (hn : 1 ≤ n) (Bm b nn : Nat) (D0 : DataW Value) {R : Value → Option (DataW Value × List MemPlace)} (w : World) (hBm : Bm < w.heap.size)
  (hm : w.cell? ⟨Bm, 0, none⟩ = some (.map (some b))) (hown : w.ownsMap Tryz.prog 98 R b nn D0) :
  SeqStopsK Fence.wide n Tryz.prog 97 #[.pointer (some ⟨Bm, 0, none⟩)] (fun x => #[v3 x]) KeepsWalks (KeysAre D0) (fun _ => True) (Maps.size D0) w := fun l J Jx W hW hJ _ hY h0 => by
 have hown' : W.ownsMap Tryz.prog 98 R b nn D0 := by
  have hbl := hown.lt
  obtain ⟨es, clock, hb, Ft, hs, hD⟩ := hown
  exact ⟨es, clock, (hW.block b hbl).trans hb, Ft, hs, hD⟩
 exact keysT_in n hn l Bm b nn D0 J Jx hY W hJ ((hW.cell (p := ⟨Bm, 0, none⟩) hBm).trans hm) hown' h0
theorem keysT_any (mb : Nat) (w : World) : Calls Tryz.prog 86 #[.map (some mb)] w fun e w' => e = .returned (.func (.func 97) #[] #[.pointer (some ⟨w.heap.size, 0, none⟩)]) ∧ w' = w.alloc (.cells #[.map (some mb)] 58) := by
 go_enter Tryz.func86, Tryz.ntmps86
 go_wp2
 go_ret
 exact ⟨rfl, rfl⟩
end Go.Proofs.YtflignpbboiahaaGreat
namespace Go.Proofs.YtflignpbboiahaaGreat
open Go.ChangeShapes Go.WideShapes Go.ChangeAt Go.RowKit
theorem hd_3_3 {b0 b1 a0 a1 a2 c0 c1 c2 : Nat} {k0 k1 k2 l0 l1 l2 : Value} {W W' : World} (h : ((W.cell? ⟨b0, a0, none⟩ = some k0 ∧ W.cell? ⟨b0, a1, none⟩ = some k1 ∧ W.cell? ⟨b0, a2, none⟩ = some k2 ∧ W.cell? ⟨b1, c0, none⟩ = some l0 ∧ W.cell? ⟨b1, c1, none⟩ = some l1 ∧ W.cell? ⟨b1, c2, none⟩ = some l2) ∧ b0 < W.heap.size ∧ b1 < W.heap.size)) (hb : Below W.heap.size W W') : ((W'.cell? ⟨b0, a0, none⟩ = some k0 ∧ W'.cell? ⟨b0, a1, none⟩ = some k1 ∧ W'.cell? ⟨b0, a2, none⟩ = some k2 ∧ W'.cell? ⟨b1, c0, none⟩ = some l0 ∧ W'.cell? ⟨b1, c1, none⟩ = some l1 ∧ W'.cell? ⟨b1, c2, none⟩ = some l2) ∧ b0 < W'.heap.size ∧ b1 < W'.heap.size) := by
 obtain ⟨h99, s0, s1⟩ := h
 have e0 : ∀ z, W'.cell? ⟨b0, z, none⟩ = W.cell? ⟨b0, z, none⟩ := fun z => hb.cell s0
 have e1 : ∀ z, W'.cell? ⟨b1, z, none⟩ = W.cell? ⟨b1, z, none⟩ := fun z => hb.cell s1
 refine ⟨?_, Nat.lt_of_lt_of_le s0 hb.size, Nat.lt_of_lt_of_le s1 hb.size⟩
 simp only [e0, e1]
 exact h99
theorem hd_3_3_set {b0 b1 a0 a1 a2 c0 c1 c2 : Nat} {k0 k1 k2 l0 l1 l2 : Value} {W : World} {p : Addr} (h : ((W.cell? ⟨b0, a0, none⟩ = some k0 ∧ W.cell? ⟨b0, a1, none⟩ = some k1 ∧ W.cell? ⟨b0, a2, none⟩ = some k2 ∧ W.cell? ⟨b1, c0, none⟩ = some l0 ∧ W.cell? ⟨b1, c1, none⟩ = some l1 ∧ W.cell? ⟨b1, c2, none⟩ = some l2) ∧ b0 < W.heap.size ∧ b1 < W.heap.size)) (p0 : p.block ≠ b0) (p1 : p.block ≠ b1) (u : Value) : (((W.setCell p u).cell? ⟨b0, a0, none⟩ = some k0 ∧ (W.setCell p u).cell? ⟨b0, a1, none⟩ = some k1 ∧ (W.setCell p u).cell? ⟨b0, a2, none⟩ = some k2 ∧ (W.setCell p u).cell? ⟨b1, c0, none⟩ = some l0 ∧ (W.setCell p u).cell? ⟨b1, c1, none⟩ = some l1 ∧ (W.setCell p u).cell? ⟨b1, c2, none⟩ = some l2) ∧ b0 < (W.setCell p u).heap.size ∧ b1 < (W.setCell p u).heap.size) := by
 obtain ⟨h99, s0, s1⟩ := h
 have hb : W.heap.size ≤ (W.setCell p u).heap.size := by simp [World.setCell]
 have e0 : ∀ z, (W.setCell p u).cell? ⟨b0, z, none⟩ = W.cell? ⟨b0, z, none⟩ := fun z => cell_set_ne p0
 have e1 : ∀ z, (W.setCell p u).cell? ⟨b1, z, none⟩ = W.cell? ⟨b1, z, none⟩ := fun z => cell_set_ne p1
 refine ⟨?_, Nat.lt_of_lt_of_le s0 hb, Nat.lt_of_lt_of_le s1 hb⟩
 simp only [e0, e1]
 exact h99
theorem hd_3_3_re {b0 b1 a0 a1 a2 c0 c1 c2 : Nat} {k0 k1 k2 l0 l1 l2 : Value} {W : World} {o o' : Obj} (h : (((W.alloc o).cell? ⟨b0, a0, none⟩ = some k0 ∧ (W.alloc o).cell? ⟨b0, a1, none⟩ = some k1 ∧ (W.alloc o).cell? ⟨b0, a2, none⟩ = some k2 ∧ (W.alloc o).cell? ⟨b1, c0, none⟩ = some l0 ∧ (W.alloc o).cell? ⟨b1, c1, none⟩ = some l1 ∧ (W.alloc o).cell? ⟨b1, c2, none⟩ = some l2) ∧ b0 < (W.alloc o).heap.size ∧ b1 < (W.alloc o).heap.size)) (p0 : b0 < W.heap.size) (p1 : b1 < W.heap.size) : (((W.alloc o').cell? ⟨b0, a0, none⟩ = some k0 ∧ (W.alloc o').cell? ⟨b0, a1, none⟩ = some k1 ∧ (W.alloc o').cell? ⟨b0, a2, none⟩ = some k2 ∧ (W.alloc o').cell? ⟨b1, c0, none⟩ = some l0 ∧ (W.alloc o').cell? ⟨b1, c1, none⟩ = some l1 ∧ (W.alloc o').cell? ⟨b1, c2, none⟩ = some l2) ∧ b0 < (W.alloc o').heap.size ∧ b1 < (W.alloc o').heap.size) := by
 obtain ⟨h99, s0, s1⟩ := h
 have hb : Below W.heap.size (W.alloc o) (W.alloc o') := bel_re W o o'
 have e0 : ∀ z, (W.alloc o').cell? ⟨b0, z, none⟩ = (W.alloc o).cell? ⟨b0, z, none⟩ := fun z => hb.cell p0
 have e1 : ∀ z, (W.alloc o').cell? ⟨b1, z, none⟩ = (W.alloc o).cell? ⟨b1, z, none⟩ := fun z => hb.cell p1
 refine ⟨?_, Nat.lt_of_lt_of_le s0 hb.size, Nat.lt_of_lt_of_le s1 hb.size⟩
 simp only [e0, e1]
 exact h99
/-- Which of two is ahead: below 0, 0 or above 0. -/
def cmpI (a b : Int) : Int := if a < b then -1 else if b < a then 1 else 0
def orI (x y z : Int) : Int := if x = 0 then (if y = 0 then z else y) else x
theorem cmpI_l {a b : Int} (h : a < b) : cmpI a b = -1 := if_pos h
theorem cmpI_g {a b : Int} (h : b < a) : cmpI a b = 1 := by unfold cmpI; rw [if_neg (by omega), if_pos h]
theorem cmpI_e {a b : Int} (h1 : ¬ a < b) (h2 : ¬ b < a) : cmpI a b = 0 := by unfold cmpI; rw [if_neg h1, if_neg h2]
theorem orI_1 {x y z : Int} (h : ¬ x = 0) : orI x y z = x := if_neg h
theorem orI_2 {x y z : Int} (h : x = 0) (h2 : ¬ y = 0) : orI x y z = y := by unfold orI; rw [if_pos h, if_neg h2]
theorem orI_3 {x y z : Int} (h : x = 0) (h2 : y = 0) : orI x y z = z := by unfold orI; rw [if_pos h, if_pos h2]
theorem nan_any (a : Int) (w : World) : Calls Tryz.prog 98 #[.int .i64 a] w fun e w' => e = .returned (.bool false) ∧ w' = w := by
 go_enter Tryz.func98, Tryz.ntmps98
 go_wp2
 go_ret
 exact ⟨rfl, rfl⟩
theorem cmp_any (a b : Int) (w : World) : Calls Tryz.prog 91 #[.int .i64 a, .int .i64 b] w fun e w' => e = .returned (.int .i64 (cmpI a b)) ∧ w' = w := by
 by_cases h1 : a < b
 ·have hq := hide (cmpI_l h1)
  go_enter Tryz.func91, Tryz.ntmps91
  go_wp2_with (go_at_call 98; refine (nan_any _ _).mono ?_; rintro e wx ⟨rfl, hw⟩; obtain rfl := hw.symm; clear hw)
  go_ret
  exact ⟨ret_i (unhide hq).symm, rfl⟩
 by_cases h2 : b < a
 ·have hq := hide (cmpI_g h2)
  go_enter Tryz.func91, Tryz.ntmps91
  go_wp2_with (go_at_call 98; refine (nan_any _ _).mono ?_; rintro e wx ⟨rfl, hw⟩; obtain rfl := hw.symm; clear hw)
  go_ret
  exact ⟨ret_i (unhide hq).symm, rfl⟩
 have hq := hide (cmpI_e h1 h2)
 go_enter Tryz.func91, Tryz.ntmps91
 go_wp2_with (go_at_call 98; refine (nan_any _ _).mono ?_; rintro e wx ⟨rfl, hw⟩; obtain rfl := hw.symm; clear hw)
 go_ret
 exact ⟨ret_i (unhide hq).symm, rfl⟩
set_option maxHeartbeats 1000000 in
theorem or_any (x y z : Int) (g cap : Nat) (w : World) (h0 : w.cell? ⟨g, 0, none⟩ = some (.int .i64 x)) (h1 : w.cell? ⟨g, 1, none⟩ = some (.int .i64 y)) (h2 : w.cell? ⟨g, 2, none⟩ = some (.int .i64 z)) : Calls Tryz.prog 90 #[.slice (some ⟨g, 0, none⟩) 3 cap] w fun e w' => e = .returned (.int .i64 (orI x y z)) ∧ w' = w := by
 go_enter Tryz.func90, Tryz.ntmps90
 go_wp2
 go_loop [8] (fun i => ∃ j : Nat, j ≤ 3 ∧ i = .int .i64 j ∧ Hid ((1 ≤ j → x = 0) ∧ (2 ≤ j → y = 0) ∧ (3 ≤ j → z = 0))) (fun i => 3 - (intOf i).toNat)
 case atStart => exact ⟨0, by omega, rfl, hide ⟨by omega, by omega, by omega⟩⟩
 case round =>
  obtain ⟨j, hj, rfl, HZ⟩ := hrel
  rcases (show j = 0 ∨ j = 1 ∨ j = 2 ∨ j = 3 by omega) with rfl | rfl | rfl | rfl
  ·by_cases hx : x = 0
   ·have HZ2 : Hid ((1 ≤ 1 → x = 0) ∧ (2 ≤ 1 → y = 0) ∧ (3 ≤ 1 → z = 0)) := hide ⟨fun _ => hx, by omega, by omega⟩
    go_wp2
    go_round
    case rel => exact ⟨1, by omega, rfl, HZ2⟩
    case measure => simp [intOf]
   ·have HQ := hide (orI_1 (y := y) (z := z) hx)
    have hx' : (x == 0) = false := by simpa using hx
    go_wp2
    go_ret
    exact ⟨ret_i (unhide HQ).symm, rfl⟩
  ·by_cases hy : y = 0
   ·have HZ2 : Hid ((1 ≤ 2 → x = 0) ∧ (2 ≤ 2 → y = 0) ∧ (3 ≤ 2 → z = 0)) := hide ⟨fun _ => (unhide HZ).1 (by omega), fun _ => hy, by omega⟩
    go_wp2
    go_round
    case rel => exact ⟨2, by omega, rfl, HZ2⟩
    case measure => simp [intOf]
   ·have HQ := hide (orI_2 (z := z) ((unhide HZ).1 (by omega)) hy)
    have hy' : (y == 0) = false := by simpa using hy
    go_wp2
    go_ret
    exact ⟨ret_i (unhide HQ).symm, rfl⟩
  ·by_cases hz : z = 0
   ·have HZ2 : Hid ((1 ≤ 3 → x = 0) ∧ (2 ≤ 3 → y = 0) ∧ (3 ≤ 3 → z = 0)) := hide ⟨fun _ => (unhide HZ).1 (by omega), fun _ => (unhide HZ).2.1 (by omega), fun _ => hz⟩
    go_wp2
    go_round
    case rel => exact ⟨3, by omega, rfl, HZ2⟩
    case measure => simp [intOf]
   ·have HQ := hide (orI_3 (z := z) ((unhide HZ).1 (by omega)) ((unhide HZ).2.1 (by omega)))
    have hz' : (z == 0) = false := by simpa using hz
    go_wp2
    go_ret
    exact ⟨ret_i (unhide HQ).symm, rfl⟩
  ·have HQ := hide ((orI_3 (z := z) ((unhide HZ).1 (by omega)) ((unhide HZ).2.1 (by omega))).trans ((unhide HZ).2.2 (by omega)))
   go_wp2
   go_ret
   exact ⟨ret_i (unhide HQ).symm, rfl⟩
/-- How two windows of keys stand. -/
def plCmp (ky st en ky' st' en' : Int) : Int := orI (cmpI ky ky') (cmpI st st') (cmpI en en')
set_option maxRecDepth 20000 in
set_option maxHeartbeats 2000000 in
theorem compare_any (ky st en ky' st' en' : Int) (w : World) : Calls Tryz.prog 74 #[.agg #[.int .i64 ky, .int .i64 st, .int .i64 en], .agg #[.int .i64 ky', .int .i64 st', .int .i64 en']] w fun e w' => e = .returned (.int .i64 (plCmp ky st en ky' st' en')) ∧ Below w.heap.size w w' := by
 go_enter Tryz.func74, Tryz.ntmps74
 go_wp2
 go_region_held3 (fun W => ((W.cell? ⟨w.heap.size, 0, none⟩ = some (.int .i64 ky) ∧ W.cell? ⟨w.heap.size, 1, none⟩ = some (.int .i64 st) ∧ W.cell? ⟨w.heap.size, 2, none⟩ = some (.int .i64 en) ∧ W.cell? ⟨w.heap.size + 1, 0, none⟩ = some (.int .i64 ky') ∧ W.cell? ⟨w.heap.size + 1, 1, none⟩ = some (.int .i64 st') ∧ W.cell? ⟨w.heap.size + 1, 2, none⟩ = some (.int .i64 en')) ∧ w.heap.size < W.heap.size ∧ w.heap.size + 1 < W.heap.size)) ((first | ((repeat (first | (with_reducible assumption) | (with_reducible refine hd_3_3 ?_ (by with_reducible assumption)) | (with_reducible refine hd_3_3 ?_ (bel_drew (Below.refl _ _))) | (with_reducible exact hd_3_3_re (by with_reducible assumption) (sB) (sB)) | (with_reducible refine hd_3_3 ?_ (bel_one _ _)) | (with_reducible refine hd_3_3_set ?_ (sB) (sB) _))); done) | (refine ⟨⟨?_, ?_, ?_, ?_, ?_, ?_⟩, ?_, ?_⟩ <;> first | (go_keep; done) | (simp; done) | (simp; omega) | omega)))
  (first
  | (go_at_call 91; refine (cmp_any _ _ _).mono ?_; rintro e wx ⟨rfl, hw⟩; obtain rfl := hw.symm; clear hw)
  | (go_at_call 90; refine (or_any (cmpI ky ky') (cmpI st st') (cmpI en en') _ _ _ (by simp [go_sem]) (by simp [go_sem]) (by simp [go_sem])).mono ?_; rintro e wx ⟨rfl, hw⟩; obtain rfl := hw.symm; clear hw))
 all_goals
  go_wp2
  go_ret
  exact ⟨rfl, (belA)⟩
theorem dr_alloc {n : Nat} {W : World} (h : n ≤ W.drawn) (o : Obj) : n ≤ (W.alloc o).drawn := h
theorem dr_set {n : Nat} {W : World} (h : n ≤ W.drawn) (p : Addr) (v : Value) : n ≤ (W.setCell p v).drawn := h
theorem dr_drew {n : Nat} {W : World} (h : n ≤ W.drawn) : n ≤ W.drew.drawn := Nat.le_succ_of_le h
theorem dr_drewN {n : Nat} {W : World} (h : n ≤ W.drawn) (m : Nat) : n ≤ (W.drewN m).drawn := Nat.le_trans h (Nat.le_add_right _ _)
theorem grow_of_below {w w' : World} (h : Below w.heap.size w w') (hd : w.drawn ≤ w'.drawn) : ∃ q os, w' = Go.Sort.grow (w.drewN q) os := by
 refine ⟨w'.drawn - w.drawn, w'.heap.extract w.heap.size w'.heap.size, ?_⟩
 obtain ⟨h1, h2, h3, h4, h5⟩ := h
 have hh : w'.heap = w.heap ++ w'.heap.extract w.heap.size w'.heap.size := by
  apply Array.ext_getElem?
  intro k
  by_cases hk : k < w.heap.size
  ·rw [Array.getElem?_append_left hk, h5 k hk]
  ·rw [Array.getElem?_append_right (by omega), Array.getElem?_extract]
   by_cases hk2 : k < w'.heap.size
   ·rw [if_pos (by omega)]
    congr 1
    omega
   ·rw [if_neg (by omega), Array.getElem?_eq_none (by omega)]
 cases w' with
 | mk heap tape drawn os output =>
  simp only at h1 h2 h3 hh hd
  subst h1 h2 h3
  simp only [Go.Sort.grow, World.drewN]
  rw [← hh]
  congr 1
  omega
set_option maxRecDepth 20000 in
set_option maxHeartbeats 2000000 in
theorem compare_drawn (ky st en ky' st' en' : Int) (w : World) : Calls Tryz.prog 74 #[.agg #[.int .i64 ky, .int .i64 st, .int .i64 en], .agg #[.int .i64 ky', .int .i64 st', .int .i64 en']] w fun e w' => e = .returned (.int .i64 (plCmp ky st en ky' st' en')) ∧ Below w.heap.size w w' ∧ w.drawn ≤ w'.drawn := by
 go_enter Tryz.func74, Tryz.ntmps74
 go_wp2
 go_region_held3 (fun W => ((W.cell? ⟨w.heap.size, 0, none⟩ = some (.int .i64 ky) ∧ W.cell? ⟨w.heap.size, 1, none⟩ = some (.int .i64 st) ∧ W.cell? ⟨w.heap.size, 2, none⟩ = some (.int .i64 en) ∧ W.cell? ⟨w.heap.size + 1, 0, none⟩ = some (.int .i64 ky') ∧ W.cell? ⟨w.heap.size + 1, 1, none⟩ = some (.int .i64 st') ∧ W.cell? ⟨w.heap.size + 1, 2, none⟩ = some (.int .i64 en')) ∧ w.heap.size < W.heap.size ∧ w.heap.size + 1 < W.heap.size)) ((first | ((repeat (first | (with_reducible assumption) | (with_reducible refine hd_3_3 ?_ (by with_reducible assumption)) | (with_reducible refine hd_3_3 ?_ (bel_drew (Below.refl _ _))) | (with_reducible exact hd_3_3_re (by with_reducible assumption) (sB) (sB)) | (with_reducible refine hd_3_3 ?_ (bel_one _ _)) | (with_reducible refine hd_3_3_set ?_ (sB) (sB) _))); done) | (refine ⟨⟨?_, ?_, ?_, ?_, ?_, ?_⟩, ?_, ?_⟩ <;> first | (go_keep; done) | (simp; done) | (simp; omega) | omega)))
  (first
  | (go_at_call 91; refine (cmp_any _ _ _).mono ?_; rintro e wx ⟨rfl, hw⟩; obtain rfl := hw.symm; clear hw)
  | (go_at_call 90; refine (or_any (cmpI ky ky') (cmpI st st') (cmpI en en') _ _ _ (by simp [go_sem]) (by simp [go_sem]) (by simp [go_sem])).mono ?_; rintro e wx ⟨rfl, hw⟩; obtain rfl := hw.symm; clear hw))
 all_goals
  go_wp2
  go_ret
  exact ⟨rfl, (belA), (by repeat (first | (with_reducible exact Nat.le_refl _) | (with_reducible refine dr_alloc ?_ _) | (with_reducible refine dr_set ?_ _ _) | (with_reducible refine dr_drew ?_) | (with_reducible refine dr_drewN ?_ _)))⟩
theorem compare_grow (ky st en ky' st' en' : Int) (w : World) : Calls Tryz.prog 74 #[.agg #[.int .i64 ky, .int .i64 st, .int .i64 en], .agg #[.int .i64 ky', .int .i64 st', .int .i64 en']] w fun e w' => e = .returned (.int .i64 (plCmp ky st en ky' st' en')) ∧ ∃ q os, w' = Go.Sort.grow (w.drewN q) os :=
 (compare_drawn ky st en ky' st' en' w).mono fun e w' ⟨h1, h2, h3⟩ => ⟨h1, grow_of_below h2 h3⟩
end Go.Proofs.YtflignpbboiahaaGreat
namespace Go.Proofs.YtflignpbboiahaaGreat
open Go.ChangeShapes Go.WideShapes Go.ChangeAt Go.RowKit Go.Shelf Go.Lib Go.Sort
/-- A place as its three numbers; how two stand. -/
abbrev Pl := Int × Int × Int
def encPl (x : Pl) : List Value := [.int .i64 x.1, .int .i64 x.2.1, .int .i64 x.2.2]
def cfPl (x y : Pl) : Int := plCmp x.1 x.2.1 x.2.2 y.1 y.2.1 y.2.2
def ltPl (x y : Pl) : Prop := x.1 < y.1 ∨ (x.1 = y.1 ∧ (x.2.1 < y.2.1 ∨ (x.2.1 = y.2.1 ∧ x.2.2 < y.2.2)))
theorem cfPl_iff (x y : Pl) : cfPl x y < 0 ↔ ltPl x y := by
 unfold cfPl plCmp orI cmpI ltPl
 by_cases h1 : x.1 < y.1
 ·simp [h1]
 ·by_cases h2 : y.1 < x.1
  ·simp [h1, h2]; omega
  ·have e1 : x.1 = y.1 := by omega
   by_cases h3 : x.2.1 < y.2.1
   ·simp [e1, h3]
   ·by_cases h4 : y.2.1 < x.2.1
    ·simp [e1, h3, h4]; omega
    ·have e2 : x.2.1 = y.2.1 := by omega
     by_cases h5 : x.2.2 < y.2.2
     ·simp [e1, e2, h5]
     ·by_cases h6 : y.2.2 < x.2.2
      ·simp [e1, e2, h5, h6]
      ·simp [e1, e2, h5, h6]
theorem ltOfPl (x y : Pl) : ltOf cfPl x y = true ↔ ltPl x y := by
 unfold ltOf
 rw [decide_eq_true_iff]
 exact cfPl_iff x y
theorem ltOfPl_f (x y : Pl) : ltOf cfPl x y = false ↔ ¬ ltPl x y := by
 rw [← ltOfPl]
 simp
theorem swoPl : SWO (ltOf cfPl) where
 irrefl x := by rw [ltOfPl_f]; unfold ltPl; omega
 trans x y z h1 h2 := by rw [ltOfPl] at *; unfold ltPl at *; omega
 ntrans x y z h1 h2 := by rw [ltOfPl_f] at *; unfold ltPl at *; omega
theorem totPl (x y : Pl) (h1 : ltOf cfPl x y = false) (h2 : ltOf cfPl y x = false) : x = y := by
 rw [ltOfPl_f] at h1 h2
 unfold ltPl at h1 h2
 obtain ⟨a, b, c⟩ := x
 obtain ⟨a', b', c'⟩ := y
 simp only at h1 h2
 have e1 : a = a' := by omega
 have e2 : b = b' := by omega
 have e3 : c = c' := by omega
 rw [e1, e2, e3]
theorem cmpPl (blk off size : Nat) (w : World) : CmpLays Tryz.prog 74 #[] encPl 3 cfPl blk off size w := by
 intro m os dk hd x y
 exact compare_grow x.1 x.2.1 x.2.2 y.1 y.2.1 y.2.2 _
theorem sortpl_any (blk off cap : Nat) (d : Array Pl) (w : World) (hH : HoldsK encPl 3 w blk off d) (hblk : blk < w.heap.size) (hsz : d.size < 4611686018427387904) :
  Calls Tryz.prog 96 #[.slice (some ⟨blk, off, none⟩) d.size cap, .func (.func 74) #[] #[]] w fun e w' =>
   e = .returned (.tuple #[]) ∧ ∃ n os, w' = sortWorldK encPl 3 w blk off n (d.toList.mergeSort fun x y => !(ltOf cfPl) y x).toArray os := by
 have eg : ∀ args w, (callFunc 74 args).run Tryz.prog w = .ok (.enter 74 args) w := enters_of Tryz.func74 (by kernel_rfl) rfl
 exact AnyQ.slices_SortFunc_total Tryz.sortPl 3 Tryz.isAgg98 Tryz.sizeOf98 encPl (fun _ => rfl) (fun x v hv => by simp [encPl] at hv; rcases hv with rfl | rfl | rfl <;> rfl) cfPl swoPl _ #[] blk off cap d w eg (cmpPl blk off d.size w) hH hblk hsz totPl
end Go.Proofs.YtflignpbboiahaaGreat
namespace Go.Proofs.YtflignpbboiahaaGreat
open Go.RowKit Go.Shelf
attribute [local go_sem] Oper.semAt_some
theorem Tryz.infoP3 : (Tryz.prog.info? 98).map (fun i => (i.zero, i.size, i.bytes)) = some (some (.agg #[.int .i64 0, .int .i64 0, .int .i64 0]), 3, 24) := by kernel_rfl
def cells3 (x : P3) : List Value := [.int .i64 x.1, .int .i64 x.2.1, .int .i64 x.2.2]
def flat3 (xs : List P3) : List Value := xs.flatMap cells3
theorem flat3_snoc (xs : List P3) (x : P3) : flat3 (xs ++ [x]) = flat3 xs ++ [.int .i64 x.1, .int .i64 x.2.1, .int .i64 x.2.2] := by simp [flat3, cells3]
theorem flat3_len (xs : List P3) : (flat3 xs).length = xs.length * 3 := by
 induction xs with
 | nil => rfl
 | cons x r ih => show (cells3 x ++ flat3 r).length = _; rw [List.length_append, ih]; simp [cells3]; omega
def Own3 (W : World) (B : Nat) (v : Value) (xs : List P3) : Prop := W.ownsRow B 98 3 v xs.length (flat3 xs)
theorem cells_new3 (w : World) (a b c : Int) (ty : Nat) : ∀ j u, ([.int .i64 a, .int .i64 b, .int .i64 c] : List Value)[j]? = some u → (w.alloc (.cells #[.int .i64 a, .int .i64 b, .int .i64 c] ty)).cell? ((⟨w.heap.size, 0, none⟩ : Addr).add j) = some u := by
 intro j u hj
 have e : ((⟨w.heap.size, 0, none⟩ : Addr).add j) = ⟨w.heap.size, j, none⟩ := by
  unfold Addr.add
  split
  ·rename_i h0; rw [h0]
  ·simp
 rw [e]
 simpa [go_sem] using hj
def Bx3 (W : World) (q : Nat) (x : P3) : Prop := W.heap[q]? = some (.cells #[.int .i64 x.1, .int .i64 x.2.1, .int .i64 x.2.2] 98 (0, 0))
theorem Bx3.new (W : World) (x : P3) : Bx3 (W.alloc (.cells #[.int .i64 x.1, .int .i64 x.2.1, .int .i64 x.2.2] 98)) W.heap.size x := World.alloc_heap_new W _
theorem Bx3.cells {W : World} {q : Nat} {x : P3} (h : Bx3 W q x) : W.cell? ⟨q, 0, none⟩ = some (.int .i64 x.1) ∧ W.cell? ⟨q, 1, none⟩ = some (.int .i64 x.2.1) ∧ W.cell? ⟨q, 2, none⟩ = some (.int .i64 x.2.2) := ⟨(Joins.cell_of_block h 0), (Joins.cell_of_block h 1), (Joins.cell_of_block h 2)⟩
theorem grown_of3 {W W' : World} (h : Below W.heap.size W W') : W.grownBy W' none := ⟨h.os, h.tape, h.output, h.size, fun k hk _ => h.block k hk⟩
theorem walks_app {W w1 : World} {n₀ B : Nat} {e : TypeId} {size : Nat} {v v' : Value} {q : Nat} {ys : List Value} {tmp : Obj} (hrow : W.ownsRow n₀ e size v q ys) (hgrow : (W.alloc tmp).grownBy w1 v.ownBlock) : KeepsWalks W (w1.setCell ⟨B, 0, none⟩ v') := by
 refine ((KeepsWalks.alloc W tmp).trans (KeepsWalks.of_grownBy hgrow (fun j o hj ho => ?_))).trans (KeepsWalks.setCell _ _ _)
 rcases (hrow.alloc tmp).2 with ⟨rfl, _⟩ | ⟨g, cap, cur, rfl, _, hgb, _⟩
 ·simp [Value.ownBlock] at hj
 ·have : g = j := by simpa [Value.ownBlock] using hj
  subst this; rw [hgb] at ho; cases ho; rfl
/-- The frame of a round. -/
def act3 (w : World) (gf : Nat) (lb : Array Value) (x : P3) (q : Nat) : Act := { tmps := #[.slice none 0 0, .func (.func gf) #[] lb, .pointer (some ⟨w.heap.size, 0, none⟩), undef, .slice none 0 0, .pointer (some ⟨q, 0, none⟩), .func (.func gf) #[] lb, .agg #[.int .i64 x.1, .int .i64 x.2.1, .int .i64 x.2.2], undef, undef, undef, undef, undef], defers := [] }
set_option maxRecDepth 100000 in
set_option maxHeartbeats 4000000 in
theorem appendseq3 (gf : Nat) (lb : Array Value) (eg : ∀ args w, (callFunc gf args).run Tryz.prog w = .ok (.enter gf args) w) (S Sp : List P3 → Prop) (N : Nat) (hN : N ≤ 1048577) (w : World)
  (hseq : SeqStopsK Fence.wide 5 Tryz.prog gf lb (fun x : P3 => #[.agg #[.int .i64 x.1, .int .i64 x.2.1, .int .i64 x.2.2]]) KeepsWalks S Sp N w) :
  Calls Tryz.prog 103 #[.slice none 0 0, .func (.func gf) #[] lb] w fun e' w' => ∃ v' ss, e' = .returned v' ∧ S ss ∧ ss.length ≤ N ∧ Own3 w' w.heap.size v' ss ∧ Below w.heap.size w w' := by
 obtain ⟨i0, hi, hz0', hz1', hz2'⟩ := info_parts Tryz.infoP3
 refine (callsIn_wide (n := 6)).1 ?_
 refine callsIn_of_wp_marks Tryz.func103 rfl trivial ?_ rfl
 simp only [Tryz.ntmps103, List.size_toArray, List.length_cons, List.length_nil, Nat.reduceAdd, Nat.reduceSub, Array.replicate_succ, Array.replicate_zero, List.push_toArray, List.append_toArray, List.nil_append, List.cons_append]
 gi_wp2
 have bS := Boxed.new w 133 (.slice none 0 0)
 have hB0 : Below w.heap.size w (w.alloc (.cells #[.slice none 0 0] 133)) := bel_one _ _
 refine wpIn_rangeFunc_ownH rfl (by omega) (gf := gf) (lb := lb) rfl trivial eg
  hseq KeepsWalks.trans walksK_b hB0 (fun _ => rfl)
  (fun pre W => (∃ v, Boxed W w.heap.size 133 v ∧ W.ownsRow w.heap.size 98 3 v pre.length (flat3 pre) ∧ pre.length ≤ N) ∧ Below w.heap.size w W)
  (fun _ _ _ => False)
  (OwnFrom.and (Own.from (holdsRow_own w.heap.size w.heap.size 133 98 3 (fun pre : List P3 => pre.length) (fun pre => flat3 pre) (fun pre _ => pre.length ≤ N)) _) (ownFrom_below (Nat.le_refl _) (by simp)))
  (fun _ _ _ _ _ hs _ _ => hs)
  ⟨⟨_, bS, World.ownsRow_nil _ _ _ _, Nat.zero_le _⟩, hB0⟩
  (fun x a' W => ∃ q, a' = act3 w gf lb x q ∧ Bx3 W q x)
  (fun x a' _ W W' row hs hg hr => by
   obtain ⟨q, e1, hq⟩ := hs
   refine ⟨q, e1, (hg.block q (Array.getElem?_eq_some_iff.1 hq).1 (fun e9 => ?_)).trans hq⟩
   obtain ⟨_, o, ho, hc⟩ := hr q e9.symm
   rw [hq] at ho
   cases ho
   cases hc) ?assign ?body ?done ?stop
 case assign =>
  rintro lb0 pre x W K ⟨⟨rv, hv, hrow, hpN⟩, hB⟩ hK
  have HK := hK (act3 w gf lb x W.heap.size) (W.alloc (.cells #[.int .i64 x.1, .int .i64 x.2.1, .int .i64 x.2.2] 98)) ((KeepsOthers.of_grownBy (grown_of3 (bel_one W _)) (fun _ _ e => by cases e)).from _) (KeepsWalks.alloc _ _) ⟨⟨rv, hv.alloc _, hrow.alloc _, hpN⟩, bel_alloc hB _⟩ ⟨_, rfl, Bx3.new W x⟩
  clear hK
  unfold act3 at HK
  gi_wp2
  exact HK
 case body =>
  rintro lb0 pre x a' W hlb _ ⟨⟨rv, hv, hrow, hpN⟩, hB⟩ ⟨q, rfl, hq⟩ hpl
  have hcv := hv.cell
  have hz1 := hv.lt
  have hfv := hv.frozen
  have HR := hide hrow
  have HV := hide hv
  obtain ⟨x0, x1, x2⟩ := hq.cells
  have hlq := (Array.getElem?_eq_some_iff.1 hq).1
  clear hB0 bS hrow hv hq
  unfold act3
  gi_wp2_with (gi_at_builtin; go_loud (refine wpListIn_append_own _ rfl _ _ 133 rfl w.heap.size 98 i0 _ 3 24 Tryz.underlying133 hi hz0' hz1' hz2' rfl (by decide) rv _ _ rfl (World.ownsRow.alloc (unhide HR) _) ⟨W.heap.size, 0, none⟩ 1 1 [.int .i64 x.1, .int .i64 x.2.1, .int .i64 x.2.2] rfl rfl (cells_new3 W x.1 x.2.1 x.2.2 _) (by simp [Value.oneCell']) (by unfold maxLen; omega) (by omega) (by simp; omega) ?_); intro v' w2 hown' hgrow _; obtain ⟨g', cap', rfl⟩ := ownsRow_succ hown'; obtain ⟨hv1, hv2, hr2, hk2, hb2⟩ := Boxed.appended (unhide HV) (by decide) (unhide HR) (by omega) (Nat.le_refl _) hown' hgrow; have hkp := walks_app (B := w.heap.size) (v' := .slice (some ⟨g', 0, none⟩) (pre.length + 1) cap') (unhide HR) hgrow; have hcc := hv1.cell; have hff := hv1.frozen; have HV3 := hide hv2; have HR3 := hide hr2; clear hv1 hv2 hr2 hown' hgrow)
  exact ⟨hk2.from _, hkp, ⟨_, unhide HV3, by rw [flat3_snoc, List.length_append]; exact unhide HR3, by rw [List.length_append]; simp; omega⟩, hB.trans hb2⟩
 case done =>
  rintro D ys W hD hys ⟨⟨rv, hv, hrow, hpN⟩, hB⟩ hK
  have hcv := hv.cell
  have HR := hide hrow
  clear hrow
  gi_wp2
  refine ⟨by simp, .inl ⟨_, _, rfl, run_takeDeferred hK, ?_⟩⟩
  exact ⟨_, results_tmp rfl _ _ _, rv, ys, rfl, hys, hpN, ownsRow_putObj (unhide HR) _ hK rfl, hB.trans (belowK_b (w := w) (Nat.le_refl _) W D _ _ (by simp at hD; omega) hK rfl rfl)⟩
 case stop =>
  rintro D c pre W _ _ hx _
  exact hx.elim
theorem collect3 (gf : Nat) (lb : Array Value) (eg : ∀ args w, (callFunc gf args).run Tryz.prog w = .ok (.enter gf args) w) (S Sp : List P3 → Prop) (N : Nat) (hN : N ≤ 1048577) (w : World)
  (hseq : SeqStopsK Fence.wide 5 Tryz.prog gf lb (fun x : P3 => #[.agg #[.int .i64 x.1, .int .i64 x.2.1, .int .i64 x.2.2]]) KeepsWalks S Sp N w) :
  Calls Tryz.prog 95 #[.func (.func gf) #[] lb] w fun e' w' => ∃ v' ss, e' = .returned v' ∧ S ss ∧ ss.length ≤ N ∧ Own3 w' w.heap.size v' ss ∧ Below w.heap.size w w' := by
 go_enter Tryz.func95, Tryz.ntmps95
 go_wp2_with fail
 refine (appendseq3 gf lb eg S Sp N hN _ hseq).mono ?_
 rintro e' w' ⟨v', ss, rfl, hS, hl, hO, hb⟩
 go_wp2_with fail
 go_ret
 exact ⟨_, ss, rfl, hS, hl, hO, hb⟩
end Go.Proofs.YtflignpbboiahaaGreat
namespace Go.Proofs.YtflignpbboiahaaGreat
open Go.RowKit Go.Shelf Go.Sort Go.Lib
theorem flat3_get : ∀ (ss : List P3) (t : Nat), t < ss.length * 3 → (flat3 ss)[t]? = (cells3 ss[t / 3]!)[t % 3]?
 | [], t, h => by simp at h
 | x :: r, t, h => by
  show (cells3 x ++ flat3 r)[t]? = _
  by_cases h3 : t < 3
  ·rw [List.getElem?_append_left (by simp [cells3]; omega), Nat.div_eq_of_lt h3, Nat.mod_eq_of_lt h3]
   rfl
  ·rw [List.getElem?_append_right (by simp [cells3]; omega)]
   have hl : (cells3 x).length = 3 := rfl
   rw [hl, flat3_get r (t - 3) (by simp at h; omega)]
   have e1 : t / 3 = (t - 3) / 3 + 1 := by omega
   have e2 : t % 3 = (t - 3) % 3 := by omega
   rw [e1, e2]
   simp
theorem flatK3 (ss : List P3) : (Go.Sort.flatK encPl 3 ss.toArray).toList = flat3 ss := by
 apply List.ext_getElem?
 intro t
 by_cases h : t < ss.length * 3
 ·rw [flat3_get ss t h, Array.getElem?_toList, Array.getElem?_eq_getElem (by rw [size_flatK]; simpa using h)]
  have h9 := get_flatK encPl 3 ss.toArray t (by simpa using h)
  rw [getElem!_pos _ t (by rw [size_flatK]; simpa using h)] at h9
  rw [h9]
  have hm : t % 3 < 3 := Nat.mod_lt _ (by omega)
  have hq : ss.toArray[t / 3]! = ss[t / 3]! := by simp
  rw [hq]
  have hc : (encPl ss[t / 3]!) = cells3 ss[t / 3]! := rfl
  rw [hc]
  generalize ss[t / 3]! = y
  have hy : t % 3 < (cells3 y).length := hm
  rw [getElem!_pos (cells3 y) _ hy, List.getElem?_eq_getElem hy]
 ·rw [Array.getElem?_toList, Array.getElem?_eq_none (by rw [size_flatK]; simp; omega), List.getElem?_eq_none (by rw [flat3_len]; omega)]
theorem take_putV (F cur : Array Value) (h : F.size ≤ cur.size) : (putCells id 0 F cur).toList.take F.size = F.toList := by
 apply List.ext_getElem?
 intro j
 by_cases hj : j < F.size
 ·rw [List.getElem?_take_of_lt hj, Array.getElem?_toList, Array.getElem?_toList]
  simp [putCells, hj, show j < cur.size by omega]
 ·rw [List.getElem?_take_eq_none (by omega), List.getElem?_eq_none (by simp; omega)]
theorem heap_srt {w : World} {g n : Nat} {os : Array Obj} {cur : Array Value} {e : TypeId} {fr : Nat × Nat} (F : Array Value) (hb : w.heap[g]? = some (.cells cur e fr)) :
  (grow (putRow id (Sort.ahead w n) g 0 F) os).heap[g]? = some (.cells (putCells id 0 F cur) e fr) := by
 have hg : g < w.heap.size := (Array.getElem?_eq_some_iff.1 hb).1
 rw [heap_grow_old _ _ (by simpa using hg)]
 simp [putRow, mapBlock, Sort.ahead, Array.getElem?_modify, hb, onCells]
theorem below_srt {w : World} {g n B : Nat} {os : Array Obj} (F : Array Value) (hB : B ≤ g) (hw : B ≤ w.heap.size) : Below B w (grow (putRow id (Sort.ahead w n) g 0 F) os) := by
 refine ⟨rfl, rfl, rfl, by simp, fun k hk => ?_⟩
 rw [heap_grow_old _ _ (by simp; omega)]
 have : g ≠ k := by omega
 simp [putRow, mapBlock, Sort.ahead, Array.getElem?_modify, this]
/-- Places in order. -/
def srt3 (ss : List P3) : List P3 := ss.mergeSort fun x y => !(ltOf cfPl) y x
theorem srt3_len (ss : List P3) : (srt3 ss).length = ss.length := List.length_mergeSort ss
theorem srt3_perm (ss : List P3) : (srt3 ss).Perm ss := List.mergeSort_perm ss _
theorem sort3_any (B : Nat) (v : Value) (ss : List P3) (w : World) (h : Own3 w B v ss) (hB : B ≤ w.heap.size) (hl : ss.length ≤ 1048577) : Calls Tryz.prog 96 #[v, .func (.func 74) #[] #[]] w fun e w' =>
  e = .returned (.tuple #[]) ∧ Own3 w' B v (srt3 ss) ∧ Below B w w' := by
 obtain ⟨h0, hc⟩ := h
 by_cases hz : ss.length = 0
 ·obtain rfl : ss = [] := List.eq_nil_of_length_eq_zero hz
  have hv : ∃ p cap, v = .slice p 0 cap := by
   rcases hc with ⟨rfl, _⟩ | ⟨g, cap, cur, rfl, _⟩
   ·exact ⟨_, _, rfl⟩
   ·exact ⟨_, _, rfl⟩
  obtain ⟨p, cap, rfl⟩ := hv
  refine (AnyF.slices_SortFunc_none Tryz.sortPl p cap _ w).mono ?_
  rintro e w' ⟨rfl, rfl⟩
  have e0 : srt3 [] = [] := by simp [srt3]
  rw [e0]
  exact ⟨rfl, ⟨h0, hc⟩, Below.refl _ _⟩
 ·obtain ⟨g, cap, cur, rfl, hg, hblk, h1, h2, h3, h4⟩ := hc.resolve_left (fun h => hz h.2)
  have hsz : (Go.Sort.flatK encPl 3 ss.toArray).size = ss.length * 3 := by simp
  have hH : HoldsK encPl 3 w g 0 ss.toArray := by
   intro j hj
   rw [hsz] at hj
   refine ⟨?_, by simp [World.frozen?, hblk]⟩
   rw [Nat.zero_add, Joins.cell_of_block hblk j, ← Array.getElem?_toList]
   have h5 : (cur.toList.take (ss.length * 3))[j]? = (flat3 ss)[j]? := by rw [h4]
   rw [List.getElem?_take_of_lt hj] at h5
   rw [h5, ← flatK3, Array.getElem?_toList, Array.getElem?_eq_getElem (by rw [hsz]; exact hj), getElem!_pos _ j (by rw [hsz]; exact hj)]
   rfl
  have hgl : g < w.heap.size := (Array.getElem?_eq_some_iff.1 hblk).1
  have h9 := sortpl_any g 0 cap ss.toArray w hH hgl (by simp; omega)
  rw [List.size_toArray] at h9
  refine h9.mono ?_
  rintro e w' ⟨rfl, n, os, rfl⟩
  have hF : (Go.Sort.flatK encPl 3 (srt3 ss).toArray).size = ss.length * 3 := by simp [srt3_len]
  refine ⟨rfl, ⟨by rw [flat3_len], .inr ⟨g, cap, _, by rw [srt3_len], hg, heap_srt _ hblk, by rw [srt3_len]; exact h1, h2, by simp [putCells, h3], ?_⟩⟩, below_srt _ hg hB⟩
  have h8 := take_putV (Go.Sort.flatK encPl 3 (srt3 ss).toArray) cur (by rw [hF, h3]; exact Nat.mul_le_mul_right 3 h1)
  rw [hF, flatK3] at h8
  rw [srt3_len]
  exact h8
theorem sorted3 (gf : Nat) (lb : Array Value) (eg : ∀ args w, (callFunc gf args).run Tryz.prog w = .ok (.enter gf args) w) (S Sp : List P3 → Prop) (N : Nat) (hN : N ≤ 1048577) (w : World)
  (hseq : SeqStopsK Fence.wide 5 Tryz.prog gf lb (fun x : P3 => #[.agg #[.int .i64 x.1, .int .i64 x.2.1, .int .i64 x.2.2]]) KeepsWalks S Sp N w) :
  Calls Tryz.prog 85 #[.func (.func gf) #[] lb, .func (.func 74) #[] #[]] w fun e' w' => ∃ v' ss, e' = .returned v' ∧ S ss ∧ ss.length ≤ N ∧ Own3 w' w.heap.size v' (srt3 ss) ∧ Below w.heap.size w w' := by
 go_enter Tryz.func85, Tryz.ntmps85
 go_wp2_with fail
 refine (collect3 gf lb eg S Sp N hN _ hseq).mono ?_
 rintro e' w1 ⟨v', ss, rfl, hS, hl, hO, hb⟩
 go_wp2_with fail
 refine (sort3_any w.heap.size v' ss _ hO hb.size (by omega)).mono ?_
 rintro e' w2 ⟨rfl, hO2, hb2⟩
 go_wp2_with fail
 go_ret
 exact ⟨_, ss, rfl, hS, hl, hO2, hb.trans hb2⟩
end Go.Proofs.YtflignpbboiahaaGreat
namespace Go.Proofs.YtflignpbboiahaaGreat
open Go.RowKit Go.Shelf Go.Maps
attribute [local go_sem] Oper.semAt_some
/-- A map's values, read as they are. -/
def rdV (v : Value) : Option (DataW Value × List MemPlace) := some (.held v, [])
/-- Block b is a map of at most n places that holds what m says. -/
def OwnsV (w : World) (b n : Nat) (m : P3 → Option Value) : Prop := OwnsOp w Tryz.prog 98 rdV b n v3 ok3 DataW.held m
theorem OwnsV.look {w : World} {b n : Nat} {m : P3 → Option Value} (h : OwnsV w b n m) {z : Value} (hz : (zeroValue 96).run Tryz.prog w = .ok z w) (q : P3) (hq : ok3 q) :
  (Instr.lookup 58 (.map (some b)) (.agg #[.int .i64 q.1, .int .i64 q.2.1, .int .i64 q.2.2]) false).run Tryz.prog w = .ok ((m q).getD z) w := by
 obtain ⟨v, ps, h1, h2⟩ := OwnsOp.look h key3 Tryz.underlying58 hz (zd := .held z) (zp := []) rfl some3 q hq
 have e : v = (m q).getD z := by
  cases hm : m q with
  | none => rw [hm] at h2; simp [rdV] at h2; exact h2.1
  | some a => rw [hm] at h2; simp [rdV] at h2; exact h2.1
 rw [← e]
 exact h1
/-- The keys of a map, each once. -/
def KeysOf {V : Type} (m : P3 → Option V) (ss : List P3) : Prop := ss.Nodup ∧ ∀ q, q ∈ ss ↔ (ok3 q ∧ m q ≠ none)
/-- What is told of a map: its places in order, each with what stands there. -/
def InOrd {V : Type} (z : V) (m : P3 → Option V) (ys : List (P3 × V)) : Prop := ∃ ss, KeysOf m ss ∧ ys = (srt3 ss).map (fun q => (q, (m q).getD z))
/-- What a round keeps: maps, and blocks of places and of maps' names. -/
def KpO (W W' : World) : Prop := KeepsWalks W W' ∧ ∀ (b : Nat) (cs : Array Value) (ty : TypeId), (ty = 98 ∨ ty = 58) → W.heap[b]? = some (Obj.cells cs ty (0, 0)) → W'.heap[b]? = some (Obj.cells cs ty (0, 0))
theorem KpO.rfl' (W : World) : KpO W W := ⟨KeepsWalks.refl W, fun _ _ _ _ h => h⟩
theorem KpO.trans {A B C : World} (h : KpO A B) (k : KpO B C) : KpO A C := ⟨h.1.trans k.1, fun b cs ty ht hb => k.2 b cs ty ht (h.2 b cs ty ht hb)⟩
theorem KpO.put {w : World} (W : World) (l : Nat) (o o' : Obj) (hl : w.heap.size ≤ l) (h : W.heap[l]? = some o) (hc : o.isCells = false) (hw : o.isWalk = false) : KpO W (W.putObj l o') := by
 refine ⟨KeepsWalks.putObj _ h hw, fun b cs ty _ hb => ?_⟩
 have hne : b ≠ l := by
  rintro rfl
  rw [hb] at h
  cases h
  cases hc
 rw [World.putObj_heap_other hne]
 exact hb
theorem KpO.of_bel {W W' : World} (hb : Below W.heap.size W W') : KpO W W' := ⟨⟨hb.size, fun k o hk _ => (hb.block k (Array.getElem?_eq_some_iff.1 hk).1).trans hk⟩, fun b cs ty _ h => (hb.block b (Array.getElem?_eq_some_iff.1 h).1).trans h⟩
theorem OwnsV.kp {W W' : World} {b n : Nat} {m : P3 → Option Value} (h : OwnsV W b n m) (k : KeepsWalks W W') : OwnsV W' b n m := by
 obtain ⟨D, ⟨es, clock, h1, h2⟩, hf⟩ := h
 exact ⟨D, ⟨es, clock, k.same b _ h1 rfl, h2⟩, hf⟩
theorem own3_kp {B : Nat} {W W' : World} {v : Value} {ys : List P3} (h : Own3 W B v ys) (hk : KpO W W') : Own3 W' B v ys := by
 rcases h with ⟨hl, h | ⟨g, cap, cur, hv, hB, hblk, r⟩⟩
 ·exact ⟨hl, Or.inl h⟩
 ·exact ⟨hl, Or.inr ⟨g, cap, cur, hv, hB, hk.2 g cur _ (Or.inl rfl) hblk, r⟩⟩
/-- A slice of places of one's own, read. -/
theorem hold3 {W : World} {B : Nat} {v : Value} {ys : List P3} (h : Own3 W B v ys) : ∃ a cap, v = .slice a ys.length cap ∧ (∀ i x, ys[i]? = some x → ∃ g, a = some ⟨g, 0, none⟩ ∧ g < W.heap.size ∧ W.cell? ⟨g, i * 3, none⟩ = some (.int .i64 x.1) ∧ W.cell? ⟨g, i * 3 + 1, none⟩ = some (.int .i64 x.2.1) ∧ W.cell? ⟨g, i * 3 + 2, none⟩ = some (.int .i64 x.2.2)) := by
 obtain ⟨hl, ⟨rfl, h0⟩ | ⟨g, cap, cur, rfl, hB, hblk, h1, h2, h3, h4⟩⟩ := h
 ·rw [h0]
  refine ⟨none, 0, rfl, fun i x hx => ?_⟩
  rw [List.eq_nil_of_length_eq_zero h0] at hx
  simp at hx
 ·refine ⟨_, cap, rfl, fun i x hx => ⟨g, rfl, (Array.getElem?_eq_some_iff.1 hblk).1, ?_⟩⟩
  have hi : i < ys.length := (List.getElem?_eq_some_iff.1 hx).1
  have hy : ys[i]! = x := by rw [List.getElem!_eq_getElem?_getD, hx]; rfl
  have hc : ∀ j, j < 3 → W.cell? ⟨g, i * 3 + j, none⟩ = (cells3 x)[j]? := by
   intro j hj
   rw [Joins.cell_of_block hblk, ← Array.getElem?_toList]
   have h5 : (cur.toList.take (ys.length * 3))[i * 3 + j]? = (flat3 ys)[i * 3 + j]? := by rw [h4]
   rw [List.getElem?_take_of_lt (by omega)] at h5
   rw [h5, flat3_get ys _ (by omega)]
   have e1 : (i * 3 + j) / 3 = i := by omega
   have e2 : (i * 3 + j) % 3 = j := by omega
   rw [e1, e2, hy]
  exact ⟨hc 0 (by omega), hc 1 (by omega), hc 2 (by omega)⟩
theorem ents_at {V : Type} {z : V} {m : P3 → Option V} {ss : List P3} {i : Nat} {x : P3} (h : ss[i]? = some x) : (ss.take (i + 1)).map (fun q => (q, (m q).getD z)) = (ss.take i).map (fun q => (q, (m q).getD z)) ++ [(x, (m x).getD z)] := by
 rw [List.take_add_one, h]; simp
set_option maxRecDepth 100000 in
set_option maxHeartbeats 4000000 in
theorem inord_in (n : Nat) (hn : 8 ≤ n) (lb0 Bm b nn : Nat) {V : Type} (ev : V → Value) (m : P3 → Option V) (z : V) (hz : ∀ u : World, (zeroValue 96).run Tryz.prog u = .ok (ev z) u) (J Jx : List (P3 × V) → World → Prop) (PX : P3 × V → Prop) (hPX : ∀ q, ok3 q → ∀ a, m q = some a → PX (q, a))
  (hY : ∀ pre x W, PX x → J pre W → pre.length < nn → YieldAt Fence.wide (n - 1) Tryz.prog lb0 #[.agg #[.int .i64 x.1.1, .int .i64 x.1.2.1, .int .i64 x.1.2.2], ev x.2] W fun e W' =>
   (e = .returned (.bool true) ∧ J (pre ++ [x]) W' ∧ KpO W W') ∨ (e = .returned (.bool false) ∧ Jx (pre ++ [x]) W'))
  (W : World) (hJ : AbidesFrom W.heap.size J) (hnn : nn ≤ 1048577) (hm : W.heap[Bm]? = some (.cells #[.map (some b)] 58 (0, 0))) (hown : OwnsV W b nn (fun q => (m q).map ev)) (h0 : J [] W) :
  CallsIn Fence.wide n Tryz.prog 84 #[.func (.yield lb0) #[] #[], .pointer (some ⟨Bm, 0, none⟩)] W fun e W' => (∃ v, e = .returned v) ∧
   ((∃ ys, InOrd z m ys ∧ J ys W') ∨ (∃ pre, True ∧ Jx pre W')) := by
 have hBm : Bm < W.heap.size := (Array.getElem?_eq_some_iff.1 hm).1
 have hmc : W.cell? ⟨Bm, 0, none⟩ = some (.map (some b)) := Joins.cell_of_block hm 0
 obtain ⟨D0, hD0, hD1⟩ := hown
 have hOV : OwnsV W b nn (fun q => (m q).map ev) := ⟨D0, hD0, hD1⟩
 have hsz : Maps.size D0 ≤ nn := hD0.size_le
 have hb1 : Below W.heap.size W (W.alloc (.cells #[.map (some b)] 58)) := bel_one _ _
 have hD0' : (W.alloc (.cells #[.map (some b)] 58)).ownsMap Tryz.prog 98 rdV b nn D0 := hD0.kept ⟨hb1.os, hb1.tape, hb1.output, hb1.size, fun k hk _ => hb1.block k hk⟩ (row := none) (by simp)
 have hseq := keysT_stops 5 (by omega) W.heap.size b nn D0 (W.alloc (.cells #[.map (some b)] 58)) (by simp) (by simp [go_sem]) hD0'
 refine callsIn_of_wp Tryz.func84 rfl trivial ?_ rfl
 simp only [Tryz.ntmps84, List.size_toArray, List.length_cons, List.length_nil, Nat.reduceAdd, Nat.reduceSub, Array.replicate_succ, Array.replicate_zero, List.push_toArray, List.append_toArray, List.nil_append, List.cons_append]
 gi_wp2_with (first
  | (refine ⟨trivial, fun _ => (by omega), ?_⟩; gi_at_call 86; refine (callsIn_wide.2 (keysT_any b _)).mono ?_; rintro e' w1 ⟨rfl, hw1⟩; subst hw1)
  | (refine ⟨trivial, fun _ => (by omega), ?_⟩; gi_at_call 85; refine (callsIn_wide.2 (sorted3 _ _ (enters_of Tryz.func97 (by kernel_rfl) rfl) _ _ (Maps.size D0) (by omega) _ hseq)).mono ?_; rintro e' w2 ⟨vs, ss, rfl, hKA, hsl, hO3, hb2⟩; obtain ⟨aa, cs, rfl, _⟩ := hold3 hO3))
 have hKO : KeysOf m ss := by
  obtain ⟨k1, k2⟩ := CollO.all hKA some3 hD1 (fun _ => rfl)
  exact ⟨k1, fun q => by rw [k2 q]; simp⟩
 have hbW : Below W.heap.size W w2 := bel_trans hb1 hb2
 have hJ2 : J [] w2 := hJ [] W w2 none h0 (grown_of0 hbW) (fun r e => by cases e)
 have hm2 : w2.heap[Bm]? = some (.cells #[.map (some b)] 58 (0, 0)) := (hbW.block Bm hBm).trans hm
 have hO2 : OwnsV w2 b nn (fun q => (m q).map ev) := hOV.kp (KpO.of_bel hbW).1
 have hls : (srt3 ss).length ≤ nn := by rw [srt3_len]; omega
 have hok : ∀ x ∈ srt3 ss, ok3 x := fun x hx => ((hKO.2 x).1 ((srt3_perm ss).mem_iff.1 hx)).1
 have hsm : ∀ x ∈ srt3 ss, m x ≠ none := fun x hx => ((hKO.2 x).1 ((srt3_perm ss).mem_iff.1 hx)).2
 have HI : Hid (InOrd z m ((srt3 ss).map (fun q => (q, (m q).getD z)))) := hide ⟨ss, hKO, rfl⟩
 clear hKO hKA hsl hD0 hD1 hOV hD0' hseq hb1 hb2 h0 hm hmc hbW hsz
 generalize srt3 ss = ts at hls hok hsm HI hO3 ⊢
 gi_loopw [9] (fun iv wr => ∃ i : Nat, i ≤ ts.length ∧ iv = .int .i64 i ∧ Hid (J ((ts.take i).map (fun q => (q, (m q).getD z))) wr) ∧ Hid (wr.heap[Bm]? = some (.cells #[.map (some b)] 58 (0, 0))) ∧ Hid (OwnsV wr b nn (fun q => (m q).map ev)) ∧ Hid (Own3 wr (W.alloc (.cells #[.map (some b)] 58)).heap.size (.slice aa ts.length cs) ts)) (fun iv _ => ts.length - (intOf iv).toNat)
 case atStart => exact ⟨0, Nat.zero_le _, rfl, hide (by simpa using hJ2), hide hm2, hide hO2, hide hO3⟩
 case round =>
  clear hJ2 hm2 hO2 hO3
  obtain ⟨i, hil, rfl, hJs, hmr, hOr, h3r⟩ := hrel
  by_cases hlt : i < ts.length
  ·obtain ⟨x, hxk⟩ : ∃ x, ts[i]? = some x := ⟨_, List.getElem?_eq_getElem hlt⟩
   have hxo := hok x (List.mem_of_getElem? hxk)
   have hxm := hsm x (List.mem_of_getElem? hxk)
   obtain ⟨a', cs', e9, hcl⟩ := hold3 (unhide h3r)
   simp at e9
   obtain ⟨rfl, rfl⟩ := e9
   obtain ⟨g, rfl, hgl, c0, c1, c2⟩ := hcl i x hxk
   have HX := hide (ents_at (z := z) (m := m) hxk)
   clear hxk hcl
   obtain ⟨xa, xb, xc⟩ := x
   dsimp only at c0 c1 c2
   have hmc := Joins.cell_of_block (unhide hmr) 0
   have hBl : Bm < wr.heap.size := (Array.getElem?_eq_some_iff.1 (unhide hmr)).1
   have hbd : Below wr.heap.size wr (wr.alloc (.cells #[.int .i64 xa, .int .i64 xb, .int .i64 xc] 98)).drew := bel_drew (bel_one _ _)
   have hlk := ((unhide hOr).kp (KpO.of_bel hbd).1).look (hz _) (xa, xb, xc) hxo
   have hJd := hJ _ wr _ none (unhide hJs) (grown_of0 hbd) (fun r e => by cases e)
   obtain ⟨vv, hvv⟩ : ∃ vv, (m (xa, xb, xc)).getD z = vv := ⟨_, rfl⟩
   have hev : ((m (xa, xb, xc)).map ev).getD (ev z) = ev vv := by rw [← hvv]; cases m (xa, xb, xc) <;> rfl
   rw [hev] at hlk
   rw [hvv] at HX
   have hpx : PX ((xa, xb, xc), vv) := by
    refine hPX _ hxo _ ?_
    cases h9 : m (xa, xb, xc) with
    | none => exact absurd h9 hxm
    | some a9 => rw [h9] at hvv; simp at hvv; rw [hvv]
   clear hev
   obtain ⟨fn, tmps, assign, body, hy, hR⟩ := hY _ ((xa, xb, xc), vv) _ hpx hJd (by rw [List.length_map, List.length_take]; omega)
   dsimp only at hlk hy hR
   have hR2 : RoundIn Fence.wide (n - 1) Tryz.prog lb0 fn tmps assign body (wr.alloc (.cells #[.int .i64 xa, .int .i64 xb, .int .i64 xc] 98)).drew fun e W' => ∃ bb : Bool, e = .returned (.bool bb) ∧ Hid ((bb = true ∧ J ((ts.take i).map (fun q => (q, (m q).getD z)) ++ [((xa, xb, xc), vv)]) W' ∧ KpO (wr.alloc (.cells #[.int .i64 xa, .int .i64 xb, .int .i64 xc] 98)).drew W') ∨ (bb = false ∧ Jx ((ts.take i).map (fun q => (q, (m q).getD z)) ++ [((xa, xb, xc), vv)]) W')) := hR.mono (fun e W' h9 => by
    rcases h9 with ⟨rfl, h1, h2⟩ | ⟨rfl, h1⟩
    ·exact ⟨true, rfl, hide (.inl ⟨rfl, h1, h2⟩)⟩
    ·exact ⟨false, rfl, hide (.inr ⟨rfl, h1⟩)⟩)
   clear hR hvv hJd hbd
   gi_wp2
   gi_region_with (refine ⟨fun _ => (by omega), hR2.mono ?_⟩; rintro e' W3 ⟨bb, rfl, H3⟩)
   all_goals
    rcases unhide H3 with ⟨rfl, hJ3, hk3⟩ | ⟨rfl, hJx3⟩
    ·have hk4 : KpO wr W3 := (KpO.of_bel (bel_drew (bel_one _ _))).trans hk3
     have HJ : Hid (J ((ts.take (i + 1)).map (fun q => (q, (m q).getD z))) W3) := hide (by rw [unhide HX]; exact hJ3)
     have HM := hide (hk4.2 Bm _ _ (Or.inr rfl) (unhide hmr))
     have HO := hide ((unhide hOr).kp hk4.1)
     have H3r := hide (own3_kp (unhide h3r) hk4)
     clear hJs hmr hOr h3r hJ3 hk3 hk4 H3
     gi_wp2
     go_roundw
     case rel => exact ⟨i + 1, by omega, by go_num, HJ, HM, HO, H3r⟩
     case measure => simp [intOf]; omega
    ·clear hJs hmr hOr h3r H3
     gi_wp2
     refine bodyPost_ret (results_none rfl _ _ _) rfl ?_
     exact ⟨⟨_, rfl⟩, .inr ⟨_, trivial, hJx3⟩⟩
  ·gi_wp2
   go_end0
   exact ⟨⟨_, rfl⟩, .inl ⟨_, unhide HI, by have h9 := unhide hJs; rw [List.take_of_length_le (by omega)] at h9; exact h9⟩⟩
theorem lift_sub {α : Type} {p : α → Prop} (l : List {x : α // p x}) (x : α) (hx : p x) : (l ++ [(⟨x, hx⟩ : {x : α // p x})]).map (fun y => y.1) = l.map (fun y => y.1) ++ [x] := by rw [List.map_append]; rfl
/-- The same, told that each thing that comes is one of the map's. -/
theorem inordX_stops (n : Nat) (hn : 8 ≤ n) (Bm b nn : Nat) {V : Type} (ev : V → Value) (m : P3 → Option V) (z : V) (hz : ∀ u : World, (zeroValue 96).run Tryz.prog u = .ok (ev z) u) (PX : P3 × V → Prop) (hPX : ∀ q, ok3 q → ∀ a, m q = some a → PX (q, a)) (w : World) (hnn : nn ≤ 1048577) (hm : w.heap[Bm]? = some (.cells #[.map (some b)] 58 (0, 0))) (hown : OwnsV w b nn (fun q => (m q).map ev)) :
  SeqStopsK Fence.wide n Tryz.prog 84 #[.pointer (some ⟨Bm, 0, none⟩)] (fun x : {x : P3 × V // PX x} => #[.agg #[.int .i64 x.1.1.1, .int .i64 x.1.1.2.1, .int .i64 x.1.1.2.2], ev x.1.2]) KpO (fun ys => InOrd z m (ys.map (·.1))) (fun _ => True) nn w := fun l J Jx W hW hJ hJx hY h0 => by
 refine (inord_in n hn l Bm b nn ev m z hz (fun l9 W => ∃ l' : List {x : P3 × V // PX x}, l'.map (·.1) = l9 ∧ J l' W) (fun l9 W => ∃ l' : List {x : P3 × V // PX x}, l'.map (·.1) = l9 ∧ Jx l' W) PX hPX ?_ W ?_ hnn ((hW.block Bm (Array.getElem?_eq_some_iff.1 hm).1).trans hm) (hown.kp (KpO.of_bel hW).1) ⟨[], rfl, h0⟩).mono ?_
 ·rintro pre x W1 hx ⟨pre', rfl, hj⟩ hl
  obtain ⟨fn, tmps, assign, body, hy, hR⟩ := hY pre' ⟨x, hx⟩ W1 hj (by simpa using hl)
  refine ⟨fn, tmps, assign, body, hy, hR.mono ?_⟩
  rintro e9 W' (⟨rfl, h1, h2⟩ | ⟨rfl, h1⟩)
  ·exact .inl ⟨rfl, ⟨pre' ++ [⟨x, hx⟩], lift_sub _ _ _, h1⟩, h2⟩
  ·exact .inr ⟨rfl, ⟨pre' ++ [⟨x, hx⟩], lift_sub _ _ _, h1⟩⟩
 ·rintro s9 A B row ⟨l', e1, hj⟩ hg hr
  exact ⟨l', e1, hJ l' A B row hj hg hr⟩
 ·rintro e9 W' ⟨hv, ⟨ys, hI, l', e1, hj⟩ | ⟨pre, _, l', e1, hj⟩⟩
  ·exact ⟨hv, .inl ⟨l', by show InOrd z m (l'.map (fun x => x.1)); rw [e1]; exact hI, hj⟩⟩
  ·exact ⟨hv, .inr ⟨l', trivial, hj⟩⟩
theorem inorder_any (mb : Nat) (w : World) : Calls Tryz.prog 55 #[.map (some mb)] w fun e w' => e = .returned (.func (.func 84) #[] #[.pointer (some ⟨w.heap.size, 0, none⟩)]) ∧ w' = w.alloc (.cells #[.map (some mb)] 58) := by
 go_enter Tryz.func55, Tryz.ntmps55
 go_wp2
 go_ret
 exact ⟨rfl, rfl⟩
end Go.Proofs.YtflignpbboiahaaGreat
namespace Go.Proofs.YtflignpbboiahaaGreat
open Go.ChangeShapes Go.WideShapes Go.ChangeAt Go.RowKit
theorem hd_13_13 {b0 b1 a0 a1 a2 a3 a4 a5 a6 a7 a8 a9 a10 a11 a12 c0 c1 c2 c3 c4 c5 c6 c7 c8 c9 c10 c11 c12 : Nat} {k0 k1 k2 k3 k4 k5 k6 k7 k8 k9 k10 k11 k12 l0 l1 l2 l3 l4 l5 l6 l7 l8 l9 l10 l11 l12 : Value} {W W' : World} (h : ((W.cell? ⟨b0, a0, none⟩ = some k0 ∧ W.cell? ⟨b0, a1, none⟩ = some k1 ∧ W.cell? ⟨b0, a2, none⟩ = some k2 ∧ W.cell? ⟨b0, a3, none⟩ = some k3 ∧ W.cell? ⟨b0, a4, none⟩ = some k4 ∧ W.cell? ⟨b0, a5, none⟩ = some k5 ∧ W.cell? ⟨b0, a6, none⟩ = some k6 ∧ W.cell? ⟨b0, a7, none⟩ = some k7 ∧ W.cell? ⟨b0, a8, none⟩ = some k8 ∧ W.cell? ⟨b0, a9, none⟩ = some k9 ∧ W.cell? ⟨b0, a10, none⟩ = some k10 ∧ W.cell? ⟨b0, a11, none⟩ = some k11 ∧ W.cell? ⟨b0, a12, none⟩ = some k12 ∧ W.cell? ⟨b1, c0, none⟩ = some l0 ∧ W.cell? ⟨b1, c1, none⟩ = some l1 ∧ W.cell? ⟨b1, c2, none⟩ = some l2 ∧ W.cell? ⟨b1, c3, none⟩ = some l3 ∧ W.cell? ⟨b1, c4, none⟩ = some l4 ∧ W.cell? ⟨b1, c5, none⟩ = some l5 ∧ W.cell? ⟨b1, c6, none⟩ = some l6 ∧ W.cell? ⟨b1, c7, none⟩ = some l7 ∧ W.cell? ⟨b1, c8, none⟩ = some l8 ∧ W.cell? ⟨b1, c9, none⟩ = some l9 ∧ W.cell? ⟨b1, c10, none⟩ = some l10 ∧ W.cell? ⟨b1, c11, none⟩ = some l11 ∧ W.cell? ⟨b1, c12, none⟩ = some l12) ∧ b0 < W.heap.size ∧ b1 < W.heap.size)) (hb : Below W.heap.size W W') : ((W'.cell? ⟨b0, a0, none⟩ = some k0 ∧ W'.cell? ⟨b0, a1, none⟩ = some k1 ∧ W'.cell? ⟨b0, a2, none⟩ = some k2 ∧ W'.cell? ⟨b0, a3, none⟩ = some k3 ∧ W'.cell? ⟨b0, a4, none⟩ = some k4 ∧ W'.cell? ⟨b0, a5, none⟩ = some k5 ∧ W'.cell? ⟨b0, a6, none⟩ = some k6 ∧ W'.cell? ⟨b0, a7, none⟩ = some k7 ∧ W'.cell? ⟨b0, a8, none⟩ = some k8 ∧ W'.cell? ⟨b0, a9, none⟩ = some k9 ∧ W'.cell? ⟨b0, a10, none⟩ = some k10 ∧ W'.cell? ⟨b0, a11, none⟩ = some k11 ∧ W'.cell? ⟨b0, a12, none⟩ = some k12 ∧ W'.cell? ⟨b1, c0, none⟩ = some l0 ∧ W'.cell? ⟨b1, c1, none⟩ = some l1 ∧ W'.cell? ⟨b1, c2, none⟩ = some l2 ∧ W'.cell? ⟨b1, c3, none⟩ = some l3 ∧ W'.cell? ⟨b1, c4, none⟩ = some l4 ∧ W'.cell? ⟨b1, c5, none⟩ = some l5 ∧ W'.cell? ⟨b1, c6, none⟩ = some l6 ∧ W'.cell? ⟨b1, c7, none⟩ = some l7 ∧ W'.cell? ⟨b1, c8, none⟩ = some l8 ∧ W'.cell? ⟨b1, c9, none⟩ = some l9 ∧ W'.cell? ⟨b1, c10, none⟩ = some l10 ∧ W'.cell? ⟨b1, c11, none⟩ = some l11 ∧ W'.cell? ⟨b1, c12, none⟩ = some l12) ∧ b0 < W'.heap.size ∧ b1 < W'.heap.size) := by
 obtain ⟨h99, s0, s1⟩ := h
 have e0 : ∀ z, W'.cell? ⟨b0, z, none⟩ = W.cell? ⟨b0, z, none⟩ := fun z => hb.cell s0
 have e1 : ∀ z, W'.cell? ⟨b1, z, none⟩ = W.cell? ⟨b1, z, none⟩ := fun z => hb.cell s1
 refine ⟨?_, Nat.lt_of_lt_of_le s0 hb.size, Nat.lt_of_lt_of_le s1 hb.size⟩
 simp only [e0, e1]
 exact h99
theorem hd_13_13_set {b0 b1 a0 a1 a2 a3 a4 a5 a6 a7 a8 a9 a10 a11 a12 c0 c1 c2 c3 c4 c5 c6 c7 c8 c9 c10 c11 c12 : Nat} {k0 k1 k2 k3 k4 k5 k6 k7 k8 k9 k10 k11 k12 l0 l1 l2 l3 l4 l5 l6 l7 l8 l9 l10 l11 l12 : Value} {W : World} {p : Addr} (h : ((W.cell? ⟨b0, a0, none⟩ = some k0 ∧ W.cell? ⟨b0, a1, none⟩ = some k1 ∧ W.cell? ⟨b0, a2, none⟩ = some k2 ∧ W.cell? ⟨b0, a3, none⟩ = some k3 ∧ W.cell? ⟨b0, a4, none⟩ = some k4 ∧ W.cell? ⟨b0, a5, none⟩ = some k5 ∧ W.cell? ⟨b0, a6, none⟩ = some k6 ∧ W.cell? ⟨b0, a7, none⟩ = some k7 ∧ W.cell? ⟨b0, a8, none⟩ = some k8 ∧ W.cell? ⟨b0, a9, none⟩ = some k9 ∧ W.cell? ⟨b0, a10, none⟩ = some k10 ∧ W.cell? ⟨b0, a11, none⟩ = some k11 ∧ W.cell? ⟨b0, a12, none⟩ = some k12 ∧ W.cell? ⟨b1, c0, none⟩ = some l0 ∧ W.cell? ⟨b1, c1, none⟩ = some l1 ∧ W.cell? ⟨b1, c2, none⟩ = some l2 ∧ W.cell? ⟨b1, c3, none⟩ = some l3 ∧ W.cell? ⟨b1, c4, none⟩ = some l4 ∧ W.cell? ⟨b1, c5, none⟩ = some l5 ∧ W.cell? ⟨b1, c6, none⟩ = some l6 ∧ W.cell? ⟨b1, c7, none⟩ = some l7 ∧ W.cell? ⟨b1, c8, none⟩ = some l8 ∧ W.cell? ⟨b1, c9, none⟩ = some l9 ∧ W.cell? ⟨b1, c10, none⟩ = some l10 ∧ W.cell? ⟨b1, c11, none⟩ = some l11 ∧ W.cell? ⟨b1, c12, none⟩ = some l12) ∧ b0 < W.heap.size ∧ b1 < W.heap.size)) (p0 : p.block ≠ b0) (p1 : p.block ≠ b1) (u : Value) : (((W.setCell p u).cell? ⟨b0, a0, none⟩ = some k0 ∧ (W.setCell p u).cell? ⟨b0, a1, none⟩ = some k1 ∧ (W.setCell p u).cell? ⟨b0, a2, none⟩ = some k2 ∧ (W.setCell p u).cell? ⟨b0, a3, none⟩ = some k3 ∧ (W.setCell p u).cell? ⟨b0, a4, none⟩ = some k4 ∧ (W.setCell p u).cell? ⟨b0, a5, none⟩ = some k5 ∧ (W.setCell p u).cell? ⟨b0, a6, none⟩ = some k6 ∧ (W.setCell p u).cell? ⟨b0, a7, none⟩ = some k7 ∧ (W.setCell p u).cell? ⟨b0, a8, none⟩ = some k8 ∧ (W.setCell p u).cell? ⟨b0, a9, none⟩ = some k9 ∧ (W.setCell p u).cell? ⟨b0, a10, none⟩ = some k10 ∧ (W.setCell p u).cell? ⟨b0, a11, none⟩ = some k11 ∧ (W.setCell p u).cell? ⟨b0, a12, none⟩ = some k12 ∧ (W.setCell p u).cell? ⟨b1, c0, none⟩ = some l0 ∧ (W.setCell p u).cell? ⟨b1, c1, none⟩ = some l1 ∧ (W.setCell p u).cell? ⟨b1, c2, none⟩ = some l2 ∧ (W.setCell p u).cell? ⟨b1, c3, none⟩ = some l3 ∧ (W.setCell p u).cell? ⟨b1, c4, none⟩ = some l4 ∧ (W.setCell p u).cell? ⟨b1, c5, none⟩ = some l5 ∧ (W.setCell p u).cell? ⟨b1, c6, none⟩ = some l6 ∧ (W.setCell p u).cell? ⟨b1, c7, none⟩ = some l7 ∧ (W.setCell p u).cell? ⟨b1, c8, none⟩ = some l8 ∧ (W.setCell p u).cell? ⟨b1, c9, none⟩ = some l9 ∧ (W.setCell p u).cell? ⟨b1, c10, none⟩ = some l10 ∧ (W.setCell p u).cell? ⟨b1, c11, none⟩ = some l11 ∧ (W.setCell p u).cell? ⟨b1, c12, none⟩ = some l12) ∧ b0 < (W.setCell p u).heap.size ∧ b1 < (W.setCell p u).heap.size) := by
 obtain ⟨h99, s0, s1⟩ := h
 have hb : W.heap.size ≤ (W.setCell p u).heap.size := by simp [World.setCell]
 have e0 : ∀ z, (W.setCell p u).cell? ⟨b0, z, none⟩ = W.cell? ⟨b0, z, none⟩ := fun z => cell_set_ne p0
 have e1 : ∀ z, (W.setCell p u).cell? ⟨b1, z, none⟩ = W.cell? ⟨b1, z, none⟩ := fun z => cell_set_ne p1
 refine ⟨?_, Nat.lt_of_lt_of_le s0 hb, Nat.lt_of_lt_of_le s1 hb⟩
 simp only [e0, e1]
 exact h99
theorem hd_13_13_re {b0 b1 a0 a1 a2 a3 a4 a5 a6 a7 a8 a9 a10 a11 a12 c0 c1 c2 c3 c4 c5 c6 c7 c8 c9 c10 c11 c12 : Nat} {k0 k1 k2 k3 k4 k5 k6 k7 k8 k9 k10 k11 k12 l0 l1 l2 l3 l4 l5 l6 l7 l8 l9 l10 l11 l12 : Value} {W : World} {o o' : Obj} (h : (((W.alloc o).cell? ⟨b0, a0, none⟩ = some k0 ∧ (W.alloc o).cell? ⟨b0, a1, none⟩ = some k1 ∧ (W.alloc o).cell? ⟨b0, a2, none⟩ = some k2 ∧ (W.alloc o).cell? ⟨b0, a3, none⟩ = some k3 ∧ (W.alloc o).cell? ⟨b0, a4, none⟩ = some k4 ∧ (W.alloc o).cell? ⟨b0, a5, none⟩ = some k5 ∧ (W.alloc o).cell? ⟨b0, a6, none⟩ = some k6 ∧ (W.alloc o).cell? ⟨b0, a7, none⟩ = some k7 ∧ (W.alloc o).cell? ⟨b0, a8, none⟩ = some k8 ∧ (W.alloc o).cell? ⟨b0, a9, none⟩ = some k9 ∧ (W.alloc o).cell? ⟨b0, a10, none⟩ = some k10 ∧ (W.alloc o).cell? ⟨b0, a11, none⟩ = some k11 ∧ (W.alloc o).cell? ⟨b0, a12, none⟩ = some k12 ∧ (W.alloc o).cell? ⟨b1, c0, none⟩ = some l0 ∧ (W.alloc o).cell? ⟨b1, c1, none⟩ = some l1 ∧ (W.alloc o).cell? ⟨b1, c2, none⟩ = some l2 ∧ (W.alloc o).cell? ⟨b1, c3, none⟩ = some l3 ∧ (W.alloc o).cell? ⟨b1, c4, none⟩ = some l4 ∧ (W.alloc o).cell? ⟨b1, c5, none⟩ = some l5 ∧ (W.alloc o).cell? ⟨b1, c6, none⟩ = some l6 ∧ (W.alloc o).cell? ⟨b1, c7, none⟩ = some l7 ∧ (W.alloc o).cell? ⟨b1, c8, none⟩ = some l8 ∧ (W.alloc o).cell? ⟨b1, c9, none⟩ = some l9 ∧ (W.alloc o).cell? ⟨b1, c10, none⟩ = some l10 ∧ (W.alloc o).cell? ⟨b1, c11, none⟩ = some l11 ∧ (W.alloc o).cell? ⟨b1, c12, none⟩ = some l12) ∧ b0 < (W.alloc o).heap.size ∧ b1 < (W.alloc o).heap.size)) (p0 : b0 < W.heap.size) (p1 : b1 < W.heap.size) : (((W.alloc o').cell? ⟨b0, a0, none⟩ = some k0 ∧ (W.alloc o').cell? ⟨b0, a1, none⟩ = some k1 ∧ (W.alloc o').cell? ⟨b0, a2, none⟩ = some k2 ∧ (W.alloc o').cell? ⟨b0, a3, none⟩ = some k3 ∧ (W.alloc o').cell? ⟨b0, a4, none⟩ = some k4 ∧ (W.alloc o').cell? ⟨b0, a5, none⟩ = some k5 ∧ (W.alloc o').cell? ⟨b0, a6, none⟩ = some k6 ∧ (W.alloc o').cell? ⟨b0, a7, none⟩ = some k7 ∧ (W.alloc o').cell? ⟨b0, a8, none⟩ = some k8 ∧ (W.alloc o').cell? ⟨b0, a9, none⟩ = some k9 ∧ (W.alloc o').cell? ⟨b0, a10, none⟩ = some k10 ∧ (W.alloc o').cell? ⟨b0, a11, none⟩ = some k11 ∧ (W.alloc o').cell? ⟨b0, a12, none⟩ = some k12 ∧ (W.alloc o').cell? ⟨b1, c0, none⟩ = some l0 ∧ (W.alloc o').cell? ⟨b1, c1, none⟩ = some l1 ∧ (W.alloc o').cell? ⟨b1, c2, none⟩ = some l2 ∧ (W.alloc o').cell? ⟨b1, c3, none⟩ = some l3 ∧ (W.alloc o').cell? ⟨b1, c4, none⟩ = some l4 ∧ (W.alloc o').cell? ⟨b1, c5, none⟩ = some l5 ∧ (W.alloc o').cell? ⟨b1, c6, none⟩ = some l6 ∧ (W.alloc o').cell? ⟨b1, c7, none⟩ = some l7 ∧ (W.alloc o').cell? ⟨b1, c8, none⟩ = some l8 ∧ (W.alloc o').cell? ⟨b1, c9, none⟩ = some l9 ∧ (W.alloc o').cell? ⟨b1, c10, none⟩ = some l10 ∧ (W.alloc o').cell? ⟨b1, c11, none⟩ = some l11 ∧ (W.alloc o').cell? ⟨b1, c12, none⟩ = some l12) ∧ b0 < (W.alloc o').heap.size ∧ b1 < (W.alloc o').heap.size) := by
 obtain ⟨h99, s0, s1⟩ := h
 have hb : Below W.heap.size (W.alloc o) (W.alloc o') := bel_re W o o'
 have e0 : ∀ z, (W.alloc o').cell? ⟨b0, z, none⟩ = (W.alloc o).cell? ⟨b0, z, none⟩ := fun z => hb.cell p0
 have e1 : ∀ z, (W.alloc o').cell? ⟨b1, z, none⟩ = (W.alloc o).cell? ⟨b1, z, none⟩ := fun z => hb.cell p1
 refine ⟨?_, Nat.lt_of_lt_of_le s0 hb.size, Nat.lt_of_lt_of_le s1 hb.size⟩
 simp only [e0, e1]
 exact h99
end Go.Proofs.YtflignpbboiahaaGreat
