/- Laid together: what the claim needs of the texts that were built one by one. -/
import Derived.ArgAppend
import Derived.Below
import Derived.BigQuiet
import Derived.Carry
import Derived.ChangeOld
import Derived.Deep.DeepCutAuto
import Derived.Deep.Fields
import Derived.Deep.Onto
import Derived.Deep.QuietTactic
import Derived.Deep.RegionHeld3
import Derived.Deep.Slices
import Derived.Laws.OwnMore
import Derived.Lib.SmallJoins
import Derived.Maps.AppendAt
import Derived.OpenShut
import Derived.OrdersHeld
import Derived.OwnWalk
import Derived.ProofKit
import Derived.ShutString
import Derived.Test.YtbjhpiannjepkaaGreatRows
import Derived.WalkKit
import Derived.WalkSpells
namespace Go.Proofs.YtbjhpiannjepkaaGreat
/- Short names for library rows. -/
theorem tA {α : Type _} {l : List α} {i : Nat} {a : α} : l.toArray.setIfInBounds i a = (l.set i a).toArray := List.setIfInBounds_toArray l i a
theorem tZ {α : Type _} {x a : α} {l : List α} : (x :: l).set 0 a = a :: l := rfl
theorem tS {α : Type _} {x a : α} {l : List α} {i : Nat} : (x :: l).set (i + 1) a = x :: l.set i a := rfl
theorem gA {α : Type _} {l : List α} {i : Nat} : l.toArray[i]? = l[i]? := List.getElem?_toArray
theorem gZ {α : Type _} {x : α} {l : List α} : (x :: l)[0]? = some x := rfl
theorem gS {α : Type _} {x : α} {l : List α} {i : Nat} : (x :: l)[i + 1]? = l[i]? := rfl
open Go.ChangeShapes Go.WideShapes Go.ChangeAt Go.RowKit
theorem kT {P : Program} {ops : Array Oper} {Q : Exit → Act → World → Prop} {md : Region.Mode} {S : World → Prop} (i : Nat) {oi : Oper} {fuel : Nat} {listed : Array Bool} {a : Act} {w : World} (v : Value) (y : ∀ w, S w → (execOp a.eval oi).run P w = .ok (.value v) w) (h : wpAnyH P md ops Q S fuel (listed.setIfInBounds i true) (a.put oi.dst v) w) (h1 : ops[i]? = some oi := by simp only [gA, gZ, gS]; rfl) (h2 : Region.noSelect ops = true := by kernel_rfl) (h3 : Region.free md ops listed i = true := by kernel_rfl) (h4 : (Region.ready md ops listed).contains i = true := by kernel_rfl) (h5 : ∀ c a w, Q (.panic c) (a.put oi.dst v) w → Q (.panic c) a w := by intro _ _ _ h; exact h) (h6 : Region.wanted oi (yielded ops a.tmps) = true := by rfl) (h7 : S w := by assumption) : wpAnyH P md ops Q S (fuel + 1) listed a w := wpAnyH_take h1 h2 h3 h4 h5 (Or.inl ⟨h6, y⟩) h7 h
theorem kU {P : Program} {ops : Array Oper} {Q : Exit → Act → World → Prop} {md : Region.Mode} {S : World → Prop} (i : Nat) {oi : Oper} {fuel : Nat} {listed : Array Bool} {a : Act} {w : World} (h : wpAnyH P md ops Q S fuel (listed.setIfInBounds i true) (a.put oi.dst undef) w) (h1 : ops[i]? = some oi := by simp only [gA, gZ, gS]; rfl) (h2 : Region.noSelect ops = true := by kernel_rfl) (h3 : Region.free md ops listed i = true := by kernel_rfl) (h4 : (Region.ready md ops listed).contains i = true := by kernel_rfl) (h5 : ∀ c a w, Q (.panic c) (a.put oi.dst undef) w → Q (.panic c) a w := by intro _ _ _ h; exact h) (h6 : Region.wanted oi (yielded ops a.tmps) = false := by rfl) (h7 : S w := by assumption) : wpAnyH P md ops Q S (fuel + 1) listed a w := wpAnyH_take (v := undef) h1 h2 h3 h4 h5 (Or.inr ⟨h6, rfl⟩) h7 h
theorem belA {B : Nat} {w W : World} (h : Below B w W := by repeat (first | (with_reducible exact Below.refl _ _) | (with_reducible assumption) | (with_reducible refine bel_set ?_ (by first | (simp; done) | (simp; omega)) _) | (with_reducible refine bel_alloc ?_ _) | (with_reducible refine bel_drew ?_) | (with_reducible refine bel_drewN ?_ _) | (with_reducible refine bel_trans ?_ (by with_reducible assumption)))) : Below B w W := h
theorem belB {B : Nat} {w W : World} (h : Below B w W := by repeat (first | (with_reducible refine bel_set ?_ (by first | (simp; done) | (simp; omega)) _) | (with_reducible refine bel_alloc ?_ _) | (with_reducible exact Below.refl _ _) | (with_reducible assumption) | (with_reducible refine bel_drew ?_) | (with_reducible refine bel_drewN ?_ _) | (with_reducible refine bel_trans ?_ (by with_reducible assumption)))) : Below B w W := h
theorem belC {B : Nat} {w W : World} (h : Below B w W := by repeat (first | exact Below.refl _ _ | exact bel_one _ _ | assumption | refine bel_alloc ?_ _ | refine bel_set ?_ (by first | (simp; done) | (simp; omega)) _ | refine bel_drew ?_ | refine bel_drewN ?_ _ | refine bel_trans ?_ (by assumption))) : Below B w W := h
theorem sA {p : Prop} (h : p := by first | (simp; done) | (simp; omega)) : p := h
theorem sB {p : Prop} (h : p := by first | omega | (simp; done) | (simp; omega)) : p := h
theorem sC {p : Prop} (h : p := by first | (simp; done) | (simp; omega) | omega) : p := h
end Go.Proofs.YtbjhpiannjepkaaGreat
namespace Go.Proofs.YtbjhpiannjepkaaGreat
open Go.ChangeShapes Go.WideShapes Go.ChangeAt Go.RowKit Go.Deep
set_option linter.unusedVariables false

theorem bnd64 {z : Int} (h : (Lit.int .i64 z).wf = true) : -9223372036854775808 ≤ z ∧ z ≤ 9223372036854775807 := by
  have := bounds_i64 h; omega

theorem bel_trans {w w1 w2 : World} (h : Below w.heap.size w w1) (k : Below w1.heap.size w1 w2) : Below w.heap.size w w2 := h.trans (k.mono h.size)

theorem bel_alloc {w w1 : World} (h : Below w.heap.size w w1) (o : Obj) : Below w.heap.size w (w1.alloc o) := h.alloc h.size o

theorem bel_drew {w w1 : World} (h : Below w.heap.size w w1) : Below w.heap.size w w1.drew := h.drew

theorem bel_drewN {w w1 : World} (h : Below w.heap.size w w1) (n : Nat) : Below w.heap.size w (w1.drewN n) := h.trans ⟨rfl, rfl, rfl, Nat.le_refl _, fun _ _ => rfl⟩

theorem bel_set {w w1 : World} {p : Addr} (h : Below w.heap.size w w1) (hp : w.heap.size ≤ p.block) (u : Value) : Below w.heap.size w (w1.setCell p u) := h.setCell hp u

theorem bel_re (W : World) (o o' : Obj) : Below W.heap.size (W.alloc o) (W.alloc o') := ⟨rfl, rfl, rfl, by simp, fun k hk => by rw [Below.heap_alloc _ _ _ hk, Below.heap_alloc _ _ _ hk]⟩

theorem cell_set_ne {W : World} {p : Addr} {u : Value} {b o : Nat} (h : p.block ≠ b) : (W.setCell p u).cell? ⟨b, o, none⟩ = W.cell? ⟨b, o, none⟩ := World.cell?_of_block (w := W) (Below.heap_setCell _ _ _ _ (fun e => h e.symm))

theorem bel_one (w : World) (o : Obj) : Below w.heap.size w (w.alloc o) := bel_alloc (Below.refl _ _) o

theorem bcell {W w1 : World} (hb : Below W.heap.size W w1) : (∀ b o, b < W.heap.size → w1.cell? ⟨b, o, none⟩ = W.cell? ⟨b, o, none⟩) ∧ (∀ b o, b < W.heap.size → w1.frozen? ⟨b, o, none⟩ = W.frozen? ⟨b, o, none⟩) ∧ (∀ b, b < W.heap.size → b < w1.heap.size) :=
  ⟨fun b o h => hb.cell (p := ⟨b, o, none⟩) h, fun b o h => hb.frozen (p := ⟨b, o, none⟩) h, fun b h => Nat.lt_of_lt_of_le h hb.size⟩

theorem hide {p : Prop} (h : p) : Hid p := h

theorem unhide {p : Prop} (h : Hid p) : p := h

theorem ret_i {a b : Int} (h : a = b) : Ending.returned (.int .i64 a) = .returned (.int .i64 b) := by rw [h]

theorem ret_b {a b : Bool} (h : a = b) : Ending.returned (.bool a) = .returned (.bool b) := by rw [h]

/-- The lesser and the greater of two. -/
def loI (a c : Int) : Int := if c < a then c else a

theorem loI_a {a c : Int} (h : ¬ c < a) : loI a c = a := if_neg h

theorem loI_c {a c : Int} (h : c < a) : loI a c = c := if_pos h

/-- Whether a number is from least to most. -/
def inB (n a b : Int) : Bool := decide (a ≤ n ∧ n ≤ b)

theorem inB_tt {n a b : Int} (h1 : a ≤ n) (h2 : n ≤ b) : inB n a b = true := decide_eq_true ⟨h1, h2⟩

theorem inB_ff {n a b : Int} (h : n < a ∨ b < n) : inB n a b = false := decide_eq_false (by omega)

theorem inB_iff {n a b : Int} : inB n a b = true ↔ a ≤ n ∧ n ≤ b := by simp [inB]
end Go.Proofs.YtbjhpiannjepkaaGreat
namespace Go.Proofs.YtbjhpiannjepkaaGreat
open Go.ChangeShapes Go.WideShapes Go.ChangeAt Go.RowKit Go.Deep
set_option linter.unusedVariables false

/-- The cells of a list of fields, from a place on: false for an int, true for a bool. -/
def flatFs (P : Program) (rec : TypeId → Option (List Bool)) : List Field → Nat → Option (List Bool)
  | [], _ => some []
  | f :: r, off => match rec f.type with
    | some ks => if f.offset = off ∧ P.cellsOf f.type = ks.length then
        match flatFs P rec r (off + ks.length) with
        | some rest => some (ks ++ rest)
        | none => none
      else none
    | none => none

def flatK (P : Program) : Nat → TypeId → Option (List Bool)
  | 0, _ => none
  | n + 1, t => match P.underlying t with
    | some (.int .i64) => some [false]
    | some .bool => some [true]
    | some (.struct fs) => match flatFs P (flatK P n) fs.toList 0 with
      | some ks => if P.cellsOf t = ks.length then some ks else none
      | none => none
    | _ => none

/-- Cells that are ints and bools, as asked. -/
def Fits : List Value → List Bool → Prop
  | [], [] => True
  | v :: vs, b :: bs => (if b = true then ∃ x, v = .bool x else ∃ z, v = .int .i64 z ∧ (Lit.int .i64 z).wf = true) ∧ Fits vs bs
  | _, _ => False

theorem Fits.len {vs : List Value} {bs : List Bool} (h : Fits vs bs) : vs.length = bs.length := by
  induction vs generalizing bs with
  | nil => cases bs with
    | nil => rfl
    | cons b bs => exact h.elim
  | cons v vs ih => cases bs with
    | nil => exact h.elim
    | cons b bs => simp [ih h.2]

theorem Fits.app {vs us : List Value} {bs cs : List Bool} (h : Fits vs bs) (k : Fits us cs) : Fits (vs ++ us) (bs ++ cs) := by
  induction vs generalizing bs with
  | nil => cases bs with
    | nil => exact k
    | cons b bs => exact h.elim
  | cons v vs ih => cases bs with
    | nil => exact h.elim
    | cons b bs => exact ⟨h.1, ih h.2⟩

theorem fits_int {cs : List Value} {bs : List Bool} (h : Fits cs (false :: bs)) : ∃ z r, cs = .int .i64 z :: r ∧ (Lit.int .i64 z).wf = true ∧ Fits r bs := by
  cases cs with
  | nil => exact h.elim
  | cons v vs =>
    obtain ⟨h1, h2⟩ := h
    obtain ⟨z, rfl, hz⟩ : ∃ z, v = .int .i64 z ∧ (Lit.int .i64 z).wf = true := by simpa using h1
    exact ⟨z, vs, rfl, hz, h2⟩

theorem fits_bool {cs : List Value} {bs : List Bool} (h : Fits cs (true :: bs)) : ∃ z r, cs = .bool z :: r ∧ Fits r bs := by
  cases cs with
  | nil => exact h.elim
  | cons v vs =>
    obtain ⟨h1, h2⟩ := h
    obtain ⟨z, rfl⟩ : ∃ z, v = .bool z := by simpa using h1
    exact ⟨z, vs, rfl, h2⟩

theorem fits_nil {cs : List Value} (h : Fits cs []) : cs = [] := by
  cases cs with
  | nil => rfl
  | cons v vs => exact h.elim

section
variable {H : Type} {enc : TypeId × Value → H} {P : Program} {w : World} {base : Nat} {spare : Nat → Bool} {held : Bool}

theorem fits_fs {rec : TypeId → Option (List Bool)} {cs : List Value} (l : List Field) (off : Nat) (ks : List Bool)
    (hr : ∀ f ∈ l, ∀ k, rec f.type = some k → Fits ((cs.drop f.offset).take (P.cellsOf f.type)) k)
    (h : flatFs P rec l off = some ks) : Fits ((cs.drop off).take ks.length) ks := by
  induction l generalizing off ks with
  | nil => simp only [flatFs, Option.some.injEq] at h; subst h; simp [Fits]
  | cons f r ih =>
    simp only [flatFs] at h
    split at h
    · rename_i k hk
      split at h
      · rename_i hc
        split at h
        · rename_i rest hrest
          simp only [Option.some.injEq] at h
          subst h
          have h1 := hr f (by simp) k hk
          rw [hc.1, hc.2] at h1
          have h2 := ih (off + k.length) rest (fun g hg => hr g (by simp [hg])) hrest
          have e : (cs.drop off).take (k ++ rest).length = (cs.drop off).take k.length ++ (cs.drop (off + k.length)).take rest.length := by
            rw [List.length_append, List.take_add, List.drop_drop]
          rw [e]
          exact h1.app h2
        · cases h
      · cases h
    · cases h

theorem fits_trod (n : Nat) : ∀ {t : TypeId} {fuel : Nat} {cs : List Value} {x : DataW H × List MemPlace} {ks : List Bool},
    flatK P n t = some ks → DataW.trod enc P w base spare held fuel t cs = some x → Fits cs ks := by
  induction n with
  | zero => intro t fuel cs x ks h; cases h
  | succ n ih =>
    intro t fuel cs x ks h ht
    simp only [flatK] at h
    split at h
    · rename_i hu
      simp only [Option.some.injEq] at h
      subst h
      obtain ⟨z, rfl, _, hz⟩ := DataW.trod_int hu ht
      exact ⟨by simpa using hz, trivial⟩
    · rename_i hu
      simp only [Option.some.injEq] at h
      subst h
      obtain ⟨z, rfl, _⟩ := DataW.trod_bool hu ht
      exact ⟨by simp, trivial⟩
    · rename_i fs hu
      split at h
      · rename_i ks' hk
        split at h
        · rename_i hc
          simp only [Option.some.injEq] at h
          subst h
          obtain ⟨xs, m, _, _, hl, hlen, hf⟩ := DataW.trod_struct hu ht
          have := fits_fs (P := P) (cs := cs) fs.toList 0 _ (fun f hf' k hk' => by
            obtain ⟨i, hi, hfi⟩ := List.getElem_of_mem hf'
            have hfi' : fs[i]? = some f := by rw [← hfi]; simp [Array.getElem?_eq_getElem (by simpa using hi)]
            have h5 := hf i f hfi'
            rw [List.getElem?_eq_getElem (by rw [hlen]; simpa using hi)] at h5
            exact ih hk' h5) hk
          rw [List.drop_zero, List.take_of_length_le (by omega)] at this
          exact this
        · cases h
      · cases h
    · cases h

theorem open_flat {r : Reach} {b0 : Nat} {t : TypeId} {fs : Array Field} {v : Value} {d : DataW H} {p : List MemPlace} {ks : List Bool}
    (n : Nat) (hs : P.underlying t = some (.struct fs)) (hk : flatK P n t = some ks)
    (hv : Value.okWide P w r b0 t v) (h : DataW.Trod enc P w base spare held t v d p) : ∃ cs, v = .agg cs.toArray ∧ Fits cs ks := by
  obtain ⟨cs, rfl, hsz⟩ := okWide_struct hs hv
  obtain ⟨fuel, hf⟩ := h
  refine ⟨cs.toList, by simp, ?_⟩
  have := fits_trod n hk hf
  simpa [Value.cells] using this
end
end Go.Proofs.YtbjhpiannjepkaaGreat
namespace Go.Proofs.YtbjhpiannjepkaaGreat
open Go.ChangeShapes Go.WideShapes Go.ChangeAt Go.RowKit Go.Deep
set_option linter.unusedVariables false

section
variable {H : Type} {enc : TypeId × Value → H} {P : Program} {w : World} {base : Nat} {spare : Nat → Bool} {held : Bool}

theorem slice_shape {t e : TypeId} {fuel : Nat} {cs : List Value} {x : DataW H × List MemPlace} (ht : P.underlying t = some (.slice e)) (h : DataW.trod enc P w base spare held fuel t cs = some x) : ∃ a len cap, cs = [.slice a len cap] := by
  rcases open_slice ht h with ⟨hcs, _⟩ | ⟨a', len', cap', m, n, D, Pl, hcs, _⟩
  · exact ⟨_, _, _, hcs⟩
  · exact ⟨_, _, _, hcs⟩

theorem open_st {r : Reach} {b0 : Nat} {t t1 e : TypeId} {fs : Array Field} {v : Value} {d : DataW H} {p : List MemPlace}
    (hs : P.underlying t = some (.struct fs)) (hC : P.cellsOf t = 2)
    (h0 : (fs[0]?).map (fun f => (f.offset, P.underlying f.type, P.cellsOf f.type)) = some (0, some (.int .i64), 1))
    (h1 : (fs[1]?).map (fun f => (f.offset, f.type, P.cellsOf f.type)) = some (1, t1, 1))
    (ht : P.underlying t1 = some (.slice e))
    (hv : Value.okWide P w r b0 t v) (h : DataW.Trod enc P w base spare held t v d p) :
    ∃ m a len cap d' p', v = .agg #[.int .i64 m, .slice a len cap] ∧ (Lit.int .i64 m).wf = true ∧ DataW.Trod enc P w base spare held t1 (.slice a len cap) d' p' := by
  obtain ⟨cs, rfl, hsz⟩ := okWide_struct hs hv
  obtain ⟨fuel, hf⟩ := h
  obtain ⟨xs, n, _, _, hl, hlen, hfs⟩ := DataW.trod_struct hs hf
  rw [hC] at hsz
  obtain ⟨f0, hf0, e0⟩ := Option.map_eq_some_iff.1 h0
  obtain ⟨f1, hf1, e1⟩ := Option.map_eq_some_iff.1 h1
  simp only [Prod.mk.injEq] at e0 e1
  have l0 : 0 < fs.size := (Array.getElem?_eq_some_iff.1 hf0).1
  have l1 : 1 < fs.size := (Array.getElem?_eq_some_iff.1 hf1).1
  have r0 := hfs 0 f0 hf0
  have r1 := hfs 1 f1 hf1
  rw [e0.1, e0.2.2, List.getElem?_eq_getElem (by omega)] at r0
  rw [e1.1, e1.2.2, e1.2.1, List.getElem?_eq_getElem (by omega)] at r1
  obtain ⟨z, hz, _, hw⟩ := DataW.trod_int e0.2.1 r0
  obtain ⟨a, len, cap, hc⟩ := slice_shape ht r1
  rw [hc] at r1
  have hcl : (Value.agg cs).cells = cs := by simp [Value.cells]
  rw [hcl] at hz hc
  have hcs : cs = #[.int .i64 z, .slice a len cap] := by
    obtain ⟨l⟩ := cs
    match l, hsz with
    | [u, v'], _ =>
      simp at hz hc
      rw [hz, hc]
  exact ⟨z, a, len, cap, _, _, by rw [hcs], hw, n, r1⟩
end
end Go.Proofs.YtbjhpiannjepkaaGreat
namespace Go.Proofs.YtbjhpiannjepkaaGreat
open Go.ChangeShapes Go.WideShapes Go.ChangeAt Go.RowKit Go.Deep
set_option linter.unusedVariables false

/-- What a cell is: an int, a bool, or a slice of a type. -/
inductive Kd where
  | i
  | b
  | s (t : TypeId)

/-- The cells of a list of fields, from a place on. -/
def flatTs (P : Program) (rec : TypeId → Option (List Kd)) : List Field → Nat → Option (List Kd)
  | [], _ => some []
  | f :: r, off => match rec f.type with
    | some ks => if f.offset = off ∧ P.cellsOf f.type = ks.length then
        match flatTs P rec r (off + ks.length) with
        | some rest => some (ks ++ rest)
        | none => none
      else none
    | none => none

def flatT (P : Program) : Nat → TypeId → Option (List Kd)
  | 0, _ => none
  | n + 1, t => match P.underlying t with
    | some (.int .i64) => some [.i]
    | some .bool => some [.b]
    | some (.slice _) => some [.s t]
    | some (.struct fs) => match flatTs P (flatT P n) fs.toList 0 with
      | some ks => if P.cellsOf t = ks.length then some ks else none
      | none => none
    | _ => none

section
variable {H : Type} {enc : TypeId × Value → H} {P : Program} {w : World} {base : Nat} {spare : Nat → Bool} {held : Bool}

/-- One cell is as asked. -/
def FitT (enc : TypeId × Value → H) (P : Program) (w : World) (base : Nat) (spare : Nat → Bool) (held : Bool) (v : Value) : Kd → Prop
  | .i => ∃ z, v = .int .i64 z ∧ (Lit.int .i64 z).wf = true
  | .b => ∃ x, v = .bool x
  | .s t => ∃ a len cap d p, v = .slice a len cap ∧ DataW.Trod enc P w base spare held t (.slice a len cap) d p
/-- Cells that are ints, bools and slices, as asked. -/
def FitsT (enc : TypeId × Value → H) (P : Program) (w : World) (base : Nat) (spare : Nat → Bool) (held : Bool) : List Value → List Kd → Prop
  | [], [] => True
  | v :: vs, k :: ks => FitT enc P w base spare held v k ∧ FitsT enc P w base spare held vs ks
  | _, _ => False

theorem FitsT.app {vs us : List Value} {bs cs : List Kd} (h : FitsT enc P w base spare held vs bs) (k : FitsT enc P w base spare held us cs) : FitsT enc P w base spare held (vs ++ us) (bs ++ cs) := by
  induction vs generalizing bs with
  | nil => cases bs with
    | nil => exact k
    | cons k1 bs => exact h.elim
  | cons v vs ih => cases bs with
    | nil => exact h.elim
    | cons k1 bs => exact ⟨h.1, ih h.2⟩
theorem fitT_i {cs : List Value} {bs : List Kd} (h : FitsT enc P w base spare held cs (.i :: bs)) : ∃ z r, cs = .int .i64 z :: r ∧ (Lit.int .i64 z).wf = true ∧ FitsT enc P w base spare held r bs := by
  cases cs with
  | nil => exact h.elim
  | cons v vs =>
    obtain ⟨⟨z, rfl, hz⟩, h2⟩ := h
    exact ⟨z, vs, rfl, hz, h2⟩
theorem fitT_b {cs : List Value} {bs : List Kd} (h : FitsT enc P w base spare held cs (.b :: bs)) : ∃ z r, cs = .bool z :: r ∧ FitsT enc P w base spare held r bs := by
  cases cs with
  | nil => exact h.elim
  | cons v vs =>
    obtain ⟨⟨z, rfl⟩, h2⟩ := h
    exact ⟨z, vs, rfl, h2⟩
theorem fitT_s {t : TypeId} {cs : List Value} {bs : List Kd} (h : FitsT enc P w base spare held cs (.s t :: bs)) : ∃ a len cap d p r, cs = .slice a len cap :: r ∧ DataW.Trod enc P w base spare held t (.slice a len cap) d p ∧ FitsT enc P w base spare held r bs := by
  cases cs with
  | nil => exact h.elim
  | cons v vs =>
    obtain ⟨⟨a, len, cap, d, p, rfl, ht⟩, h2⟩ := h
    exact ⟨a, len, cap, d, p, vs, rfl, ht, h2⟩
theorem fitT_nil {cs : List Value} (h : FitsT enc P w base spare held cs []) : cs = [] := by
  cases cs with
  | nil => rfl
  | cons v vs => exact h.elim

theorem fitsT_fs {rec : TypeId → Option (List Kd)} {cs : List Value} (l : List Field) (off : Nat) (ks : List Kd)
    (hr : ∀ f ∈ l, ∀ k, rec f.type = some k → FitsT enc P w base spare held ((cs.drop f.offset).take (P.cellsOf f.type)) k)
    (h : flatTs P rec l off = some ks) : FitsT enc P w base spare held ((cs.drop off).take ks.length) ks := by
  induction l generalizing off ks with
  | nil => simp only [flatTs, Option.some.injEq] at h; subst h; simp [FitsT]
  | cons f r ih =>
    simp only [flatTs] at h
    split at h
    · rename_i k hk
      split at h
      · rename_i hc
        split at h
        · rename_i rest hrest
          simp only [Option.some.injEq] at h
          subst h
          have h1 := hr f (by simp) k hk
          rw [hc.1, hc.2] at h1
          have h2 := ih (off + k.length) rest (fun g hg => hr g (by simp [hg])) hrest
          have e : (cs.drop off).take (k ++ rest).length = (cs.drop off).take k.length ++ (cs.drop (off + k.length)).take rest.length := by
            rw [List.length_append, List.take_add, List.drop_drop]
          rw [e]
          exact h1.app h2
        · cases h
      · cases h
    · cases h

theorem fitsT_trod (n : Nat) : ∀ {t : TypeId} {fuel : Nat} {cs : List Value} {x : DataW H × List MemPlace} {ks : List Kd},
    flatT P n t = some ks → DataW.trod enc P w base spare held fuel t cs = some x → FitsT enc P w base spare held cs ks := by
  induction n with
  | zero => intro t fuel cs x ks h; cases h
  | succ n ih =>
    intro t fuel cs x ks h ht
    simp only [flatT] at h
    split at h
    · rename_i hu
      simp only [Option.some.injEq] at h
      subst h
      obtain ⟨z, rfl, _, hz⟩ := DataW.trod_int hu ht
      exact ⟨⟨z, rfl, hz⟩, trivial⟩
    · rename_i hu
      simp only [Option.some.injEq] at h
      subst h
      obtain ⟨z, rfl, _⟩ := DataW.trod_bool hu ht
      exact ⟨⟨z, rfl⟩, trivial⟩
    · rename_i hu
      simp only [Option.some.injEq] at h
      subst h
      obtain ⟨a, len, cap, rfl⟩ := slice_shape hu ht
      exact ⟨⟨a, len, cap, x.1, x.2, rfl, fuel, by simpa [Value.cells] using ht⟩, trivial⟩
    · rename_i fs hu
      split at h
      · rename_i ks' hk
        split at h
        · rename_i hc
          simp only [Option.some.injEq] at h
          subst h
          obtain ⟨xs, m, _, _, hl, hlen, hf⟩ := DataW.trod_struct hu ht
          have := fitsT_fs (enc := enc) (w := w) (base := base) (spare := spare) (held := held) (P := P) (cs := cs) fs.toList 0 _ (fun f hf' k hk' => by
            obtain ⟨i, hi, hfi⟩ := List.getElem_of_mem hf'
            have hfi' : fs[i]? = some f := by rw [← hfi]; simp [Array.getElem?_eq_getElem (by simpa using hi)]
            have h5 := hf i f hfi'
            rw [List.getElem?_eq_getElem (by rw [hlen]; simpa using hi)] at h5
            exact ih hk' h5) hk
          rw [List.drop_zero, List.take_of_length_le (by omega)] at this
          exact this
        · cases h
      · cases h
    · cases h

theorem open_flatT {r : Reach} {b0 : Nat} {t : TypeId} {fs : Array Field} {v : Value} {d : DataW H} {p : List MemPlace} {ks : List Kd}
    (n : Nat) (hs : P.underlying t = some (.struct fs)) (hk : flatT P n t = some ks)
    (hv : Value.okWide P w r b0 t v) (h : DataW.Trod enc P w base spare held t v d p) : ∃ cs, v = .agg cs.toArray ∧ FitsT enc P w base spare held cs ks := by
  obtain ⟨cs, rfl, hsz⟩ := okWide_struct hs hv
  obtain ⟨fuel, hf⟩ := h
  refine ⟨cs.toList, by simp, ?_⟩
  have := fitsT_trod n hk hf
  simpa [Value.cells] using this
end
end Go.Proofs.YtbjhpiannjepkaaGreat
namespace Go.Proofs.YtbjhpiannjepkaaGreat
open Go.ChangeShapes Go.WideShapes Go.ChangeAt Go.RowKit
set_option linter.unusedVariables false

theorem cnt_set : ∀ (l : List Bool) (i : Nat), l[i]? = some false → (l.set i true).count false + 1 = l.count false
  | [], i, h => by simp at h
  | b :: l, 0, h => by
    simp at h
    subst h
    simp
  | b :: l, i + 1, h => by
    have h1 := cnt_set l i (by simpa using h)
    simp only [List.set_cons_succ, List.count_cons]
    omega

theorem cnt_zero {l : List Bool} (h : l.count false = 0) {i : Nat} (hi : l[i]? = some false) : False := by
  have := cnt_set l i hi
  omega

/-- All that a region's operations wait for stands ahead of them. -/
def waits : Nat → List Oper → Bool
  | _, [] => true
  | k, o :: os => o.after.all (fun e => !Region.binds .any e || decide (e.on < k)) && waits (k + 1) os

theorem waits_at : ∀ (l : List Oper) (k : Nat), waits k l = true → ∀ (i : Nat) (o : Oper), l[i]? = some o → ∀ e ∈ o.after, Region.binds .any e = true → e.on < k + i
  | [], k, _, i, o, h => by simp at h
  | x :: l, k, hw, 0, o, h => by
    simp only [waits, Bool.and_eq_true] at hw
    simp at h
    subst h
    intro e he hb
    have := Array.all_eq_true_iff_forall_mem.1 hw.1 e he
    rw [hb] at this
    simpa using this
  | x :: l, k, hw, i + 1, o, h => by
    simp only [waits, Bool.and_eq_true] at hw
    intro e he hb
    have := waits_at l (k + 1) hw.2 i o (by simpa using h) e he hb
    omega

/-- For each operation, with its number. -/
def EachOp (F : Nat → Oper → Prop) : Nat → List Oper → Prop
  | _, [] => True
  | k, o :: os => F k o ∧ EachOp F (k + 1) os

theorem eachOp_at {F : Nat → Oper → Prop} : ∀ (l : List Oper) (k : Nat), EachOp F k l → ∀ (i : Nat) (o : Oper), l[i]? = some o → F (k + i) o
  | [], k, _, i, o, h => by simp at h
  | x :: l, k, hF, 0, o, h => by
    simp at h
    subst h
    exact hF.1
  | x :: l, k, hF, i + 1, o, h => by
    have := eachOp_at l (k + 1) hF.2 i o (by simpa using h)
    rw [Nat.add_assoc, Nat.add_comm 1 i] at this
    exact this

/-- What is done, and one more. -/
def more (L : Nat → Bool) (i : Nat) : Nat → Bool := fun j => if j = i then true else L j

theorem more_self (L : Nat → Bool) (i : Nat) : more L i i = true := by simp [more]

theorem more_ne {L : Nat → Bool} {i j : Nat} (h : j ≠ i) : more L i j = L j := by simp [more, h]

section
variable {P : Program} {ops : List Oper} {Q : Exit → Act → World → Prop}
/-- One operation keeps the invariant, whenever it comes. -/
def Keeps1 (P : Program) (ops : List Oper) (Q : Exit → Act → World → Prop) (I : (Nat → Bool) → Act → World → Prop) (i : Nat) (o : Oper) : Prop := ∀ (L : Nat → Bool) (a : Act) (w : World), I L a w → L i = false → (∀ e ∈ o.after, Region.binds .any e = true → L e.on = true) → ∀ K' : Act → World → Prop, Shut (∀ a' w', I (more L i) a' w' → K' a' w') → if Region.wanted o (yielded ops.toArray a.tmps) = true then Oper.wp P o a w K' Q else K' (a.put o.dst undef) w
theorem wpAny_inv (I : (Nat → Bool) → Act → World → Prop) (step : ∀ i o, ops[i]? = some o → Keeps1 P ops Q I i o) (fin : ∀ L a w, I L a w → (∀ i, i < ops.length → L i = true) → Q .normal a w) (hw : waits 0 ops = true) :
    ∀ (fuel : Nat) (l : Array Bool) (L : Nat → Bool) (a : Act) (w : World), l.size = ops.length → (∀ i, i < ops.length → l[i]? = some (L i)) → l.toList.count false ≤ fuel → I L a w → wpAny P .any ops.toArray Q fuel l a w := by
  have key : ∀ (l : Array Bool) (L : Nat → Bool), l.size = ops.length → (∀ i, i < ops.length → l[i]? = some (L i)) → Region.ready .any ops.toArray l = [] → ∀ i, i < ops.length → L i = true := by
    intro l L hs hL hr i
    induction i using Nat.strongRecOn with
    | _ i ih =>
      intro hi
      cases hb : L i with
      | true => rfl
      | false =>
        have hm : i ∈ Region.ready .any ops.toArray l := by
          refine mem_ready.2 ⟨?_, ops[i], ?_, fun e he hb' => ?_⟩
          · rw [Array.getD_eq_getD_getElem?, hL i hi, hb]; rfl
          · simp [hi]
          · have hlt := waits_at ops 0 hw i ops[i] (by simp [hi]) e he hb'
            rw [Nat.zero_add] at hlt
            rw [Array.getD_eq_getD_getElem?, hL e.on (by omega), ih e.on hlt (by omega)]
            rfl
        rw [hr] at hm
        cases hm
  intro fuel
  induction fuel with
  | zero =>
    intro l L a w hs hL hc hI
    have hr : Region.ready .any ops.toArray l = [] := by
      cases hx : Region.ready .any ops.toArray l with
      | nil => rfl
      | cons i rs =>
        have hm : i ∈ Region.ready .any ops.toArray l := by rw [hx]; exact List.mem_cons_self
        obtain ⟨h1, o, ho, _⟩ := mem_ready.1 hm
        have hi : i < ops.length := by simpa using (Array.getElem?_eq_some_iff.1 ho).1
        rw [Array.getD_eq_getD_getElem?, hL i hi] at h1
        exact absurd (cnt_zero (i := i) (Nat.le_zero.1 hc) (by rw [Array.getElem?_toList, hL i hi]; simpa using h1)) (fun h => h)
    exact ⟨hr, fin L a w hI (key l L hs hL hr)⟩
  | succ fuel ih =>
    intro l L a w hs hL hc hI
    refine ⟨fun hr => fin L a w hI (key l L hs hL hr), fun i hi => ?_⟩
    obtain ⟨h1, o, ho, hall⟩ := mem_ready.1 hi
    have hlt : i < ops.length := by simpa using (Array.getElem?_eq_some_iff.1 ho).1
    rw [Array.getD_eq_getD_getElem?, hL i hlt] at h1
    have hLi : L i = false := by simpa using h1
    refine wpOp_step ho (fun K' hK => ?_)
    have hst := step i o (by simpa using ho)
    refine hst L a w hI hLi (fun e he hb => ?_) K' (fun a' w' hI' => hK a' w' ?_)
    · have := hall e he hb
      have hlt2 := waits_at ops 0 hw i o (by simpa using ho) e he hb
      rw [Nat.zero_add] at hlt2
      rw [Array.getD_eq_getD_getElem?, hL e.on (by omega)] at this
      simpa using this
    · refine ih _ (more L i) a' w' (by simpa using hs) (fun j hj => ?_) ?_ hI'
      · by_cases hji : j = i
        · subst hji
          rw [more_self, Array.getElem?_setIfInBounds]
          simp [hs, hlt]
        · rw [more_ne hji, Array.getElem?_setIfInBounds, if_neg (fun e => hji e.symm)]
          exact hL j hj
      · have h9 := cnt_set l.toList i (by rw [Array.getElem?_toList, hL i hlt, hLi])
        rw [Array.toList_setIfInBounds]
        omega
theorem wp_region_inv {id : Nat} {a : Act} {w : World} (hm : P.follows .mixedOrders = true) (hw : waits 0 ops = true) (I : (Nat → Bool) → Act → World → Prop) (h0 : I (fun _ => false) a w.drew) (step : EachOp (Keeps1 P ops Q I) 0 ops) (fin : ∀ L a w, I L a w → (∀ i, i < ops.length → L i = true) → Q .normal a w) : (Code.region id ops.toArray true).wp P Q a w := by
  refine wp_region_any hm (wpAny_inv I (fun i o ho => by have := eachOp_at ops 0 step i o ho; rw [Nat.zero_add] at this; exact this) fin hw ops.toArray.size _ (fun _ => false) a _ (by simp) (fun i hi => by simp [hi]) ?_ h0)
  simp
/-- For each operation but the last; and for the last one. -/
def EachOpL (F G : Nat → Oper → Prop) : Nat → List Oper → Prop
  | _, [] => True
  | k, [o] => G k o
  | k, o :: o' :: os => F k o ∧ EachOpL F G (k + 1) (o' :: os)
theorem eachOpL_at {F G : Nat → Oper → Prop} : ∀ (l : List Oper) (k : Nat), EachOpL F G k l → ∀ (i : Nat) (o : Oper), l[i]? = some o → (i + 1 < l.length → F (k + i) o) ∧ (i + 1 = l.length → G (k + i) o)
  | [], k, _, i, o, h => by simp at h
  | [x], k, hF, 0, o, h => by
    simp at h
    subst h
    exact ⟨fun h => by simp at h, fun _ => hF⟩
  | [x], k, hF, i + 1, o, h => by simp at h
  | x :: y :: l, k, hF, 0, o, h => by
    simp at h
    subst h
    exact ⟨fun _ => hF.1, fun h => by simp at h⟩
  | x :: y :: l, k, hF, i + 1, o, h => by
    have h9 := eachOpL_at (y :: l) (k + 1) hF.2 i o (by simpa using h)
    rw [Nat.add_assoc, Nat.add_comm 1 i] at h9
    refine ⟨fun hl => h9.1 ?_, fun hl => h9.2 ?_⟩
    · simp at hl ⊢; omega
    · simp at hl ⊢; omega
/-- The last operation waits for all others. -/
def lastWaits (ops : List Oper) : Bool := match ops.getLast? with
  | none => false
  | some o => (List.range (ops.length - 1)).all (fun j => o.after.any (fun e => e.on == j && Region.binds .any e))
/-- The last operation, when all others are done. -/
def Ends1 (P : Program) (ops : List Oper) (Q : Exit → Act → World → Prop) (I : (Nat → Bool) → Act → World → Prop) (i : Nat) (o : Oper) : Prop := ∀ (L : Nat → Bool) (a : Act) (w : World), I L a w → (∀ j, j < i → L j = true) → ∀ K' : Act → World → Prop, Shut (∀ a' w', Q .normal a' w' → K' a' w') → if Region.wanted o (yielded ops.toArray a.tmps) = true then Oper.wp P o a w K' Q else K' (a.put o.dst undef) w
theorem wp_region_last {id : Nat} {a : Act} {w : World} (hm : P.follows .mixedOrders = true) (hw : waits 0 ops = true) (hl : lastWaits ops = true) (I : (Nat → Bool) → Act → World → Prop) (h0 : I (fun _ => false) a w.drew) (step : EachOpL (Keeps1 P ops Q I) (Ends1 P ops Q I) 0 ops) : (Code.region id ops.toArray true).wp P Q a w := by
  have hne : ops ≠ [] := by
    intro h
    rw [h] at hl
    cases hl
  have hlen : 0 < ops.length := List.length_pos_iff.2 hne
  obtain ⟨lo, hlo⟩ : ∃ lo, ops.getLast? = some lo := ⟨_, List.getLast?_eq_some_getLast hne⟩
  have hat : ops[ops.length - 1]? = some lo := by rw [← List.getLast?_eq_getElem?]; exact hlo
  unfold lastWaits at hl
  rw [hlo] at hl
  have hedge : ∀ j, j < ops.length - 1 → ∃ e ∈ lo.after, e.on = j ∧ Region.binds .any e = true := by
    intro j hj
    have h1 := List.all_eq_true.1 hl j (List.mem_range.2 hj)
    simp at h1
    obtain ⟨i, hi, h2, h3⟩ := h1
    exact ⟨lo.after[i], Array.getElem_mem hi, h2, h3⟩
  refine wp_region_any hm (wpAny_inv (fun L a w => (L (ops.length - 1) = false ∧ I L a w) ∨ ((∀ j, j < ops.length → L j = true) ∧ Q .normal a w)) ?_ ?_ hw ops.toArray.size _ (fun _ => false) a _ (by simp) (fun i hi => by simp [hi]) ?_ (Or.inl ⟨rfl, h0⟩))
  · intro i o ho L a w hI hL hA K' hK
    have hi : i < ops.length := (List.getElem?_eq_some_iff.1 ho).1
    rcases hI with ⟨h1, hI⟩ | ⟨h1, _⟩
    · have h9 := eachOpL_at ops 0 step i o ho
      rw [Nat.zero_add] at h9
      by_cases hil : i + 1 = ops.length
      · obtain rfl : o = lo := by
          have : i = ops.length - 1 := by omega
          rw [this, hat] at ho
          exact (Option.some.inj ho).symm
        have hall : ∀ j, j < i → L j = true := by
          intro j hj
          obtain ⟨e, he, rfl, hb⟩ := hedge j (by omega)
          exact hA e he hb
        refine h9.2 hil L a w hI hall K' (fun a' w' hQ => hK.out a' w' (Or.inr ⟨fun j hj => ?_, hQ⟩))
        by_cases hji : j = i
        · subst hji; exact more_self L j
        · rw [more_ne hji]; exact hall j (by omega)
      · refine h9.1 (by omega) L a w hI hL hA K' (fun a' w' hI' => hK.out a' w' (Or.inl ⟨?_, hI'⟩))
        rw [more_ne (by omega)]
        exact h1
    · rw [h1 i hi] at hL
      cases hL
  · intro L a w hI hall
    rcases hI with ⟨h1, _⟩ | ⟨_, hQ⟩
    · rw [hall (ops.length - 1) (by omega)] at h1
      cases h1
    · exact hQ
  · simp
theorem more_of {Pd : Nat → Value → World → Prop} {V : Nat → Value} {L : Nat → Bool} {w w' : World} {i : Nat} {v : Value} (h : ∀ j, L j = true → Pd j (V j) w) (hst : ∀ j u, Pd j u w → Pd j u w') (hv : Pd i v w') : ∀ j, more L i j = true → Pd j (if j = i then v else V j) w' := by
  intro j hj
  by_cases hji : j = i
  · subst hji; rw [if_pos rfl]; exact hv
  · rw [if_neg hji]; rw [more_ne hji] at hj; exact hst j _ (h j hj)
end
end Go.Proofs.YtbjhpiannjepkaaGreat
namespace Go.Proofs.YtbjhpiannjepkaaGreat
open Go.ChangeShapes Go.WideShapes Go.ChangeAt Go.RowKit
set_option linter.unusedVariables false

/-- What is told of an operation: of all values, of its own blocks, of the world. -/
abbrev Gd := (Nat → Value) → (Nat → Prop) → World → Prop

def Gp (ps : List Gd) (j : Nat) : Gd := ps.getD j (fun _ _ _ => False)

def putV (V : Nat → Value) (i : Nat) (v : Value) : Nat → Value := fun j => if j = i then v else V j

def StE (dep : Nat → List Nat) (k : Nat) (q : Gd) : Prop := ∀ V V' D w w', V k = V' k → (∀ d ∈ dep k, V d = V' d) → Below w.heap.size w w' → (∀ b, D b → b < w.heap.size) → q V D w → q V' D w'

def AllG (dep : Nat → List Nat) : Nat → List Gd → Prop
  | _, [] => True
  | k, q :: qs => StE dep k q ∧ AllG dep (k + 1) qs

theorem allG_at {dep : Nat → List Nat} : ∀ (ps : List Gd) (k : Nat), AllG dep k ps → ∀ j, StE dep (k + j) (Gp ps j)
  | [], _, _, j => fun _ _ _ _ _ _ _ _ _ h => by simp [Gp] at h
  | q :: qs, k, h, 0 => h.1
  | q :: qs, k, h, j + 1 => by
    have h9 := allG_at qs (k + 1) h.2 j
    rw [show k + 1 + j = k + (j + 1) by omega] at h9
    exact h9

theorem st1 {dep : Nat → List Nat} {k : Nat} {q : Value → (Nat → Prop) → World → Prop} (hq : ∀ v D w w', Below w.heap.size w w' → q v D w → q v D w') : StE dep k (fun V D w => q (V k) D w) := fun V V' D w w' e _ hb _ h => by
  show q (V' k) D w'
  rw [← e]
  exact hq _ _ _ _ hb h

/-- The state of such a region. -/
structure Grow (w0 : World) (ps : List Gd) (dep : Nat → List Nat) (ex : Nat → Nat → Bool) (lit : (Nat → Value) → Array Value) (ds : List Deferred) (L : Nat → Bool) (ac : Act) (w : World) (V : Nat → Value) (D : Nat → Nat → Prop) : Prop where
  act : ac = ⟨lit V, ds⟩
  dn : ∀ j, L j = true → ∀ d ∈ dep j, L d = true
  hP : ∀ j, L j = true → Gp ps j V (D j) w
  dis : ∀ j k b, L j = true → L k = true → j ≠ k → ex j k = false → D j b → ¬ D k b
  rng : ∀ j b, L j = true → D j b → w0.heap.size ≤ b ∧ b < w.heap.size
  bel : Below w0.heap.size w0 w

def Growing (w0 : World) (ps : List Gd) (dep : Nat → List Nat) (ex : Nat → Nat → Bool) (lit : (Nat → Value) → Array Value) (ds : List Deferred) (L : Nat → Bool) (ac : Act) (w : World) : Prop := ∃ V D, Grow w0 ps dep ex lit ds L ac w V D

theorem more_true {L : Nat → Bool} {i j : Nat} (h : L j = true) : more L i j = true := by
  by_cases e : j = i
  · subst e; exact more_self _ _
  · rw [more_ne e]; exact h

theorem Grow.step {w0 : World} {ps : List Gd} {dep : Nat → List Nat} {ex : Nat → Nat → Bool} {lit : (Nat → Value) → Array Value} {ds : List Deferred} {L : Nat → Bool} {ac0 ac : Act} {w : World} {V : Nat → Value} {D : Nat → Nat → Prop} {i : Nat} (h : Grow w0 ps dep ex lit ds L ac0 w V D) (hst : AllG dep 0 ps) (hsym : ∀ j k, ex j k = ex k j) (hL : L i = false) (v : Value) (d : Nat → Prop) (w' : World) (hb : Below w.heap.size w w') (hdep : ∀ x ∈ dep i, L x = true) (hv : Gp ps i (putV V i v) d w') (hsrc : ∀ b, d b → (w.heap.size ≤ b ∧ b < w'.heap.size) ∨ ∃ j0, L j0 = true ∧ D j0 b ∧ ∀ k, k ≠ i → ex i k = false → k ≠ j0 ∧ ex j0 k = false) (ha : ac = ⟨lit (putV V i v), ds⟩) : Growing w0 ps dep ex lit ds (more L i) ac w' := by
  have one : ∀ k b, L k = true → k ≠ i → ex i k = false → d b → ¬ D k b := by
    intro k b hk hki he hd hDk
    rcases hsrc b hd with ⟨h1, _⟩ | ⟨j0, hj0, hD0, hx⟩
    · have := (h.rng k b hk hDk).2; omega
    · obtain ⟨h2, h3⟩ := hx k hki he
      exact h.dis j0 k b hj0 hk (fun e => h2 e.symm) h3 hD0 hDk
  have back : ∀ k, more L i k = true → k ≠ i → L k = true := fun k hk hki => by rw [more_ne hki] at hk; exact hk
  refine ⟨putV V i v, fun j => if j = i then d else D j, ha, ?_, ?_, ?_, ?_, h.bel.trans (hb.mono h.bel.size)⟩
  · intro j hj x hx
    by_cases hji : j = i
    · subst hji; exact more_true (hdep x hx)
    · exact more_true (h.dn j (back j hj hji) x hx)
  · intro j hj
    by_cases hji : j = i
    · subst hji
      simp only [if_true]
      exact hv
    · have hjL := back j hj hji
      simp only [if_neg hji]
      have h9 := allG_at ps 0 hst j
      rw [Nat.zero_add] at h9
      refine h9 V (putV V i v) (D j) w w' ?_ ?_ hb (fun b hb' => (h.rng j b hjL hb').2) (h.hP j hjL)
      · simp [putV, hji]
      · intro x hx
        have hxi : x ≠ i := fun e => by
          have := h.dn j hjL x hx
          rw [e, hL] at this
          cases this
        simp [putV, hxi]
  · intro j k b hj hk hjk he hDj hDk
    by_cases hji : j = i
    · subst hji
      have hkj : k ≠ j := fun e => hjk e.symm
      simp only [if_true] at hDj
      simp only [if_neg hkj] at hDk
      exact one k b (back k hk hkj) hkj he hDj hDk
    · simp only [if_neg hji] at hDj
      by_cases hki : k = i
      · subst hki
        simp only [if_true] at hDk
        exact one j b (back j hj hji) hji (by rw [hsym]; exact he) hDk hDj
      · simp only [if_neg hki] at hDk
        exact h.dis j k b (back j hj hji) (back k hk hki) hjk he hDj hDk
  · intro j b hj hDj
    by_cases hji : j = i
    · subst hji
      simp only [if_true] at hDj
      rcases hsrc b hDj with ⟨h1, h2⟩ | ⟨j0, hj0, hD0, _⟩
      · exact ⟨Nat.le_trans h.bel.size h1, h2⟩
      · have h9 := h.rng j0 b hj0 hD0
        exact ⟨h9.1, Nat.lt_of_lt_of_le h9.2 hb.size⟩
    · simp only [if_neg hji] at hDj
      have h9 := h.rng j b (back j hj hji) hDj
      exact ⟨h9.1, Nat.lt_of_lt_of_le h9.2 hb.size⟩

/-- An operation that leaves the world as it is. -/
theorem Grow.pure {w0 : World} {ps : List Gd} {dep : Nat → List Nat} {ex : Nat → Nat → Bool} {lit : (Nat → Value) → Array Value} {ds : List Deferred} {L : Nat → Bool} {ac0 ac : Act} {w : World} {V : Nat → Value} {D : Nat → Nat → Prop} {i : Nat} (h : Grow w0 ps dep ex lit ds L ac0 w V D) (hst : AllG dep 0 ps) (hsym : ∀ j k, ex j k = ex k j) (hL : L i = false) (v : Value) (hdep : ∀ x ∈ dep i, L x = true) (hv : Gp ps i (putV V i v) (fun _ => False) w) (ha : ac = ⟨lit (putV V i v), ds⟩) : Growing w0 ps dep ex lit ds (more L i) ac w :=
  h.step hst hsym hL v (fun _ => False) w (Below.refl _ _) hdep hv (fun _ hb => hb.elim) ha

/-- An empty slice that was made. -/
def GLit (ty : Nat) (v : Value) (D : Nat → Prop) (w : World) : Prop := ∃ g, v = .slice (some ⟨g, 0, none⟩) 0 0 ∧ D g ∧ w.heap[g]? = some (.cells #[] ty (0, 0))

theorem gst_lit (ty : Nat) : ∀ v D w w', Below w.heap.size w w' → GLit ty v D w → GLit ty v D w' := fun _ _ _ _ hb ⟨g, e, hD, h⟩ => ⟨g, e, hD, (hb.block g (Array.getElem?_eq_some_iff.1 h).1).trans h⟩

theorem own_upG {W W' : World} {B : Nat} {e : TypeId} {size n : Nat} {v : Value} {xs : List Value} (h : W.ownsRow B e size v n xs) (hb : Below W.heap.size W W') : W'.ownsRow B e size v n xs := by
  rcases h with ⟨hl, h | ⟨g, cap, cur, rfl, hB, hblk, r⟩⟩
  · exact ⟨hl, Or.inl h⟩
  · exact ⟨hl, Or.inr ⟨g, cap, cur, rfl, hB, (hb.block g (Array.getElem?_eq_some_iff.1 hblk).1).trans hblk, r⟩⟩

/-- A row of its own. -/
def GOwn (B ty size n : Nat) (xs : List Value) (v : Value) (D : Nat → Prop) (w : World) : Prop := w.ownsRow B ty size v n xs ∧ ∀ b, v.ownBlock = some b → D b

theorem gst_own (B ty size n : Nat) (xs : List Value) : ∀ v D w w', Below w.heap.size w w' → GOwn B ty size n xs v D w → GOwn B ty size n xs v D w' := fun _ _ _ _ hb h => ⟨own_upG h.1 hb, h.2⟩

def GIs (u v : Value) (D : Nat → Prop) (w : World) : Prop := v = u

theorem gst_is (u : Value) : ∀ v D w w', Below w.heap.size w w' → GIs u v D w → GIs u v D w' := fun _ _ _ _ _ h => h

/-- An append of a row to an empty slice that was made. -/
theorem step_append_lit {P : Program} {o : Oper} {y : _} {a : Act} {w : World} {K : Act → World → Prop} {Q : Exit → Act → World → Prop} {E : Prop}
    (hg : o.guard = none) (s x : Operand) (t : TypeId) (hop : o.op = Op.call { callee := Callee.builtin Builtin.append, args := #[s, x], argTypes := #[t, t] })
    (e : TypeId) (i : TypeInfo) (z : Value) (size bytes : Nat) (h1 : P.underlying t = some (.slice e)) (h2 : P.info? e = some i) (h3 : i.zero = some z) (h4 : i.size = size) (h5 : i.bytes = bytes) (h6 : z.cells.size = size) (h7 : 0 < size)
    (g B : Nat) (hB : B ≤ g) (hs : a.eval s = .slice (some ⟨g, 0, none⟩) 0 0) (hlit : w.heap[g]? = some (.cells #[] e (0, 0)))
    (ao : Option Addr) (m c : Nat) (news : List Value) (hx : a.eval x = .slice ao m c) (hn : news.length = m * size) (hao : ao = none → m = 0) (hc : ∀ q, ao = some q → ∀ j u, news[j]? = some u → w.cell? (q.add j) = some u) (b1 : m ≤ maxLen) (b2 : m * bytes ≤ 140737488355328)
    (hK : ∀ v' w', w'.ownsRow B e size v' m news → Below w.heap.size w w' → (∀ b, v'.ownBlock = some b → b = g ∨ w.heap.size ≤ b ∧ b < w'.heap.size) → K (a.put o.dst v') w') :
    if Region.wanted o y = true then Oper.wp P o a w K Q else E := by
  have hw : Region.wanted o y = true := by simp [Region.wanted, hg]
  rw [if_pos hw]
  have hgl : g < w.heap.size := (Array.getElem?_eq_some_iff.1 hlit).1
  by_cases hm : m = 0
  · subst hm
    obtain rfl : news = [] := List.eq_nil_of_length_eq_zero (by simpa using hn)
    have hrun : (Builtin.append_ #[t, t] o.type #[.slice (some ⟨g, 0, none⟩) 0 0, .slice ao 0 c]).run P w = .ok (.slice (some ⟨g, 0, none⟩) 0 0) w := by
      cases ao <;> simp [Builtin.append_, run_underlying h1, sizeOf, typeInfo, h2, Builtin.lenOf, Builtin.firstCells, storeCells, loadCells, loadCellsFrom]
    unfold Oper.wp
    simp [execOp, hop, resolve, invoke, builtin, hs, hx, hrun, Result.andThen]
    exact hK _ _ ⟨by simp, Or.inr ⟨g, 0, #[], rfl, hB, hlit, Nat.le_refl _, by unfold maxLen; omega, by simp, by simp⟩⟩ (Below.refl _ _) (fun b hb => Or.inl (by simpa [Value.ownBlock] using hb.symm))
  · cases ao with
    | none => exact absurd (hao rfl) hm
    | some q =>
      obtain ⟨v', w', hrun, r1, r2⟩ := run_append_arg_grows (P := P) w t o.type e i z size bytes h1 h2 h3 h4 h5 h6 h7 ⟨g, 0, none⟩ 0 0 [] (by simp) (fun j u hj => by simp at hj) q m c news hn (hc q rfl) (by omega) (by omega) (by simpa using b2)
      rw [Nat.zero_add, List.nil_append] at r1
      have hb : Below w.heap.size w w' := (Below.refl _ w).grown r2 (Nat.le_refl _) (fun k hk => by cases hk)
      unfold Oper.wp
      simp [execOp, hop, resolve, invoke, builtin, hs, hx, hrun, Result.andThen]
      exact hK _ _ (World.ownsRow.mono r1 (by omega)) hb (fun b hb' => Or.inr (World.ownsRow.lt r1 b hb'))
end Go.Proofs.YtbjhpiannjepkaaGreat
namespace Go.Proofs.YtbjhpiannjepkaaGreat
open Go.ChangeShapes Go.WideShapes Go.ChangeAt Go.RowKit Go.Deep
set_option linter.unusedVariables false

section
variable {P : Program} {ops : Array Oper} {Q : Exit → Act → World → Prop} {md : Region.Mode} {S0 : World → Prop} {sp : List Nat}
/-- No spoiler has come up. -/
def unsp (sp : List Nat) (l : Array Bool) : Bool := sp.all fun s => !(l.getD s true)
/-- The condition, as long as no spoiler has come up. -/
def SL (sp : List Nat) (S0 : World → Prop) (l : Array Bool) (w : World) : Prop := unsp sp l = true → S0 w
theorem SL_of {l : Array Bool} {w : World} (h : unsp sp l = false) : SL sp S0 l w := fun h9 => by rw [h] at h9; cases h9
theorem unsp_set {l : Array Bool} {i : Nat} (h : i ∉ sp) : unsp sp (l.setIfInBounds i true) = unsp sp l := by
  unfold unsp
  induction sp with
  | nil => rfl
  | cons s sp ih =>
    simp only [List.all_cons]
    rw [ih (fun h9 => h (List.mem_cons_of_mem _ h9)), getD_set_ne true (fun e => h (by rw [e]; exact List.mem_cons_self))]
/-- All that those who have come up waited for has come up. -/
def Closed (md : Region.Mode) (ops : Array Oper) (l : Array Bool) : Prop := ∀ (s : Nat) (o : Oper), ops[s]? = some o → l.getD s false = true → ∀ e ∈ o.after, Region.binds md e = true → l.getD e.on false = true
def closedB (md : Region.Mode) (ops : Array Oper) (l : Array Bool) : Bool := (List.range ops.size).all fun s => !(l.getD s false) || (match ops[s]? with
  | none => true
  | some o => o.after.all fun e => !(Region.binds md e) || l.getD e.on false)
theorem closedB_spec {l : Array Bool} (h : closedB md ops l = true) : Closed md ops l := by
  intro s o ho hl e he hb
  have hs : s < ops.size := (Array.getElem?_eq_some_iff.1 ho).1
  have h1 := List.all_eq_true.1 h s (List.mem_range.2 hs)
  rw [hl, ho] at h1
  simp only [Bool.not_true, Bool.false_or] at h1
  have h2 := Array.all_eq_true_iff_forall_mem.1 h1 e he
  rw [hb] at h2
  simpa using h2
theorem Closed.set {l : Array Bool} {j : Nat} {oj : Oper} (h : Closed md ops l) (hj : ops[j]? = some oj) (hall : ∀ e ∈ oj.after, Region.binds md e = true → l.getD e.on false = true) : Closed md ops (l.setIfInBounds j true) := by
  intro s o ho hl e he hb
  by_cases hsj : j = s
  · subst hsj
    rw [hj] at ho
    cases ho
    exact getD_set_true (hall e he hb)
  · rw [getD_set_ne false hsj] at hl
    exact getD_set_true (h s o ho hl e he hb)
/-- Number s waits, through others, for number i. -/
def reach (md : Region.Mode) (ops : Array Oper) (i : Nat) : Nat → Nat → Bool
  | 0, s => s == i
  | f + 1, s => s == i || (match ops[s]? with
    | none => false
    | some o => o.after.any fun e => Region.binds md e && reach md ops i f e.on)
theorem reach_listed {l : Array Bool} {i : Nat} (h : Closed md ops l) : ∀ (f s : Nat), reach md ops i f s = true → l.getD s false = true → l.getD i false = true
  | 0, s, hr, hl => by
    have : s = i := by simpa [reach] using hr
    rw [← this]; exact hl
  | f + 1, s, hr, hl => by
    unfold reach at hr
    rw [Bool.or_eq_true] at hr
    rcases hr with hr | hr
    · have : s = i := by simpa using hr
      rw [← this]; exact hl
    · cases ho : ops[s]? with
      | none => rw [ho] at hr; cases hr
      | some o =>
        rw [ho] at hr
        obtain ⟨e, he, h2⟩ : ∃ e ∈ o.after, (Region.binds md e && reach md ops i f e.on) = true := by
          obtain ⟨k, hk, h8⟩ := Array.any_eq_true.1 hr
          exact ⟨_, Array.getElem_mem hk, h8⟩
        rw [Bool.and_eq_true] at h2
        exact reach_listed h f e.on h2.2 (h s o ho hl e he h2.1)
/-- All spoilers wait for number i, which is none. -/
def spWait (md : Region.Mode) (ops : Array Oper) (sp : List Nat) (i : Nat) : Bool := sp.all fun s => !(s == i) && decide (s < ops.size) && reach md ops i 8 s
theorem unl {l : Array Bool} {i : Nat} (h : l.getD i true = false) : l.getD i false = false := by
  rcases Nat.lt_or_ge i l.size with h' | h'
  · simp [h'] at h ⊢; exact h
  · simp [Array.getElem?_eq_none h'] at h
theorem spWait_un {l : Array Bool} {i : Nat} (hw : spWait md ops sp i = true) (hc : Closed md ops l) (hz : l.size = ops.size) (hi : l.getD i true = false) : unsp sp l = true := by
  unfold unsp
  rw [List.all_eq_true]
  intro s hs
  have h1 := List.all_eq_true.1 hw s hs
  simp only [Bool.and_eq_true, decide_eq_true_eq] at h1
  cases hl : l.getD s true with
  | false => rfl
  | true =>
    have hlf : l.getD s false = true := by
      have hs' : s < l.size := by omega
      simp [hs'] at hl ⊢; exact hl
    have := reach_listed hc 8 s h1.2 hlf
    rw [unl hi] at this
    cases this
theorem spWait_not {i : Nat} (hw : spWait md ops sp i = true) : i ∉ sp := fun h => by
  have h1 := List.all_eq_true.1 hw i h
  simp at h1
/-- Whatever order is picked from here on, and the condition holds behind every operation till a spoiler has come up. -/
def wpAnyP (P : Program) (md : Region.Mode) (ops : Array Oper) (Q : Exit → Act → World → Prop) (sp : List Nat) (S0 : World → Prop) : Nat → Array Bool → Act → World → Prop
  | 0, listed, a, w => Region.ready md ops listed = [] ∧ Q .normal a w
  | fuel + 1, listed, a, w => (Region.ready md ops listed = [] → Q .normal a w) ∧ ∀ i ∈ Region.ready md ops listed, wpOp P ops Q i (fun a' w' => SL sp S0 (listed.setIfInBounds i true) w' ∧ wpAnyP P md ops Q sp S0 fuel (listed.setIfInBounds i true) a' w') a w
theorem wpAny_of_P : ∀ (fuel : Nat) (listed : Array Bool) (a : Act) (w : World), wpAnyP P md ops Q sp S0 fuel listed a w → wpAny P md ops Q fuel listed a w
  | 0, _, _, _, h => h
  | fuel + 1, _, _, _, h => ⟨h.1, fun i hi => wpOp_mono (fun a' w' h' => wpAny_of_P fuel _ a' w' h'.2) (h.2 i hi)⟩
theorem wpAnyP_first {T : World → Prop} {i : Nat} {oi : Oper} {v : Value} (hi : ops[i]? = some oi) (hsel : ∀ (j : Nat) (o : Oper) cs b, ops[j]? = some o → o.op ≠ .select cs b) (hQ : ∀ c a w, Q (.panic c) (a.put oi.dst v) w → Q (.panic c) a w) (hisp : i ∉ sp) (hT : ∀ l w, Closed md ops l → l.size = ops.size → l.getD i true = false → SL sp S0 l w → T w) :
    ∀ (fuel : Nat) (listed : Array Bool) (a : Act) (w : World),
      (∀ j oj, ops[j]? = some oj → j ≠ i → listed.getD j true = false → (∀ e ∈ oj.after, Region.binds md e = true → e.on ≠ i) → oi.apart ops oj = true) →
      i ∈ Region.ready md ops listed → Closed md ops listed → listed.size = ops.size → YieldsIf P ops T oi v a → SL sp S0 listed w →
      wpAnyP P md ops Q sp S0 fuel (listed.setIfInBounds i true) (a.put oi.dst v) w → wpAnyP P md ops Q sp S0 (fuel + 1) listed a w := by
  intro fuel
  induction fuel with
  | zero =>
    intro listed a w _ hr hc hz hy hS H
    refine ⟨fun h => (by rw [h] at hr; cases hr), fun j hj => ?_⟩
    by_cases hji : j = i
    · subst hji
      exact hy.wpOp hi (hT listed w hc hz (mem_ready.1 hr).1 hS) ⟨fun h9 => hS (by rw [unsp_set hisp] at h9; exact h9), H⟩
    · have := ready_mono hj hji
      rw [H.1] at this
      cases this
  | succ fuel ih =>
    intro listed a w hfree hr hc hz hy hS H
    refine ⟨fun h => (by rw [h] at hr; cases hr), fun j hj => ?_⟩
    by_cases hji : j = i
    · subst hji
      exact hy.wpOp hi (hT listed w hc hz (mem_ready.1 hr).1 hS) ⟨fun h9 => hS (by rw [unsp_set hisp] at h9; exact h9), H⟩
    · have h1 := H.2 j (ready_mono hj hji)
      obtain ⟨hjun, oj, hoj, hall⟩ := mem_ready.1 hj
      have hnot : ∀ e ∈ oj.after, Region.binds md e = true → e.on ≠ i := fun e he hb heq => by
        have h1 := hall e he hb
        have h0 := (mem_ready.1 hr).1
        rw [heq, unl h0] at h1
        cases h1
      have h2 := wpOp_putIf hoj (hfree j oj hoj hji hjun hnot) (fun cs b => hsel i oi cs b hi) (fun cs b => hsel j oj cs b hoj) hQ hy h1
      have hfree' : ∀ k ok, ops[k]? = some ok → k ≠ i → (listed.setIfInBounds j true).getD k true = false →
          (∀ e ∈ ok.after, Region.binds md e = true → e.on ≠ i) → oi.apart ops ok = true := fun k ok hk hki hun hno => by
        refine hfree k ok hk hki ?_ hno
        by_cases hjk : j = k
        · subst hjk; exact hjun
        · rw [getD_set_ne true hjk] at hun; exact hun
      have hsame : ∀ w', SL sp S0 ((listed.setIfInBounds i true).setIfInBounds j true) w' → SL sp S0 (listed.setIfInBounds j true) w' := fun w' h9 h8 => h9 (by
        rw [Array.setIfInBounds_comm _ _ (Ne.symm hji), unsp_set hisp]; exact h8)
      refine wpOp_mono (fun a' w' h3 => ⟨hsame w' h3.2.1, ih (listed.setIfInBounds j true) a' w' hfree' (ready_mono hr (Ne.symm hji)) (hc.set hoj hall) (by simpa using hz) h3.1 (hsame w' h3.2.1) ?_⟩) h2
      rw [Array.setIfInBounds_comm _ _ hji]
      exact h3.2.2
/-- Taken first, by what holds till a spoiler has come up. -/
theorem wpAnyP_take {i : Nat} {oi : Oper} {v : Value} {fuel : Nat} {listed : Array Bool} {a : Act} {w : World} (hi : ops[i]? = some oi) (hs : Region.noSelect ops = true) (hf : Region.free md ops listed i = true) (hr : (Region.ready md ops listed).contains i = true) (hc : (closedB md ops listed && decide (listed.size = ops.size) && spWait md ops sp i) = true) (hQ : ∀ c a w, Q (.panic c) (a.put oi.dst v) w → Q (.panic c) a w) (hy : YieldsIf P ops S0 oi v a) (hS : S0 w)
    (h : wpAnyP P md ops Q sp S0 fuel (listed.setIfInBounds i true) (a.put oi.dst v) w) : wpAnyP P md ops Q sp S0 (fuel + 1) listed a w := by
  simp only [Bool.and_eq_true, decide_eq_true_eq] at hc
  exact wpAnyP_first hi (Region.noSelect_spec hs) hQ (spWait_not hc.2) (fun l w hcl hz hli hSL => hSL (spWait_un hc.2 hcl hz hli)) fuel listed a w (Region.free_spec hi hf) (by simpa using hr) (closedB_spec hc.1.1) hc.1.2 hy (fun _ => hS) h
/-- Taken first: it yields its value in whatever world. -/
theorem wpAnyP_take0 {i : Nat} {oi : Oper} {v : Value} {fuel : Nat} {listed : Array Bool} {a : Act} {w : World} (hi : ops[i]? = some oi) (hs : Region.noSelect ops = true) (hf : Region.free md ops listed i = true) (hr : (Region.ready md ops listed).contains i = true) (hc : (closedB md ops listed && decide (listed.size = ops.size) && !(sp.contains i)) = true) (hQ : ∀ c a w, Q (.panic c) (a.put oi.dst v) w → Q (.panic c) a w) (hy : YieldsIf P ops (fun _ => True) oi v a) (hS : SL sp S0 listed w)
    (h : wpAnyP P md ops Q sp S0 fuel (listed.setIfInBounds i true) (a.put oi.dst v) w) : wpAnyP P md ops Q sp S0 (fuel + 1) listed a w := by
  simp only [Bool.and_eq_true, decide_eq_true_eq, Bool.not_eq_true', ] at hc
  exact wpAnyP_first hi (Region.noSelect_spec hs) hQ (by simpa using hc.2) (fun _ _ _ _ _ _ => trivial) fuel listed a w (Region.free_spec hi hf) (by simpa using hr) (closedB_spec hc.1.1) hc.1.2 hy hS h
theorem wpAnyP_done {listed : Array Bool} {a : Act} {w : World} (hr : Region.ready md ops listed = []) (h : Q .normal a w) :
    ∀ fuel, wpAnyP P md ops Q sp S0 fuel listed a w
  | 0 => ⟨hr, h⟩
  | _ + 1 => ⟨fun _ => h, by rw [hr]; simp⟩
/-- Each of the operations comes up next. -/
def AllReadyP (P : Program) (md : Region.Mode) (ops : Array Oper) (Q : Exit → Act → World → Prop) (sp : List Nat) (S0 : World → Prop) (fuel : Nat) (listed : Array Bool) (a : Act) (w : World) (rs : List Nat) : Prop :=
  ∀ i ∈ rs, wpOp P ops Q i (fun a' w' => SL sp S0 (listed.setIfInBounds i true) w' ∧ wpAnyP P md ops Q sp S0 fuel (listed.setIfInBounds i true) a' w') a w
theorem AllReadyP.nil {fuel : Nat} {listed : Array Bool} {a : Act} {w : World} : AllReadyP P md ops Q sp S0 fuel listed a w [] := fun _ h => by cases h
theorem AllReadyP.cons {fuel : Nat} {listed : Array Bool} {a : Act} {w : World} {i : Nat} {o : Oper} {rs : List Nat} (ho : ops[i]? = some o)
    (h : ∀ K' : Act → World → Prop, Shut (∀ a w, S0 w → (S0 w → wpAnyP P md ops Q sp S0 fuel (listed.setIfInBounds i true) a w) → K' a w) → if Region.wanted o (yielded ops a.tmps) = true then Oper.wp P o a w K' Q else K' (a.put o.dst undef) w)
    (hs : AllReadyP P md ops Q sp S0 fuel listed a w rs) : AllReadyP P md ops Q sp S0 fuel listed a w (i :: rs) := fun j hj => by
  rcases List.mem_cons.1 hj with rfl | hj
  · exact wpOp_step ho (fun K' hK => h K' (fun a w hS hW => hK a w ⟨fun _ => hS, hW hS⟩))
  · exact hs j hj
/-- One that is a spoiler, or comes behind one. -/
theorem AllReadyP.consS {fuel : Nat} {listed : Array Bool} {a : Act} {w : World} {i : Nat} {o : Oper} {rs : List Nat} (ho : ops[i]? = some o) (hu : unsp sp (listed.setIfInBounds i true) = false)
    (h : ∀ K' : Act → World → Prop, Shut (∀ a w, wpAnyP P md ops Q sp S0 fuel (listed.setIfInBounds i true) a w → K' a w) → if Region.wanted o (yielded ops a.tmps) = true then Oper.wp P o a w K' Q else K' (a.put o.dst undef) w)
    (hs : AllReadyP P md ops Q sp S0 fuel listed a w rs) : AllReadyP P md ops Q sp S0 fuel listed a w (i :: rs) := fun j hj => by
  rcases List.mem_cons.1 hj with rfl | hj
  · exact wpOp_step ho (fun K' hK => h K' (fun a w hW => hK a w ⟨SL_of hu, hW⟩))
  · exact hs j hj
theorem wpAnyP_ready {rs : List Nat} {fuel : Nat} {listed : Array Bool} {a : Act} {w : World} (hr : Region.ready md ops listed = rs) (hne : rs ≠ [])
    (h : AllReadyP P md ops Q sp S0 fuel listed a w rs) : wpAnyP P md ops Q sp S0 (fuel + 1) listed a w := ⟨fun h0 => absurd (hr ▸ h0) hne, hr ▸ h⟩
theorem wp_region_P {id : Nat} {a : Act} {w : World} (sp : List Nat) (S0 : World → Prop) (hm : P.follows .mixedOrders = true) (hS : S0 w.drew)
    (h : S0 w.drew → wpAnyP P .any ops Q sp S0 ops.size (Array.replicate ops.size false) a w.drew) : (Code.region id ops true).wp P Q a w :=
  wp_region_any hm (wpAny_of_P _ _ _ _ (h hS))
end
end Go.Proofs.YtbjhpiannjepkaaGreat
namespace Go.Proofs.YtbjhpiannjepkaaGreat
open Go.ChangeShapes Go.WideShapes Go.ChangeAt Go.RowKit
set_option linter.unusedVariables false

theorem hd_13_13 {b0 b1 o0x0 o0x1 o0x2 o0x3 o0x4 o0x5 o0x6 o0x7 o0x8 o0x9 o0x10 o0x11 o0x12 o1x0 o1x1 o1x2 o1x3 o1x4 o1x5 o1x6 o1x7 o1x8 o1x9 o1x10 o1x11 o1x12 : Nat} {v0x0 v0x1 v0x2 v0x3 v0x4 v0x5 v0x6 v0x7 v0x8 v0x9 v0x10 v0x11 v0x12 v1x0 v1x1 v1x2 v1x3 v1x4 v1x5 v1x6 v1x7 v1x8 v1x9 v1x10 v1x11 v1x12 : Value} {W W' : World} (h : ((W.cell? ⟨b0, o0x0, none⟩ = some (v0x0) ∧ W.cell? ⟨b0, o0x1, none⟩ = some (v0x1) ∧ W.cell? ⟨b0, o0x2, none⟩ = some (v0x2) ∧ W.cell? ⟨b0, o0x3, none⟩ = some (v0x3) ∧ W.cell? ⟨b0, o0x4, none⟩ = some (v0x4) ∧ W.cell? ⟨b0, o0x5, none⟩ = some (v0x5) ∧ W.cell? ⟨b0, o0x6, none⟩ = some (v0x6) ∧ W.cell? ⟨b0, o0x7, none⟩ = some (v0x7) ∧ W.cell? ⟨b0, o0x8, none⟩ = some (v0x8) ∧ W.cell? ⟨b0, o0x9, none⟩ = some (v0x9) ∧ W.cell? ⟨b0, o0x10, none⟩ = some (v0x10) ∧ W.cell? ⟨b0, o0x11, none⟩ = some (v0x11) ∧ W.cell? ⟨b0, o0x12, none⟩ = some (v0x12) ∧ W.cell? ⟨b1, o1x0, none⟩ = some (v1x0) ∧ W.cell? ⟨b1, o1x1, none⟩ = some (v1x1) ∧ W.cell? ⟨b1, o1x2, none⟩ = some (v1x2) ∧ W.cell? ⟨b1, o1x3, none⟩ = some (v1x3) ∧ W.cell? ⟨b1, o1x4, none⟩ = some (v1x4) ∧ W.cell? ⟨b1, o1x5, none⟩ = some (v1x5) ∧ W.cell? ⟨b1, o1x6, none⟩ = some (v1x6) ∧ W.cell? ⟨b1, o1x7, none⟩ = some (v1x7) ∧ W.cell? ⟨b1, o1x8, none⟩ = some (v1x8) ∧ W.cell? ⟨b1, o1x9, none⟩ = some (v1x9) ∧ W.cell? ⟨b1, o1x10, none⟩ = some (v1x10) ∧ W.cell? ⟨b1, o1x11, none⟩ = some (v1x11) ∧ W.cell? ⟨b1, o1x12, none⟩ = some (v1x12)) ∧ b0 < W.heap.size ∧ b1 < W.heap.size)) (hb : Below W.heap.size W W') : ((W'.cell? ⟨b0, o0x0, none⟩ = some (v0x0) ∧ W'.cell? ⟨b0, o0x1, none⟩ = some (v0x1) ∧ W'.cell? ⟨b0, o0x2, none⟩ = some (v0x2) ∧ W'.cell? ⟨b0, o0x3, none⟩ = some (v0x3) ∧ W'.cell? ⟨b0, o0x4, none⟩ = some (v0x4) ∧ W'.cell? ⟨b0, o0x5, none⟩ = some (v0x5) ∧ W'.cell? ⟨b0, o0x6, none⟩ = some (v0x6) ∧ W'.cell? ⟨b0, o0x7, none⟩ = some (v0x7) ∧ W'.cell? ⟨b0, o0x8, none⟩ = some (v0x8) ∧ W'.cell? ⟨b0, o0x9, none⟩ = some (v0x9) ∧ W'.cell? ⟨b0, o0x10, none⟩ = some (v0x10) ∧ W'.cell? ⟨b0, o0x11, none⟩ = some (v0x11) ∧ W'.cell? ⟨b0, o0x12, none⟩ = some (v0x12) ∧ W'.cell? ⟨b1, o1x0, none⟩ = some (v1x0) ∧ W'.cell? ⟨b1, o1x1, none⟩ = some (v1x1) ∧ W'.cell? ⟨b1, o1x2, none⟩ = some (v1x2) ∧ W'.cell? ⟨b1, o1x3, none⟩ = some (v1x3) ∧ W'.cell? ⟨b1, o1x4, none⟩ = some (v1x4) ∧ W'.cell? ⟨b1, o1x5, none⟩ = some (v1x5) ∧ W'.cell? ⟨b1, o1x6, none⟩ = some (v1x6) ∧ W'.cell? ⟨b1, o1x7, none⟩ = some (v1x7) ∧ W'.cell? ⟨b1, o1x8, none⟩ = some (v1x8) ∧ W'.cell? ⟨b1, o1x9, none⟩ = some (v1x9) ∧ W'.cell? ⟨b1, o1x10, none⟩ = some (v1x10) ∧ W'.cell? ⟨b1, o1x11, none⟩ = some (v1x11) ∧ W'.cell? ⟨b1, o1x12, none⟩ = some (v1x12)) ∧ b0 < W'.heap.size ∧ b1 < W'.heap.size) := by
  obtain ⟨⟨h0, h1, h2, h3, h4, h5, h6, h7, h8, h9, h10, h11, h12, h13, h14, h15, h16, h17, h18, h19, h20, h21, h22, h23, h24, h25⟩, s0, s1⟩ := h
  refine ⟨⟨?_, ?_, ?_, ?_, ?_, ?_, ?_, ?_, ?_, ?_, ?_, ?_, ?_, ?_, ?_, ?_, ?_, ?_, ?_, ?_, ?_, ?_, ?_, ?_, ?_, ?_⟩, Nat.lt_of_lt_of_le s0 hb.size, Nat.lt_of_lt_of_le s1 hb.size⟩
  · rw [hb.cell s0]; exact h0
  · rw [hb.cell s0]; exact h1
  · rw [hb.cell s0]; exact h2
  · rw [hb.cell s0]; exact h3
  · rw [hb.cell s0]; exact h4
  · rw [hb.cell s0]; exact h5
  · rw [hb.cell s0]; exact h6
  · rw [hb.cell s0]; exact h7
  · rw [hb.cell s0]; exact h8
  · rw [hb.cell s0]; exact h9
  · rw [hb.cell s0]; exact h10
  · rw [hb.cell s0]; exact h11
  · rw [hb.cell s0]; exact h12
  · rw [hb.cell s1]; exact h13
  · rw [hb.cell s1]; exact h14
  · rw [hb.cell s1]; exact h15
  · rw [hb.cell s1]; exact h16
  · rw [hb.cell s1]; exact h17
  · rw [hb.cell s1]; exact h18
  · rw [hb.cell s1]; exact h19
  · rw [hb.cell s1]; exact h20
  · rw [hb.cell s1]; exact h21
  · rw [hb.cell s1]; exact h22
  · rw [hb.cell s1]; exact h23
  · rw [hb.cell s1]; exact h24
  · rw [hb.cell s1]; exact h25

theorem hd_13_13_set {b0 b1 o0x0 o0x1 o0x2 o0x3 o0x4 o0x5 o0x6 o0x7 o0x8 o0x9 o0x10 o0x11 o0x12 o1x0 o1x1 o1x2 o1x3 o1x4 o1x5 o1x6 o1x7 o1x8 o1x9 o1x10 o1x11 o1x12 : Nat} {v0x0 v0x1 v0x2 v0x3 v0x4 v0x5 v0x6 v0x7 v0x8 v0x9 v0x10 v0x11 v0x12 v1x0 v1x1 v1x2 v1x3 v1x4 v1x5 v1x6 v1x7 v1x8 v1x9 v1x10 v1x11 v1x12 : Value} {W : World} {p : Addr} (h : ((W.cell? ⟨b0, o0x0, none⟩ = some (v0x0) ∧ W.cell? ⟨b0, o0x1, none⟩ = some (v0x1) ∧ W.cell? ⟨b0, o0x2, none⟩ = some (v0x2) ∧ W.cell? ⟨b0, o0x3, none⟩ = some (v0x3) ∧ W.cell? ⟨b0, o0x4, none⟩ = some (v0x4) ∧ W.cell? ⟨b0, o0x5, none⟩ = some (v0x5) ∧ W.cell? ⟨b0, o0x6, none⟩ = some (v0x6) ∧ W.cell? ⟨b0, o0x7, none⟩ = some (v0x7) ∧ W.cell? ⟨b0, o0x8, none⟩ = some (v0x8) ∧ W.cell? ⟨b0, o0x9, none⟩ = some (v0x9) ∧ W.cell? ⟨b0, o0x10, none⟩ = some (v0x10) ∧ W.cell? ⟨b0, o0x11, none⟩ = some (v0x11) ∧ W.cell? ⟨b0, o0x12, none⟩ = some (v0x12) ∧ W.cell? ⟨b1, o1x0, none⟩ = some (v1x0) ∧ W.cell? ⟨b1, o1x1, none⟩ = some (v1x1) ∧ W.cell? ⟨b1, o1x2, none⟩ = some (v1x2) ∧ W.cell? ⟨b1, o1x3, none⟩ = some (v1x3) ∧ W.cell? ⟨b1, o1x4, none⟩ = some (v1x4) ∧ W.cell? ⟨b1, o1x5, none⟩ = some (v1x5) ∧ W.cell? ⟨b1, o1x6, none⟩ = some (v1x6) ∧ W.cell? ⟨b1, o1x7, none⟩ = some (v1x7) ∧ W.cell? ⟨b1, o1x8, none⟩ = some (v1x8) ∧ W.cell? ⟨b1, o1x9, none⟩ = some (v1x9) ∧ W.cell? ⟨b1, o1x10, none⟩ = some (v1x10) ∧ W.cell? ⟨b1, o1x11, none⟩ = some (v1x11) ∧ W.cell? ⟨b1, o1x12, none⟩ = some (v1x12)) ∧ b0 < W.heap.size ∧ b1 < W.heap.size)) (p0 : p.block ≠ b0) (p1 : p.block ≠ b1) (u : Value) : (((W.setCell p u).cell? ⟨b0, o0x0, none⟩ = some (v0x0) ∧ (W.setCell p u).cell? ⟨b0, o0x1, none⟩ = some (v0x1) ∧ (W.setCell p u).cell? ⟨b0, o0x2, none⟩ = some (v0x2) ∧ (W.setCell p u).cell? ⟨b0, o0x3, none⟩ = some (v0x3) ∧ (W.setCell p u).cell? ⟨b0, o0x4, none⟩ = some (v0x4) ∧ (W.setCell p u).cell? ⟨b0, o0x5, none⟩ = some (v0x5) ∧ (W.setCell p u).cell? ⟨b0, o0x6, none⟩ = some (v0x6) ∧ (W.setCell p u).cell? ⟨b0, o0x7, none⟩ = some (v0x7) ∧ (W.setCell p u).cell? ⟨b0, o0x8, none⟩ = some (v0x8) ∧ (W.setCell p u).cell? ⟨b0, o0x9, none⟩ = some (v0x9) ∧ (W.setCell p u).cell? ⟨b0, o0x10, none⟩ = some (v0x10) ∧ (W.setCell p u).cell? ⟨b0, o0x11, none⟩ = some (v0x11) ∧ (W.setCell p u).cell? ⟨b0, o0x12, none⟩ = some (v0x12) ∧ (W.setCell p u).cell? ⟨b1, o1x0, none⟩ = some (v1x0) ∧ (W.setCell p u).cell? ⟨b1, o1x1, none⟩ = some (v1x1) ∧ (W.setCell p u).cell? ⟨b1, o1x2, none⟩ = some (v1x2) ∧ (W.setCell p u).cell? ⟨b1, o1x3, none⟩ = some (v1x3) ∧ (W.setCell p u).cell? ⟨b1, o1x4, none⟩ = some (v1x4) ∧ (W.setCell p u).cell? ⟨b1, o1x5, none⟩ = some (v1x5) ∧ (W.setCell p u).cell? ⟨b1, o1x6, none⟩ = some (v1x6) ∧ (W.setCell p u).cell? ⟨b1, o1x7, none⟩ = some (v1x7) ∧ (W.setCell p u).cell? ⟨b1, o1x8, none⟩ = some (v1x8) ∧ (W.setCell p u).cell? ⟨b1, o1x9, none⟩ = some (v1x9) ∧ (W.setCell p u).cell? ⟨b1, o1x10, none⟩ = some (v1x10) ∧ (W.setCell p u).cell? ⟨b1, o1x11, none⟩ = some (v1x11) ∧ (W.setCell p u).cell? ⟨b1, o1x12, none⟩ = some (v1x12)) ∧ b0 < (W.setCell p u).heap.size ∧ b1 < (W.setCell p u).heap.size) := by
  obtain ⟨⟨h0, h1, h2, h3, h4, h5, h6, h7, h8, h9, h10, h11, h12, h13, h14, h15, h16, h17, h18, h19, h20, h21, h22, h23, h24, h25⟩, s0, s1⟩ := h
  have hb : W.heap.size ≤ (W.setCell p u).heap.size := by simp [World.setCell]
  refine ⟨⟨?_, ?_, ?_, ?_, ?_, ?_, ?_, ?_, ?_, ?_, ?_, ?_, ?_, ?_, ?_, ?_, ?_, ?_, ?_, ?_, ?_, ?_, ?_, ?_, ?_, ?_⟩, Nat.lt_of_lt_of_le s0 hb, Nat.lt_of_lt_of_le s1 hb⟩
  · rw [cell_set_ne p0]; exact h0
  · rw [cell_set_ne p0]; exact h1
  · rw [cell_set_ne p0]; exact h2
  · rw [cell_set_ne p0]; exact h3
  · rw [cell_set_ne p0]; exact h4
  · rw [cell_set_ne p0]; exact h5
  · rw [cell_set_ne p0]; exact h6
  · rw [cell_set_ne p0]; exact h7
  · rw [cell_set_ne p0]; exact h8
  · rw [cell_set_ne p0]; exact h9
  · rw [cell_set_ne p0]; exact h10
  · rw [cell_set_ne p0]; exact h11
  · rw [cell_set_ne p0]; exact h12
  · rw [cell_set_ne p1]; exact h13
  · rw [cell_set_ne p1]; exact h14
  · rw [cell_set_ne p1]; exact h15
  · rw [cell_set_ne p1]; exact h16
  · rw [cell_set_ne p1]; exact h17
  · rw [cell_set_ne p1]; exact h18
  · rw [cell_set_ne p1]; exact h19
  · rw [cell_set_ne p1]; exact h20
  · rw [cell_set_ne p1]; exact h21
  · rw [cell_set_ne p1]; exact h22
  · rw [cell_set_ne p1]; exact h23
  · rw [cell_set_ne p1]; exact h24
  · rw [cell_set_ne p1]; exact h25

theorem hd_13_13_re {b0 b1 o0x0 o0x1 o0x2 o0x3 o0x4 o0x5 o0x6 o0x7 o0x8 o0x9 o0x10 o0x11 o0x12 o1x0 o1x1 o1x2 o1x3 o1x4 o1x5 o1x6 o1x7 o1x8 o1x9 o1x10 o1x11 o1x12 : Nat} {v0x0 v0x1 v0x2 v0x3 v0x4 v0x5 v0x6 v0x7 v0x8 v0x9 v0x10 v0x11 v0x12 v1x0 v1x1 v1x2 v1x3 v1x4 v1x5 v1x6 v1x7 v1x8 v1x9 v1x10 v1x11 v1x12 : Value} {W : World} {o o' : Obj} (h : (((W.alloc o).cell? ⟨b0, o0x0, none⟩ = some (v0x0) ∧ (W.alloc o).cell? ⟨b0, o0x1, none⟩ = some (v0x1) ∧ (W.alloc o).cell? ⟨b0, o0x2, none⟩ = some (v0x2) ∧ (W.alloc o).cell? ⟨b0, o0x3, none⟩ = some (v0x3) ∧ (W.alloc o).cell? ⟨b0, o0x4, none⟩ = some (v0x4) ∧ (W.alloc o).cell? ⟨b0, o0x5, none⟩ = some (v0x5) ∧ (W.alloc o).cell? ⟨b0, o0x6, none⟩ = some (v0x6) ∧ (W.alloc o).cell? ⟨b0, o0x7, none⟩ = some (v0x7) ∧ (W.alloc o).cell? ⟨b0, o0x8, none⟩ = some (v0x8) ∧ (W.alloc o).cell? ⟨b0, o0x9, none⟩ = some (v0x9) ∧ (W.alloc o).cell? ⟨b0, o0x10, none⟩ = some (v0x10) ∧ (W.alloc o).cell? ⟨b0, o0x11, none⟩ = some (v0x11) ∧ (W.alloc o).cell? ⟨b0, o0x12, none⟩ = some (v0x12) ∧ (W.alloc o).cell? ⟨b1, o1x0, none⟩ = some (v1x0) ∧ (W.alloc o).cell? ⟨b1, o1x1, none⟩ = some (v1x1) ∧ (W.alloc o).cell? ⟨b1, o1x2, none⟩ = some (v1x2) ∧ (W.alloc o).cell? ⟨b1, o1x3, none⟩ = some (v1x3) ∧ (W.alloc o).cell? ⟨b1, o1x4, none⟩ = some (v1x4) ∧ (W.alloc o).cell? ⟨b1, o1x5, none⟩ = some (v1x5) ∧ (W.alloc o).cell? ⟨b1, o1x6, none⟩ = some (v1x6) ∧ (W.alloc o).cell? ⟨b1, o1x7, none⟩ = some (v1x7) ∧ (W.alloc o).cell? ⟨b1, o1x8, none⟩ = some (v1x8) ∧ (W.alloc o).cell? ⟨b1, o1x9, none⟩ = some (v1x9) ∧ (W.alloc o).cell? ⟨b1, o1x10, none⟩ = some (v1x10) ∧ (W.alloc o).cell? ⟨b1, o1x11, none⟩ = some (v1x11) ∧ (W.alloc o).cell? ⟨b1, o1x12, none⟩ = some (v1x12)) ∧ b0 < (W.alloc o).heap.size ∧ b1 < (W.alloc o).heap.size)) (p0 : b0 < W.heap.size) (p1 : b1 < W.heap.size) : (((W.alloc o').cell? ⟨b0, o0x0, none⟩ = some (v0x0) ∧ (W.alloc o').cell? ⟨b0, o0x1, none⟩ = some (v0x1) ∧ (W.alloc o').cell? ⟨b0, o0x2, none⟩ = some (v0x2) ∧ (W.alloc o').cell? ⟨b0, o0x3, none⟩ = some (v0x3) ∧ (W.alloc o').cell? ⟨b0, o0x4, none⟩ = some (v0x4) ∧ (W.alloc o').cell? ⟨b0, o0x5, none⟩ = some (v0x5) ∧ (W.alloc o').cell? ⟨b0, o0x6, none⟩ = some (v0x6) ∧ (W.alloc o').cell? ⟨b0, o0x7, none⟩ = some (v0x7) ∧ (W.alloc o').cell? ⟨b0, o0x8, none⟩ = some (v0x8) ∧ (W.alloc o').cell? ⟨b0, o0x9, none⟩ = some (v0x9) ∧ (W.alloc o').cell? ⟨b0, o0x10, none⟩ = some (v0x10) ∧ (W.alloc o').cell? ⟨b0, o0x11, none⟩ = some (v0x11) ∧ (W.alloc o').cell? ⟨b0, o0x12, none⟩ = some (v0x12) ∧ (W.alloc o').cell? ⟨b1, o1x0, none⟩ = some (v1x0) ∧ (W.alloc o').cell? ⟨b1, o1x1, none⟩ = some (v1x1) ∧ (W.alloc o').cell? ⟨b1, o1x2, none⟩ = some (v1x2) ∧ (W.alloc o').cell? ⟨b1, o1x3, none⟩ = some (v1x3) ∧ (W.alloc o').cell? ⟨b1, o1x4, none⟩ = some (v1x4) ∧ (W.alloc o').cell? ⟨b1, o1x5, none⟩ = some (v1x5) ∧ (W.alloc o').cell? ⟨b1, o1x6, none⟩ = some (v1x6) ∧ (W.alloc o').cell? ⟨b1, o1x7, none⟩ = some (v1x7) ∧ (W.alloc o').cell? ⟨b1, o1x8, none⟩ = some (v1x8) ∧ (W.alloc o').cell? ⟨b1, o1x9, none⟩ = some (v1x9) ∧ (W.alloc o').cell? ⟨b1, o1x10, none⟩ = some (v1x10) ∧ (W.alloc o').cell? ⟨b1, o1x11, none⟩ = some (v1x11) ∧ (W.alloc o').cell? ⟨b1, o1x12, none⟩ = some (v1x12)) ∧ b0 < (W.alloc o').heap.size ∧ b1 < (W.alloc o').heap.size) := by
  obtain ⟨⟨h0, h1, h2, h3, h4, h5, h6, h7, h8, h9, h10, h11, h12, h13, h14, h15, h16, h17, h18, h19, h20, h21, h22, h23, h24, h25⟩, s0, s1⟩ := h
  have hb : Below W.heap.size (W.alloc o) (W.alloc o') := bel_re W o o'
  refine ⟨⟨?_, ?_, ?_, ?_, ?_, ?_, ?_, ?_, ?_, ?_, ?_, ?_, ?_, ?_, ?_, ?_, ?_, ?_, ?_, ?_, ?_, ?_, ?_, ?_, ?_, ?_⟩, Nat.lt_of_lt_of_le s0 hb.size, Nat.lt_of_lt_of_le s1 hb.size⟩
  · rw [hb.cell p0]; exact h0
  · rw [hb.cell p0]; exact h1
  · rw [hb.cell p0]; exact h2
  · rw [hb.cell p0]; exact h3
  · rw [hb.cell p0]; exact h4
  · rw [hb.cell p0]; exact h5
  · rw [hb.cell p0]; exact h6
  · rw [hb.cell p0]; exact h7
  · rw [hb.cell p0]; exact h8
  · rw [hb.cell p0]; exact h9
  · rw [hb.cell p0]; exact h10
  · rw [hb.cell p0]; exact h11
  · rw [hb.cell p0]; exact h12
  · rw [hb.cell p1]; exact h13
  · rw [hb.cell p1]; exact h14
  · rw [hb.cell p1]; exact h15
  · rw [hb.cell p1]; exact h16
  · rw [hb.cell p1]; exact h17
  · rw [hb.cell p1]; exact h18
  · rw [hb.cell p1]; exact h19
  · rw [hb.cell p1]; exact h20
  · rw [hb.cell p1]; exact h21
  · rw [hb.cell p1]; exact h22
  · rw [hb.cell p1]; exact h23
  · rw [hb.cell p1]; exact h24
  · rw [hb.cell p1]; exact h25
end Go.Proofs.YtbjhpiannjepkaaGreat
namespace Go.Proofs.YtbjhpiannjepkaaGreat
open Go.ChangeShapes Go.WideShapes Go.ChangeAt Go.RowKit
set_option linter.unusedVariables false

theorem eqWinT (a b : Int) (w : World) : Calls Tryz.prog 109 #[.agg #[.int .i64 a, .int .i64 b], .agg #[.int .i64 a, .int .i64 b]] w fun e w' => e = .returned (.bool true) ∧ Below w.heap.size w w' := by
  go_enter Tryz.func109, Tryz.ntmps109
  go_wp2
  go_ret
  exact ⟨rfl, (belB)⟩

theorem eqAggT (n s l m : Int) (w : World) : Calls Tryz.prog 110 #[.agg #[.int .i64 n, .int .i64 s, .int .i64 l, .int .i64 m], .agg #[.int .i64 n, .int .i64 s, .int .i64 l, .int .i64 m]] w fun e w' => e = .returned (.bool true) ∧ Below w.heap.size w w' := by
  go_enter Tryz.func110, Tryz.ntmps110
  go_wp2
  go_ret
  exact ⟨rfl, (belB)⟩
end Go.Proofs.YtbjhpiannjepkaaGreat
namespace Go.Proofs.YtbjhpiannjepkaaGreat
open Go.ChangeShapes Go.WideShapes Go.ChangeAt Go.RowKit
set_option linter.unusedVariables false

/-- A row of 13 numbers. -/
structure OrR where
  ky : Int
  st : Int
  en : Int
  an : Int
  asu : Int
  ale : Int
  amo : Int
  fn : Int
  fsu : Int
  fle : Int
  fmo : Int
  td : Int
  tm : Bool

/-- A row lies in its cells; rows lie one behind the other; a slice's value holds rows. -/
def OrRAt (W : World) (g o : Nat) (x : OrR) : Prop := W.cell? ⟨g, o, none⟩ = some (.int .i64 x.ky) ∧ W.cell? ⟨g, o + 1, none⟩ = some (.int .i64 x.st) ∧ W.cell? ⟨g, o + 2, none⟩ = some (.int .i64 x.en) ∧ W.cell? ⟨g, o + 3, none⟩ = some (.int .i64 x.an) ∧ W.cell? ⟨g, o + 4, none⟩ = some (.int .i64 x.asu) ∧ W.cell? ⟨g, o + 5, none⟩ = some (.int .i64 x.ale) ∧ W.cell? ⟨g, o + 6, none⟩ = some (.int .i64 x.amo) ∧ W.cell? ⟨g, o + 7, none⟩ = some (.int .i64 x.fn) ∧ W.cell? ⟨g, o + 8, none⟩ = some (.int .i64 x.fsu) ∧ W.cell? ⟨g, o + 9, none⟩ = some (.int .i64 x.fle) ∧ W.cell? ⟨g, o + 10, none⟩ = some (.int .i64 x.fmo) ∧ W.cell? ⟨g, o + 11, none⟩ = some (.int .i64 x.td) ∧ W.cell? ⟨g, o + 12, none⟩ = some (.bool x.tm)

def OrRsAt (W : World) (g o : Nat) (xs : List OrR) : Prop := ∀ i x, xs[i]? = some x → OrRAt W g (o + i * 13) x

def OrRs (W : World) (a : Option Addr) (len : Nat) (xs : List OrR) : Prop := xs.length = len ∧ len ≤ maxLen ∧ (len = 0 ∨ ∃ g o, a = some ⟨g, o, none⟩ ∧ OrRsAt W g o xs)

theorem OrRAt.lt {W : World} {g o : Nat} {x : OrR} (h : OrRAt W g o x) : g < W.heap.size := by
  obtain ⟨h0, _⟩ := h
  rcases Nat.lt_or_ge g W.heap.size with hl | hg
  · exact hl
  · simp [World.cell?, Array.getElem?_eq_none hg] at h0

theorem OrRsAt.lt {W : World} {g o : Nat} {xs : List OrR} (h : OrRsAt W g o xs) (hp : 0 < xs.length) : g < W.heap.size := (h 0 xs[0] (List.getElem?_eq_getElem hp)).lt

theorem OrRAt.below {W W' : World} {B g o : Nat} {x : OrR} (h : OrRAt W g o x) (hb : Below B W W') (hg : g < B) : OrRAt W' g o x := by
  obtain ⟨h0, h1, h2, h3, h4, h5, h6, h7, h8, h9, h10, h11, h12⟩ := h
  exact ⟨(hb.cell (p := ⟨g, _, none⟩) hg).trans h0, (hb.cell (p := ⟨g, _, none⟩) hg).trans h1, (hb.cell (p := ⟨g, _, none⟩) hg).trans h2, (hb.cell (p := ⟨g, _, none⟩) hg).trans h3, (hb.cell (p := ⟨g, _, none⟩) hg).trans h4, (hb.cell (p := ⟨g, _, none⟩) hg).trans h5, (hb.cell (p := ⟨g, _, none⟩) hg).trans h6, (hb.cell (p := ⟨g, _, none⟩) hg).trans h7, (hb.cell (p := ⟨g, _, none⟩) hg).trans h8, (hb.cell (p := ⟨g, _, none⟩) hg).trans h9, (hb.cell (p := ⟨g, _, none⟩) hg).trans h10, (hb.cell (p := ⟨g, _, none⟩) hg).trans h11, (hb.cell (p := ⟨g, _, none⟩) hg).trans h12⟩

theorem OrRsAt.below {W W' : World} {B g o : Nat} {xs : List OrR} (h : OrRsAt W g o xs) (hb : Below B W W') (hg : 0 < xs.length → g < B) : OrRsAt W' g o xs := by
  intro i x hx
  have hlt : i < xs.length := (List.getElem?_eq_some_iff.1 hx).1
  exact (h i x hx).below hb (hg (by omega))

theorem OrRs.below {W W' : World} {a : Option Addr} {len : Nat} {xs : List OrR} (h : OrRs W a len xs) (hb : Below W.heap.size W W') : OrRs W' a len xs := by
  obtain ⟨h1, h2, h3⟩ := h
  refine ⟨h1, h2, ?_⟩
  rcases h3 with h3 | ⟨g, o, ha, hr⟩
  · exact Or.inl h3
  · exact Or.inr ⟨g, o, ha, hr.below hb (fun hp => hr.lt hp)⟩

theorem OrRAt.grown {W W' : World} {row : Option Nat} {g o : Nat} {x : OrR} (h : OrRAt W g o x) (hg : W.grownBy W' row) (hne : some g ≠ row) : OrRAt W' g o x := by
  have hbk := hg.block g h.lt hne
  obtain ⟨h0, h1, h2, h3, h4, h5, h6, h7, h8, h9, h10, h11, h12⟩ := h
  exact ⟨(World.cell?_of_block (w := W) hbk).trans h0, (World.cell?_of_block (w := W) hbk).trans h1, (World.cell?_of_block (w := W) hbk).trans h2, (World.cell?_of_block (w := W) hbk).trans h3, (World.cell?_of_block (w := W) hbk).trans h4, (World.cell?_of_block (w := W) hbk).trans h5, (World.cell?_of_block (w := W) hbk).trans h6, (World.cell?_of_block (w := W) hbk).trans h7, (World.cell?_of_block (w := W) hbk).trans h8, (World.cell?_of_block (w := W) hbk).trans h9, (World.cell?_of_block (w := W) hbk).trans h10, (World.cell?_of_block (w := W) hbk).trans h11, (World.cell?_of_block (w := W) hbk).trans h12⟩

theorem OrRs.grown {W W' : World} {row : Option Nat} {a : Option Addr} {n : Nat} {xs : List OrR} (h : OrRs W a n xs) (hg : W.grownBy W' row) (hne : ∀ g o, 0 < n → a = some ⟨g, o, none⟩ → some g ≠ row) : OrRs W' a n xs := by
  obtain ⟨h1, h2, h3⟩ := h
  refine ⟨h1, h2, ?_⟩
  rcases h3 with h3 | ⟨g, o, ha, hr⟩
  · exact Or.inl h3
  · refine Or.inr ⟨g, o, ha, fun i x hx => (hr i x hx).grown hg (hne g o ?_ ha)⟩
    have hlt : i < xs.length := (List.getElem?_eq_some_iff.1 hx).1
    omega

theorem OrRs.lt {W : World} {g o n : Nat} {xs : List OrR} (h : OrRs W (some ⟨g, o, none⟩) n xs) (hp : 0 < n) : g < W.heap.size := by
  obtain ⟨h1, h2, h3⟩ := h
  obtain ⟨g', o', ha, hr⟩ := h3.resolve_left (by omega)
  simp at ha
  have := hr.lt (by omega)
  omega

/-- A row is stored; a block of rows, known whole. -/
def setOr (W : World) (g o : Nat) (x : OrR) : World := (((((((((((((W.setCell ⟨g, o, none⟩ (.int .i64 x.ky)).setCell ⟨g, o + 1, none⟩ (.int .i64 x.st)).setCell ⟨g, o + 2, none⟩ (.int .i64 x.en)).setCell ⟨g, o + 3, none⟩ (.int .i64 x.an)).setCell ⟨g, o + 4, none⟩ (.int .i64 x.asu)).setCell ⟨g, o + 5, none⟩ (.int .i64 x.ale)).setCell ⟨g, o + 6, none⟩ (.int .i64 x.amo)).setCell ⟨g, o + 7, none⟩ (.int .i64 x.fn)).setCell ⟨g, o + 8, none⟩ (.int .i64 x.fsu)).setCell ⟨g, o + 9, none⟩ (.int .i64 x.fle)).setCell ⟨g, o + 10, none⟩ (.int .i64 x.fmo)).setCell ⟨g, o + 11, none⟩ (.int .i64 x.td)).setCell ⟨g, o + 12, none⟩ (.bool x.tm))

def BlkOr (W : World) (g ty len : Nat) : Prop := ∃ cur, W.heap[g]? = some (.cells cur ty (0, 0)) ∧ cur.size = len * 13

theorem BlkOr.set {W : World} {g ty len i : Nat} (h : BlkOr W g ty len) (v : Value) : BlkOr (W.setCell ⟨g, i, none⟩ v) g ty len := by
  obtain ⟨cur, h1, h2⟩ := h
  exact ⟨_, Joins.block_setCell h1 v, by simp [h2]⟩

theorem BlkOr.below {W W' : World} {g ty len B : Nat} (h : BlkOr W g ty len) (hb : Below B W W') (hg : g < B) : BlkOr W' g ty len := by
  obtain ⟨cur, h1, h2⟩ := h
  exact ⟨cur, (hb.block g hg).trans h1, h2⟩

theorem BlkOr.lt {W : World} {g ty len : Nat} (h : BlkOr W g ty len) : g < W.heap.size := by
  obtain ⟨cur, h1, h2⟩ := h
  exact (Array.getElem?_eq_some_iff.1 h1).1

theorem BlkOr.cell {W : World} {g ty len i : Nat} (h : BlkOr W g ty len) (hi : i < len * 13) : ∃ u, W.cell? ⟨g, i, none⟩ = some u := by
  obtain ⟨cur, h1, h2⟩ := h
  exact ⟨_, (Joins.cell_of_block h1 i).trans (Array.getElem?_eq_getElem (by omega))⟩

theorem BlkOr.frozen {W : World} {g ty len i : Nat} (h : BlkOr W g ty len) : W.frozen? ⟨g, i, none⟩ = false := by
  obtain ⟨cur, h1, h2⟩ := h
  exact Joins.unfrozen_of_block h1 i

theorem BlkOr.cells {W : World} {g ty len k : Nat} (h : BlkOr W g ty len) (hk : k < len) : (∃ u, W.cell? ⟨g, k * 13, none⟩ = some u) ∧ (∃ u, W.cell? ⟨g, k * 13 + 1, none⟩ = some u) ∧ (∃ u, W.cell? ⟨g, k * 13 + 2, none⟩ = some u) ∧ (∃ u, W.cell? ⟨g, k * 13 + 3, none⟩ = some u) ∧ (∃ u, W.cell? ⟨g, k * 13 + 4, none⟩ = some u) ∧ (∃ u, W.cell? ⟨g, k * 13 + 5, none⟩ = some u) ∧ (∃ u, W.cell? ⟨g, k * 13 + 6, none⟩ = some u) ∧ (∃ u, W.cell? ⟨g, k * 13 + 7, none⟩ = some u) ∧ (∃ u, W.cell? ⟨g, k * 13 + 8, none⟩ = some u) ∧ (∃ u, W.cell? ⟨g, k * 13 + 9, none⟩ = some u) ∧ (∃ u, W.cell? ⟨g, k * 13 + 10, none⟩ = some u) ∧ (∃ u, W.cell? ⟨g, k * 13 + 11, none⟩ = some u) ∧ (∃ u, W.cell? ⟨g, k * 13 + 12, none⟩ = some u) := ⟨h.cell (by omega), h.cell (by omega), h.cell (by omega), h.cell (by omega), h.cell (by omega), h.cell (by omega), h.cell (by omega), h.cell (by omega), h.cell (by omega), h.cell (by omega), h.cell (by omega), h.cell (by omega), h.cell (by omega)⟩

theorem BlkOr.sets {W : World} {g ty len o : Nat} (h : BlkOr W g ty len) (x : OrR) : BlkOr (setOr W g o x) g ty len := (((((((((((((h.set _).set _).set _).set _).set _).set _).set _).set _).set _).set _).set _).set _).set _)

theorem Or_other {W : World} {g i j : Nat} {v : Value} (h : i ≠ j) : (W.setCell ⟨g, i, none⟩ v).cell? ⟨g, j, none⟩ = W.cell? ⟨g, j, none⟩ := World.cell?_setCell_other _ _ _ _ (by intro e; injection e with e1 e2; exact h e2)

theorem Or_this {W : World} {g ty len i : Nat} {v : Value} (h : BlkOr W g ty len) (hi : i < len * 13) : (W.setCell ⟨g, i, none⟩ v).cell? ⟨g, i, none⟩ = some v := by
  obtain ⟨u, hu⟩ := h.cell hi
  exact World.cell?_setCell_same _ _ _ hu

theorem setOr_this {W : World} {g ty len k : Nat} (h : BlkOr W g ty len) (hk : k < len) (x : OrR) : OrRAt (setOr W g (k * 13) x) g (k * 13) x := by
  unfold setOr
  refine ⟨?_, ?_, ?_, ?_, ?_, ?_, ?_, ?_, ?_, ?_, ?_, ?_, ?_⟩
  · rw [Or_other (by omega), Or_other (by omega), Or_other (by omega), Or_other (by omega), Or_other (by omega), Or_other (by omega), Or_other (by omega), Or_other (by omega), Or_other (by omega), Or_other (by omega), Or_other (by omega), Or_other (by omega), Or_this h (by omega)]
  · rw [Or_other (by omega), Or_other (by omega), Or_other (by omega), Or_other (by omega), Or_other (by omega), Or_other (by omega), Or_other (by omega), Or_other (by omega), Or_other (by omega), Or_other (by omega), Or_other (by omega), Or_this (h.set _) (by omega)]
  · rw [Or_other (by omega), Or_other (by omega), Or_other (by omega), Or_other (by omega), Or_other (by omega), Or_other (by omega), Or_other (by omega), Or_other (by omega), Or_other (by omega), Or_other (by omega), Or_this ((h.set _).set _) (by omega)]
  · rw [Or_other (by omega), Or_other (by omega), Or_other (by omega), Or_other (by omega), Or_other (by omega), Or_other (by omega), Or_other (by omega), Or_other (by omega), Or_other (by omega), Or_this (((h.set _).set _).set _) (by omega)]
  · rw [Or_other (by omega), Or_other (by omega), Or_other (by omega), Or_other (by omega), Or_other (by omega), Or_other (by omega), Or_other (by omega), Or_other (by omega), Or_this ((((h.set _).set _).set _).set _) (by omega)]
  · rw [Or_other (by omega), Or_other (by omega), Or_other (by omega), Or_other (by omega), Or_other (by omega), Or_other (by omega), Or_other (by omega), Or_this (((((h.set _).set _).set _).set _).set _) (by omega)]
  · rw [Or_other (by omega), Or_other (by omega), Or_other (by omega), Or_other (by omega), Or_other (by omega), Or_other (by omega), Or_this ((((((h.set _).set _).set _).set _).set _).set _) (by omega)]
  · rw [Or_other (by omega), Or_other (by omega), Or_other (by omega), Or_other (by omega), Or_other (by omega), Or_this (((((((h.set _).set _).set _).set _).set _).set _).set _) (by omega)]
  · rw [Or_other (by omega), Or_other (by omega), Or_other (by omega), Or_other (by omega), Or_this ((((((((h.set _).set _).set _).set _).set _).set _).set _).set _) (by omega)]
  · rw [Or_other (by omega), Or_other (by omega), Or_other (by omega), Or_this (((((((((h.set _).set _).set _).set _).set _).set _).set _).set _).set _) (by omega)]
  · rw [Or_other (by omega), Or_other (by omega), Or_this ((((((((((h.set _).set _).set _).set _).set _).set _).set _).set _).set _).set _) (by omega)]
  · rw [Or_other (by omega), Or_this (((((((((((h.set _).set _).set _).set _).set _).set _).set _).set _).set _).set _).set _) (by omega)]
  · rw [Or_this ((((((((((((h.set _).set _).set _).set _).set _).set _).set _).set _).set _).set _).set _).set _) (by omega)]

theorem setOr_ne {W : World} {g i k : Nat} {x y : OrR} (h : OrRAt W g (i * 13) y) (hk : i ≠ k) : OrRAt (setOr W g (k * 13) x) g (i * 13) y := by
  unfold setOr
  obtain ⟨h0, h1, h2, h3, h4, h5, h6, h7, h8, h9, h10, h11, h12⟩ := h
  refine ⟨?_, ?_, ?_, ?_, ?_, ?_, ?_, ?_, ?_, ?_, ?_, ?_, ?_⟩
  · rw [Or_other (by omega), Or_other (by omega), Or_other (by omega), Or_other (by omega), Or_other (by omega), Or_other (by omega), Or_other (by omega), Or_other (by omega), Or_other (by omega), Or_other (by omega), Or_other (by omega), Or_other (by omega), Or_other (by omega)]; exact h0
  · rw [Or_other (by omega), Or_other (by omega), Or_other (by omega), Or_other (by omega), Or_other (by omega), Or_other (by omega), Or_other (by omega), Or_other (by omega), Or_other (by omega), Or_other (by omega), Or_other (by omega), Or_other (by omega), Or_other (by omega)]; exact h1
  · rw [Or_other (by omega), Or_other (by omega), Or_other (by omega), Or_other (by omega), Or_other (by omega), Or_other (by omega), Or_other (by omega), Or_other (by omega), Or_other (by omega), Or_other (by omega), Or_other (by omega), Or_other (by omega), Or_other (by omega)]; exact h2
  · rw [Or_other (by omega), Or_other (by omega), Or_other (by omega), Or_other (by omega), Or_other (by omega), Or_other (by omega), Or_other (by omega), Or_other (by omega), Or_other (by omega), Or_other (by omega), Or_other (by omega), Or_other (by omega), Or_other (by omega)]; exact h3
  · rw [Or_other (by omega), Or_other (by omega), Or_other (by omega), Or_other (by omega), Or_other (by omega), Or_other (by omega), Or_other (by omega), Or_other (by omega), Or_other (by omega), Or_other (by omega), Or_other (by omega), Or_other (by omega), Or_other (by omega)]; exact h4
  · rw [Or_other (by omega), Or_other (by omega), Or_other (by omega), Or_other (by omega), Or_other (by omega), Or_other (by omega), Or_other (by omega), Or_other (by omega), Or_other (by omega), Or_other (by omega), Or_other (by omega), Or_other (by omega), Or_other (by omega)]; exact h5
  · rw [Or_other (by omega), Or_other (by omega), Or_other (by omega), Or_other (by omega), Or_other (by omega), Or_other (by omega), Or_other (by omega), Or_other (by omega), Or_other (by omega), Or_other (by omega), Or_other (by omega), Or_other (by omega), Or_other (by omega)]; exact h6
  · rw [Or_other (by omega), Or_other (by omega), Or_other (by omega), Or_other (by omega), Or_other (by omega), Or_other (by omega), Or_other (by omega), Or_other (by omega), Or_other (by omega), Or_other (by omega), Or_other (by omega), Or_other (by omega), Or_other (by omega)]; exact h7
  · rw [Or_other (by omega), Or_other (by omega), Or_other (by omega), Or_other (by omega), Or_other (by omega), Or_other (by omega), Or_other (by omega), Or_other (by omega), Or_other (by omega), Or_other (by omega), Or_other (by omega), Or_other (by omega), Or_other (by omega)]; exact h8
  · rw [Or_other (by omega), Or_other (by omega), Or_other (by omega), Or_other (by omega), Or_other (by omega), Or_other (by omega), Or_other (by omega), Or_other (by omega), Or_other (by omega), Or_other (by omega), Or_other (by omega), Or_other (by omega), Or_other (by omega)]; exact h9
  · rw [Or_other (by omega), Or_other (by omega), Or_other (by omega), Or_other (by omega), Or_other (by omega), Or_other (by omega), Or_other (by omega), Or_other (by omega), Or_other (by omega), Or_other (by omega), Or_other (by omega), Or_other (by omega), Or_other (by omega)]; exact h10
  · rw [Or_other (by omega), Or_other (by omega), Or_other (by omega), Or_other (by omega), Or_other (by omega), Or_other (by omega), Or_other (by omega), Or_other (by omega), Or_other (by omega), Or_other (by omega), Or_other (by omega), Or_other (by omega), Or_other (by omega)]; exact h11
  · rw [Or_other (by omega), Or_other (by omega), Or_other (by omega), Or_other (by omega), Or_other (by omega), Or_other (by omega), Or_other (by omega), Or_other (by omega), Or_other (by omega), Or_other (by omega), Or_other (by omega), Or_other (by omega), Or_other (by omega)]; exact h12

theorem grown_setOr {W W' : World} {g o : Nat} {x : OrR} (h : W.grownBy W' (some g)) : W.grownBy (setOr W' g o x) (some g) := by
  have hs : ∀ (X : World) (i : Nat) (v : Value), W.grownBy X (some g) → W.grownBy (X.setCell ⟨g, i, none⟩ v) (some g) := by
    intro X i v hX
    exact ⟨hX.os, hX.tape, hX.output, by simp [World.setCell]; exact hX.size, fun k hk hne => (Below.heap_setCell X _ v k (fun e => hne (by rw [e]))).trans (hX.block k hk hne)⟩
  exact hs _ _ _ (hs _ _ _ (hs _ _ _ (hs _ _ _ (hs _ _ _ (hs _ _ _ (hs _ _ _ (hs _ _ _ (hs _ _ _ (hs _ _ _ (hs _ _ _ (hs _ _ _ (hs _ _ _ (h)))))))))))))

/-- The cells of rows; a slice of the call's own that holds rows. -/
def OrR.cells (x : OrR) : List Value := [.int .i64 x.ky, .int .i64 x.st, .int .i64 x.en, .int .i64 x.an, .int .i64 x.asu, .int .i64 x.ale, .int .i64 x.amo, .int .i64 x.fn, .int .i64 x.fsu, .int .i64 x.fle, .int .i64 x.fmo, .int .i64 x.td, .bool x.tm]

def flatOr (xs : List OrR) : List Value := xs.flatMap OrR.cells

theorem flatOr_len (xs : List OrR) : (flatOr xs).length = xs.length * 13 := by
  induction xs with
  | nil => rfl
  | cons x r ih => show (x.cells ++ flatOr r).length = _; rw [List.length_append, ih]; simp [OrR.cells]; omega

theorem flatOr_get {xs : List OrR} {i : Nat} {x : OrR} (h : xs[i]? = some x) : (flatOr xs)[i * 13]? = some (.int .i64 x.ky) ∧ (flatOr xs)[i * 13 + 1]? = some (.int .i64 x.st) ∧ (flatOr xs)[i * 13 + 2]? = some (.int .i64 x.en) ∧ (flatOr xs)[i * 13 + 3]? = some (.int .i64 x.an) ∧ (flatOr xs)[i * 13 + 4]? = some (.int .i64 x.asu) ∧ (flatOr xs)[i * 13 + 5]? = some (.int .i64 x.ale) ∧ (flatOr xs)[i * 13 + 6]? = some (.int .i64 x.amo) ∧ (flatOr xs)[i * 13 + 7]? = some (.int .i64 x.fn) ∧ (flatOr xs)[i * 13 + 8]? = some (.int .i64 x.fsu) ∧ (flatOr xs)[i * 13 + 9]? = some (.int .i64 x.fle) ∧ (flatOr xs)[i * 13 + 10]? = some (.int .i64 x.fmo) ∧ (flatOr xs)[i * 13 + 11]? = some (.int .i64 x.td) ∧ (flatOr xs)[i * 13 + 12]? = some (.bool x.tm) := by
  induction xs generalizing i with
  | nil => simp at h
  | cons y r ih =>
    have hf : flatOr (y :: r) = y.cells ++ flatOr r := rfl
    cases i with
    | zero =>
      simp at h
      subst h
      rw [hf]
      exact ⟨rfl, rfl, rfl, rfl, rfl, rfl, rfl, rfl, rfl, rfl, rfl, rfl, rfl⟩
    | succ i =>
      simp at h
      obtain ⟨h0, h1, h2, h3, h4, h5, h6, h7, h8, h9, h10, h11, h12⟩ := ih h
      have hl : y.cells.length = 13 := rfl
      rw [hf]
      refine ⟨?_, ?_, ?_, ?_, ?_, ?_, ?_, ?_, ?_, ?_, ?_, ?_, ?_⟩
      · rw [List.getElem?_append_right (by omega), hl, show (i + 1) * 13 - 13 = i * 13 by omega]; exact h0
      · rw [List.getElem?_append_right (by omega), hl, show (i + 1) * 13 + 1 - 13 = i * 13 + 1 by omega]; exact h1
      · rw [List.getElem?_append_right (by omega), hl, show (i + 1) * 13 + 2 - 13 = i * 13 + 2 by omega]; exact h2
      · rw [List.getElem?_append_right (by omega), hl, show (i + 1) * 13 + 3 - 13 = i * 13 + 3 by omega]; exact h3
      · rw [List.getElem?_append_right (by omega), hl, show (i + 1) * 13 + 4 - 13 = i * 13 + 4 by omega]; exact h4
      · rw [List.getElem?_append_right (by omega), hl, show (i + 1) * 13 + 5 - 13 = i * 13 + 5 by omega]; exact h5
      · rw [List.getElem?_append_right (by omega), hl, show (i + 1) * 13 + 6 - 13 = i * 13 + 6 by omega]; exact h6
      · rw [List.getElem?_append_right (by omega), hl, show (i + 1) * 13 + 7 - 13 = i * 13 + 7 by omega]; exact h7
      · rw [List.getElem?_append_right (by omega), hl, show (i + 1) * 13 + 8 - 13 = i * 13 + 8 by omega]; exact h8
      · rw [List.getElem?_append_right (by omega), hl, show (i + 1) * 13 + 9 - 13 = i * 13 + 9 by omega]; exact h9
      · rw [List.getElem?_append_right (by omega), hl, show (i + 1) * 13 + 10 - 13 = i * 13 + 10 by omega]; exact h10
      · rw [List.getElem?_append_right (by omega), hl, show (i + 1) * 13 + 11 - 13 = i * 13 + 11 by omega]; exact h11
      · rw [List.getElem?_append_right (by omega), hl, show (i + 1) * 13 + 12 - 13 = i * 13 + 12 by omega]; exact h12

def OwnOr (W : World) (B : Nat) (v : Value) (ys : List OrR) : Prop := W.ownsRow B 112 13 v ys.length (flatOr ys)

/-- The block of a slice's rows, if there are any; what may be written; what has been marked. -/
def rowOr (a : Option Addr) (n : Nat) : Option Nat := if n = 0 then none else a.map (·.block)

theorem rowOr_pos {n : Nat} (h : n ≠ 0) (g o : Nat) : rowOr (some ⟨g, o, none⟩) n = some g := by unfold rowOr; rw [if_neg h]; rfl

def markOr (i : Nat) : OrR := ⟨1 + 13 * (i : Int), 1 + 13 * (i : Int) + 1, 1 + 13 * (i : Int) + 1 + 1, 1 + 13 * (i : Int) + 1 + 1 + 1, 1 + 13 * (i : Int) + 1 + 1 + 1 + 1, 1 + 13 * (i : Int) + 1 + 1 + 1 + 1 + 1, 1 + 13 * (i : Int) + 1 + 1 + 1 + 1 + 1 + 1, 1 + 13 * (i : Int) + 1 + 1 + 1 + 1 + 1 + 1 + 1, 1 + 13 * (i : Int) + 1 + 1 + 1 + 1 + 1 + 1 + 1 + 1, 1 + 13 * (i : Int) + 1 + 1 + 1 + 1 + 1 + 1 + 1 + 1 + 1, 1 + 13 * (i : Int) + 1 + 1 + 1 + 1 + 1 + 1 + 1 + 1 + 1 + 1, 1 + 13 * (i : Int) + 1 + 1 + 1 + 1 + 1 + 1 + 1 + 1 + 1 + 1 + 1, decide ((1 + 13 * (i : Int) + 1 + 1 + 1 + 1 + 1 + 1 + 1 + 1 + 1 + 1 + 1 + 1) % 3 = 0)⟩

def WrOr (W : World) (a : Option Addr) (n cap : Nat) : Prop := n = 0 ∨ ∃ g, a = some ⟨g, 0, none⟩ ∧ BlkOr W g 112 cap ∧ n ≤ cap

def MarkedOr (W : World) (a : Option Addr) (n : Nat) : Prop := n = 0 ∨ ∃ g, a = some ⟨g, 0, none⟩ ∧ ∀ i, i < n → OrRAt W g (i * 13) (markOr i)

theorem grown0Or {W W' : World} (h : Below W.heap.size W W') : W.grownBy W' none := ⟨h.os, h.tape, h.output, h.size, fun k hk _ => h.block k hk⟩

theorem MarkedOr.below {W W' : World} {a : Option Addr} {n : Nat} (h : MarkedOr W a n) (hb : Below W.heap.size W W') : MarkedOr W' a n := by
  rcases h with h | ⟨g, ha, hM⟩
  · exact Or.inl h
  · exact Or.inr ⟨g, ha, fun i hi => (hM i hi).below hb (hM i hi).lt⟩

theorem holdOr {W : World} {B : Nat} {v : Value} {ys : List OrR} (h : OwnOr W B v ys) (hl : ys.length ≤ 1048576) :
    ∃ a cap, v = .slice a ys.length cap ∧ OrRs W a ys.length ys ∧ WrOr W a ys.length cap ∧ ∀ g o, 0 < ys.length → a = some ⟨g, o, none⟩ → B ≤ g := by
  have hm : ys.length ≤ maxLen := by unfold maxLen; omega
  obtain ⟨hlen, h | ⟨g, cap, cur, rfl, hB, hblk, hnc, hcm, hsz, htk⟩⟩ := h
  · obtain ⟨rfl, h0⟩ := h
    rw [h0]
    exact ⟨none, 0, rfl, ⟨h0, Nat.zero_le _, Or.inl rfl⟩, Or.inl rfl, fun _ _ hp => by omega⟩
  · refine ⟨_, cap, rfl, ⟨rfl, hm, Or.inr ⟨g, 0, rfl, ?_⟩⟩, Or.inr ⟨g, rfl, ⟨cur, hblk, hsz⟩, hnc⟩, fun g' o' _ e => by simp at e; omega⟩
    intro i x hx
    have hi : i < ys.length := (List.getElem?_eq_some_iff.1 hx).1
    have hcell : ∀ j u, j < ys.length * 13 → (flatOr ys)[j]? = some u → W.cell? ⟨g, j, none⟩ = some u := by
      intro j u hj hu
      rw [Joins.cell_of_block hblk j, ← Array.getElem?_toList]
      rw [← htk, List.getElem?_take_of_lt hj] at hu
      exact hu
    obtain ⟨f0, f1, f2, f3, f4, f5, f6, f7, f8, f9, f10, f11, f12⟩ := flatOr_get hx
    rw [Nat.zero_add]
    exact ⟨hcell _ _ (by omega) f0, hcell _ _ (by omega) f1, hcell _ _ (by omega) f2, hcell _ _ (by omega) f3, hcell _ _ (by omega) f4, hcell _ _ (by omega) f5, hcell _ _ (by omega) f6, hcell _ _ (by omega) f7, hcell _ _ (by omega) f8, hcell _ _ (by omega) f9, hcell _ _ (by omega) f10, hcell _ _ (by omega) f11, hcell _ _ (by omega) f12⟩

theorem WrOr.below {W W' : World} {a : Option Addr} {n cap : Nat} (h : WrOr W a n cap) (hb : Below W.heap.size W W') : WrOr W' a n cap := by
  rcases h with h | ⟨g, ha, hB, hc⟩
  · exact Or.inl h
  · exact Or.inr ⟨g, ha, hB.below hb hB.lt, hc⟩

theorem WrOr.grown {W W' : World} {row : Option Nat} {a : Option Addr} {n cap : Nat} (h : WrOr W a n cap) (hg : W.grownBy W' row) (hne : ∀ g o, 0 < n → a = some ⟨g, o, none⟩ → some g ≠ row) : WrOr W' a n cap := by
  rcases h with h | ⟨g, ha, hB, hc⟩
  · exact Or.inl h
  · by_cases h0 : n = 0
    · exact Or.inl h0
    · obtain ⟨cur, c1, c2⟩ := hB
      exact Or.inr ⟨g, ha, ⟨cur, (hg.block g (Array.getElem?_eq_some_iff.1 c1).1 (hne g 0 (by omega) ha)).trans c1, c2⟩, hc⟩

set_option maxHeartbeats 1000000 in
theorem eqOr_one (x : OrR) (w : World) : Calls Tryz.prog 101 #[.agg #[.int .i64 x.ky, .int .i64 x.st, .int .i64 x.en, .int .i64 x.an, .int .i64 x.asu, .int .i64 x.ale, .int .i64 x.amo, .int .i64 x.fn, .int .i64 x.fsu, .int .i64 x.fle, .int .i64 x.fmo, .int .i64 x.td, .bool x.tm], .agg #[.int .i64 x.ky, .int .i64 x.st, .int .i64 x.en, .int .i64 x.an, .int .i64 x.asu, .int .i64 x.ale, .int .i64 x.amo, .int .i64 x.fn, .int .i64 x.fsu, .int .i64 x.fle, .int .i64 x.fmo, .int .i64 x.td, .bool x.tm]] w fun e w' => e = .returned (.bool true) ∧ Below w.heap.size w w' := by
  go_enter Tryz.func101, Tryz.ntmps101
  go_wp2_with (first
    | (go_at_call 109; refine (eqWinT _ _ _).mono ?_; rintro e w' ⟨rfl, hb⟩; obtain ⟨hc, hf, hs⟩ := bcell hb; (try have hz0 : w.heap.size < w'.heap.size := (by have h9 := hb.size; (try simp at h9); omega)); (try have hz1 : w.heap.size + 1 < w'.heap.size := (by have h9 := hb.size; (try simp at h9); omega)))
    | (go_at_call 110; refine (eqAggT _ _ _ _ _).mono ?_; rintro e w' ⟨rfl, hb⟩; obtain ⟨hc, hf, hs⟩ := bcell hb; (try have hz0 : w.heap.size < w'.heap.size := (by have h9 := hb.size; (try simp at h9); omega)); (try have hz1 : w.heap.size + 1 < w'.heap.size := (by have h9 := hb.size; (try simp at h9); omega))))
  go_ret
  exact ⟨rfl, (belB)⟩

set_option maxRecDepth 20000 in
set_option maxHeartbeats 1000000 in
theorem eqOr_any (a1 a2 : Option Addr) (len cap1 cap2 : Nat) (xs : List OrR) (w : World) (h1 : OrRs w a1 len xs) (h2 : OrRs w a2 len xs) : Calls Tryz.prog 94 #[.slice a1 len cap1, .slice a2 len cap2] w fun e w' => e = .returned (.bool true) ∧ Below w.heap.size w w' := by
  have hm := h1.2.1
  unfold maxLen at hm
  go_enter Tryz.func94, Tryz.ntmps94
  go_wp2
  go_loopw [5] (fun i wr => ∃ k : Nat, k ≤ len ∧ i = .int .i64 k ∧ Below w.heap.size w wr) (fun i _ => len - (intOf i).toNat)
  case atStart => exact ⟨0, Nat.zero_le _, rfl, Below.refl _ _⟩
  case round =>
    obtain ⟨k, hk, rfl, hbw⟩ := hrel
    by_cases hlt : k < len
    · obtain ⟨hl1, _, hx1⟩ := h1
      obtain ⟨hl2, _, hx2⟩ := h2
      obtain ⟨g1, o1, rfl, hr1⟩ := hx1.resolve_left (by omega)
      obtain ⟨g2, o2, rfl, hr2⟩ := hx2.resolve_left (by omega)
      obtain ⟨x, hxk⟩ : ∃ x, xs[k]? = some x := ⟨_, List.getElem?_eq_getElem (by omega)⟩
      have hg1 : g1 < w.heap.size := hr1.lt (by omega)
      have hg2 : g2 < w.heap.size := hr2.lt (by omega)
      have hs1 : g1 < wr.heap.size := Nat.lt_of_lt_of_le hg1 hbw.size
      have hs2 : g2 < wr.heap.size := Nat.lt_of_lt_of_le hg2 hbw.size
      have hS : ((wr.cell? ⟨g1, o1 + k * 13, none⟩ = some (.int .i64 x.ky) ∧ wr.cell? ⟨g1, o1 + k * 13 + 1, none⟩ = some (.int .i64 x.st) ∧ wr.cell? ⟨g1, o1 + k * 13 + 2, none⟩ = some (.int .i64 x.en) ∧ wr.cell? ⟨g1, o1 + k * 13 + 3, none⟩ = some (.int .i64 x.an) ∧ wr.cell? ⟨g1, o1 + k * 13 + 4, none⟩ = some (.int .i64 x.asu) ∧ wr.cell? ⟨g1, o1 + k * 13 + 5, none⟩ = some (.int .i64 x.ale) ∧ wr.cell? ⟨g1, o1 + k * 13 + 6, none⟩ = some (.int .i64 x.amo) ∧ wr.cell? ⟨g1, o1 + k * 13 + 7, none⟩ = some (.int .i64 x.fn) ∧ wr.cell? ⟨g1, o1 + k * 13 + 8, none⟩ = some (.int .i64 x.fsu) ∧ wr.cell? ⟨g1, o1 + k * 13 + 9, none⟩ = some (.int .i64 x.fle) ∧ wr.cell? ⟨g1, o1 + k * 13 + 10, none⟩ = some (.int .i64 x.fmo) ∧ wr.cell? ⟨g1, o1 + k * 13 + 11, none⟩ = some (.int .i64 x.td) ∧ wr.cell? ⟨g1, o1 + k * 13 + 12, none⟩ = some (.bool x.tm) ∧ wr.cell? ⟨g2, o2 + k * 13, none⟩ = some (.int .i64 x.ky) ∧ wr.cell? ⟨g2, o2 + k * 13 + 1, none⟩ = some (.int .i64 x.st) ∧ wr.cell? ⟨g2, o2 + k * 13 + 2, none⟩ = some (.int .i64 x.en) ∧ wr.cell? ⟨g2, o2 + k * 13 + 3, none⟩ = some (.int .i64 x.an) ∧ wr.cell? ⟨g2, o2 + k * 13 + 4, none⟩ = some (.int .i64 x.asu) ∧ wr.cell? ⟨g2, o2 + k * 13 + 5, none⟩ = some (.int .i64 x.ale) ∧ wr.cell? ⟨g2, o2 + k * 13 + 6, none⟩ = some (.int .i64 x.amo) ∧ wr.cell? ⟨g2, o2 + k * 13 + 7, none⟩ = some (.int .i64 x.fn) ∧ wr.cell? ⟨g2, o2 + k * 13 + 8, none⟩ = some (.int .i64 x.fsu) ∧ wr.cell? ⟨g2, o2 + k * 13 + 9, none⟩ = some (.int .i64 x.fle) ∧ wr.cell? ⟨g2, o2 + k * 13 + 10, none⟩ = some (.int .i64 x.fmo) ∧ wr.cell? ⟨g2, o2 + k * 13 + 11, none⟩ = some (.int .i64 x.td) ∧ wr.cell? ⟨g2, o2 + k * 13 + 12, none⟩ = some (.bool x.tm)) ∧ g1 < wr.heap.size ∧ g2 < wr.heap.size) := by
        obtain ⟨c0, c1, c2, c3, c4, c5, c6, c7, c8, c9, c10, c11, c12⟩ := (hr1 k _ hxk).below hbw hg1
        obtain ⟨d0, d1, d2, d3, d4, d5, d6, d7, d8, d9, d10, d11, d12⟩ := (hr2 k _ hxk).below hbw hg2
        exact ⟨⟨c0, c1, c2, c3, c4, c5, c6, c7, c8, c9, c10, c11, c12, d0, d1, d2, d3, d4, d5, d6, d7, d8, d9, d10, d11, d12⟩, hs1, hs2⟩
      clear hx1 hx2 hxk hr1 hr2
      go_wp2
      go_region_held3 (fun W => ((W.cell? ⟨g1, o1 + k * 13, none⟩ = some (.int .i64 x.ky) ∧ W.cell? ⟨g1, o1 + k * 13 + 1, none⟩ = some (.int .i64 x.st) ∧ W.cell? ⟨g1, o1 + k * 13 + 2, none⟩ = some (.int .i64 x.en) ∧ W.cell? ⟨g1, o1 + k * 13 + 3, none⟩ = some (.int .i64 x.an) ∧ W.cell? ⟨g1, o1 + k * 13 + 4, none⟩ = some (.int .i64 x.asu) ∧ W.cell? ⟨g1, o1 + k * 13 + 5, none⟩ = some (.int .i64 x.ale) ∧ W.cell? ⟨g1, o1 + k * 13 + 6, none⟩ = some (.int .i64 x.amo) ∧ W.cell? ⟨g1, o1 + k * 13 + 7, none⟩ = some (.int .i64 x.fn) ∧ W.cell? ⟨g1, o1 + k * 13 + 8, none⟩ = some (.int .i64 x.fsu) ∧ W.cell? ⟨g1, o1 + k * 13 + 9, none⟩ = some (.int .i64 x.fle) ∧ W.cell? ⟨g1, o1 + k * 13 + 10, none⟩ = some (.int .i64 x.fmo) ∧ W.cell? ⟨g1, o1 + k * 13 + 11, none⟩ = some (.int .i64 x.td) ∧ W.cell? ⟨g1, o1 + k * 13 + 12, none⟩ = some (.bool x.tm) ∧ W.cell? ⟨g2, o2 + k * 13, none⟩ = some (.int .i64 x.ky) ∧ W.cell? ⟨g2, o2 + k * 13 + 1, none⟩ = some (.int .i64 x.st) ∧ W.cell? ⟨g2, o2 + k * 13 + 2, none⟩ = some (.int .i64 x.en) ∧ W.cell? ⟨g2, o2 + k * 13 + 3, none⟩ = some (.int .i64 x.an) ∧ W.cell? ⟨g2, o2 + k * 13 + 4, none⟩ = some (.int .i64 x.asu) ∧ W.cell? ⟨g2, o2 + k * 13 + 5, none⟩ = some (.int .i64 x.ale) ∧ W.cell? ⟨g2, o2 + k * 13 + 6, none⟩ = some (.int .i64 x.amo) ∧ W.cell? ⟨g2, o2 + k * 13 + 7, none⟩ = some (.int .i64 x.fn) ∧ W.cell? ⟨g2, o2 + k * 13 + 8, none⟩ = some (.int .i64 x.fsu) ∧ W.cell? ⟨g2, o2 + k * 13 + 9, none⟩ = some (.int .i64 x.fle) ∧ W.cell? ⟨g2, o2 + k * 13 + 10, none⟩ = some (.int .i64 x.fmo) ∧ W.cell? ⟨g2, o2 + k * 13 + 11, none⟩ = some (.int .i64 x.td) ∧ W.cell? ⟨g2, o2 + k * 13 + 12, none⟩ = some (.bool x.tm)) ∧ g1 < W.heap.size ∧ g2 < W.heap.size)) ((first | ((repeat (first | (with_reducible assumption) | (with_reducible refine hd_13_13 ?_ (by with_reducible assumption)) | (with_reducible refine hd_13_13 ?_ (bel_drew (Below.refl _ _))) | (with_reducible exact hd_13_13_re (by with_reducible assumption) (sB) (sB)) | (with_reducible refine hd_13_13 ?_ (bel_one _ _)) | (with_reducible refine hd_13_13_set ?_ (sB) (sB) _))); done) | (refine ⟨⟨?_, ?_, ?_, ?_, ?_, ?_, ?_, ?_, ?_, ?_, ?_, ?_, ?_, ?_, ?_, ?_, ?_, ?_, ?_, ?_, ?_, ?_, ?_, ?_, ?_, ?_⟩, ?_, ?_⟩ <;> first | (go_keep; done) | (simp; done) | (simp; omega) | omega)))
        (first
        | (go_at_call 101; refine (eqOr_one _ _).mono ?_; rintro e w' ⟨rfl, hb⟩; obtain ⟨hc, hf, hs⟩ := bcell hb))
      go_wp2
      go_roundw
      case rel => exact ⟨k + 1, by omega, by go_num, (belB)⟩
      case measure => simp [intOf]; omega
    · go_wp2
      go_ret
      exact ⟨rfl, hbw⟩
end Go.Proofs.YtbjhpiannjepkaaGreat
namespace Go.Proofs.YtbjhpiannjepkaaGreat
open Go.ChangeShapes Go.WideShapes Go.ChangeAt Go.RowKit
set_option linter.unusedVariables false

theorem within_any (n a b : Int) (w : World) : Calls Tryz.prog 55 #[.int .i64 n, .int .i64 a, .int .i64 b] w fun e w' => e = .returned (.bool (inB n a b)) ∧ w' = w := by
  by_cases h1 : a ≤ n
  · by_cases h2 : n ≤ b
    · have h3 := hide (inB_tt h1 h2)
      go_enter Tryz.func55, Tryz.ntmps55
      go_wp2
      go_ret
      exact ⟨ret_b (unhide h3).symm, rfl⟩
    · have h3 := hide (inB_ff (n := n) (a := a) (b := b) (by omega))
      go_enter Tryz.func55, Tryz.ntmps55
      go_wp2
      go_ret
      exact ⟨ret_b (unhide h3).symm, rfl⟩
  · have h3 := hide (inB_ff (n := n) (a := a) (b := b) (by omega))
    go_enter Tryz.func55, Tryz.ntmps55
    go_wp2
    go_ret
    exact ⟨ret_b (unhide h3).symm, rfl⟩

theorem l1In_any (n a b : Int) (w : World) : Calls Tryz.prog 46 #[.int .i64 n, .int .i64 a, .int .i64 b] w fun e w' => e = .returned (.bool (inB n a b)) ∧ w' = w := by
  by_cases h1 : a ≤ n
  · by_cases h2 : n ≤ b
    · have h3 := hide (inB_tt h1 h2)
      go_enter Tryz.func46, Tryz.ntmps46
      go_wp2
      go_ret
      exact ⟨ret_b (unhide h3).symm, rfl⟩
    · have h3 := hide (inB_ff (n := n) (a := a) (b := b) (by omega))
      go_enter Tryz.func46, Tryz.ntmps46
      go_wp2
      go_ret
      exact ⟨ret_b (unhide h3).symm, rfl⟩
  · have h3 := hide (inB_ff (n := n) (a := a) (b := b) (by omega))
    go_enter Tryz.func46, Tryz.ntmps46
    go_wp2
    go_ret
    exact ⟨ret_b (unhide h3).symm, rfl⟩

theorem toWin_any (a b : Int) (w : World) : Calls Tryz.prog 102 #[.agg #[.int .i64 a, .int .i64 b]] w fun e w' => e = .returned (.agg #[.int .i64 a, .int .i64 b]) ∧ Below w.heap.size w w' := by
  go_enter Tryz.func102, Tryz.ntmps102
  go_wp2
  exact bodyPost_ret (v := .agg #[.int .i64 a, .int .i64 b]) (by simp [results, Tryz.results102, go_sem]) rfl ⟨rfl, bel_alloc (bel_alloc (bel_one _ _) _) _⟩

/-- When a window is ok. -/
def okWin (a b : Int) : Bool := inB a 0 60 && inB b (a + 1) 120

theorem winok_any (a b : Int) (w : World) : Calls Tryz.prog 111 #[.agg #[.int .i64 a, .int .i64 b]] w fun e w' => e = .returned (.bool (okWin a b)) ∧ Below w.heap.size w w' := by
  by_cases h1 : 0 ≤ a ∧ a ≤ 60
  · obtain ⟨h1, h2⟩ := h1
    have h3 := inB_tt h1 h2
    have h4 : Hid (okWin a b = inB b (a + 1) 120) := hide (by simp [okWin, h3])
    go_enter Tryz.func111, Tryz.ntmps111
    go_wp2_with (go_at_call 55; refine (within_any _ _ _ _).mono ?_; rintro e w' ⟨rfl, rfl⟩)
    go_ret
    exact ⟨ret_b (unhide h4).symm, bel_one _ _⟩
  · have h3 := inB_ff (n := a) (a := 0) (b := 60) (by omega)
    have h4 : Hid (okWin a b = false) := hide (by simp [okWin, h3])
    go_enter Tryz.func111, Tryz.ntmps111
    go_wp2_with (go_at_call 55; refine (within_any _ _ _ _).mono ?_; rintro e w' ⟨rfl, rfl⟩)
    go_ret
    exact ⟨ret_b (unhide h4).symm, bel_one _ _⟩

theorem specwinok_any (a b : Int) (w : World) : Calls Tryz.prog 95 #[.agg #[.int .i64 a, .int .i64 b]] w fun e w' => e = .returned (.bool (okWin a b)) ∧ Below w.heap.size w w' := by
  by_cases h1 : 0 ≤ a ∧ a ≤ 60
  · obtain ⟨h1, h2⟩ := h1
    have h3 := inB_tt h1 h2
    have h4 : Hid (okWin a b = inB b (a + 1) 120) := hide (by simp [okWin, h3])
    go_enter Tryz.func95, Tryz.ntmps95
    go_wp2_with (go_at_call 46; refine (l1In_any _ _ _ _).mono ?_; rintro e w' ⟨rfl, rfl⟩)
    go_ret
    exact ⟨ret_b (unhide h4).symm, bel_one _ _⟩
  · have h3 := inB_ff (n := a) (a := 0) (b := 60) (by omega)
    have h4 : Hid (okWin a b = false) := hide (by simp [okWin, h3])
    go_enter Tryz.func95, Tryz.ntmps95
    go_wp2_with (go_at_call 46; refine (l1In_any _ _ _ _).mono ?_; rintro e w' ⟨rfl, rfl⟩)
    go_ret
    exact ⟨ret_b (unhide h4).symm, bel_one _ _⟩
end Go.Proofs.YtbjhpiannjepkaaGreat
namespace Go.Proofs.YtbjhpiannjepkaaGreat
open Go.ChangeShapes Go.WideShapes Go.ChangeAt Go.RowKit
set_option linter.unusedVariables false

theorem toAgg_any (n s l m : Int) (w : World) : Calls Tryz.prog 103 #[.agg #[.int .i64 n, .int .i64 s, .int .i64 l, .int .i64 m]] w fun e w' => e = .returned (.agg #[.int .i64 n, .int .i64 s, .int .i64 l, .int .i64 m]) ∧ Below w.heap.size w w' := by
  go_enter Tryz.func103, Tryz.ntmps103
  go_wp2
  refine bodyPost_ret (v := .agg #[.int .i64 n, .int .i64 s, .int .i64 l, .int .i64 m]) (by simp [results, Tryz.results103, go_sem]) rfl ⟨rfl, ?_⟩
  exact (belC)

/-- When what is known is ok. -/
def okAgg (n s l m : Int) : Bool := if n = 0 then (s == 0) && (l == 0) && (m == 0) else inB n 1 1000 && inB l (-9) 9 && inB m l 9 && inB s (n * l) (n * m)

theorem okAgg_0 (s l m : Int) : okAgg 0 s l m = ((s == 0) && (l == 0) && (m == 0)) := rfl

theorem okAgg_n {n : Int} (h : n ≠ 0) (s l m : Int) : okAgg n s l m = (inB n 1 1000 && inB l (-9) 9 && inB m l 9 && inB s (n * l) (n * m)) := if_neg h

theorem mul_in {n l : Int} (h1 : inB n 1 1000 = true) (h2 : inB l (-9) 9 = true) : -9000 ≤ n * l ∧ n * l ≤ 9000 := by
  rw [inB_iff] at h1 h2
  have a := Int.mul_le_mul_of_nonneg_left h2.2 (show (0 : Int) ≤ n by omega)
  have b := Int.mul_le_mul_of_nonneg_left h2.1 (show (0 : Int) ≤ n by omega)
  omega

theorem inB_up {m l : Int} (h1 : inB l (-9) 9 = true) (h2 : inB m l 9 = true) : inB m (-9) 9 = true := by
  rw [inB_iff] at *
  omega

theorem specaggok_any (n s l m : Int) (w : World) : Calls Tryz.prog 96 #[.agg #[.int .i64 n, .int .i64 s, .int .i64 l, .int .i64 m]] w fun e w' => e = .returned (.bool (okAgg n s l m)) ∧ Below w.heap.size w w' := by
  by_cases h0 : n = 0
  · subst h0
    rw [okAgg_0]
    cases c0 : (s == 0) <;> cases c1 : (l == 0) <;> cases c2 : (m == 0)
    all_goals
      have hq : Hid (true = true) := hide rfl
      go_enter Tryz.func96, Tryz.ntmps96
      go_wp2_with (go_at_call 46; refine (l1In_any _ _ _ _).mono ?_; rintro e w' ⟨rfl, rfl⟩)
      go_ret
      exact ⟨rfl, (belC)⟩
  rw [okAgg_n h0]
  have g0 : (n == 0) = false := by simpa using h0
  clear h0
  cases c0 : inB n 1 1000
  · have hq : Hid ((false && inB l (-9) 9 && inB m l 9 && inB s (n * l) (n * m)) = false) := hide (by simp)
    go_enter Tryz.func96, Tryz.ntmps96
    go_wp2_with (go_at_call 46; refine (l1In_any _ _ _ _).mono ?_; rintro e w' ⟨rfl, rfl⟩)
    go_ret
    exact ⟨ret_b (unhide hq).symm, (belC)⟩
  cases c1 : inB l (-9) 9
  · have hq : Hid ((true && false && inB m l 9 && inB s (n * l) (n * m)) = false) := hide (by simp)
    go_enter Tryz.func96, Tryz.ntmps96
    go_wp2_with (go_at_call 46; refine (l1In_any _ _ _ _).mono ?_; rintro e w' ⟨rfl, rfl⟩)
    go_ret
    exact ⟨ret_b (unhide hq).symm, (belC)⟩
  cases c2 : inB m l 9
  · have hq : Hid ((true && true && false && inB s (n * l) (n * m)) = false) := hide (by simp)
    go_enter Tryz.func96, Tryz.ntmps96
    go_wp2_with (go_at_call 46; refine (l1In_any _ _ _ _).mono ?_; rintro e w' ⟨rfl, rfl⟩)
    go_ret
    exact ⟨ret_b (unhide hq).symm, (belC)⟩
  have m1 := mul_in c0 c1
  have m2 := mul_in c0 (inB_up c1 c2)
  have hq : Hid ((true && true && true && inB s (n * l) (n * m)) = inB s (n * l) (n * m)) := hide (by simp)
  go_enter Tryz.func96, Tryz.ntmps96
  go_wp2_with (go_at_call 46; refine (l1In_any _ _ _ _).mono ?_; rintro e w' ⟨rfl, rfl⟩)
  go_ret
  exact ⟨ret_b (unhide hq).symm, (belC)⟩

theorem aggok_any (n s l m : Int) (w : World) : Calls Tryz.prog 106 #[.agg #[.int .i64 n, .int .i64 s, .int .i64 l, .int .i64 m]] w fun e w' => e = .returned (.bool (okAgg n s l m)) ∧ Below w.heap.size w w' := by
  by_cases h0 : n = 0
  · subst h0
    rw [okAgg_0]
    cases c0 : (s == 0) <;> cases c1 : (l == 0) <;> cases c2 : (m == 0)
    all_goals
      have hq : Hid (true = true) := hide rfl
      go_enter Tryz.func106, Tryz.ntmps106
      go_wp2_with (go_at_call 55; refine (within_any _ _ _ _).mono ?_; rintro e w' ⟨rfl, rfl⟩)
      go_ret
      exact ⟨rfl, (belC)⟩
  rw [okAgg_n h0]
  have g0 : (n == 0) = false := by simpa using h0
  clear h0
  cases c0 : inB n 1 1000
  · have hq : Hid ((false && inB l (-9) 9 && inB m l 9 && inB s (n * l) (n * m)) = false) := hide (by simp)
    go_enter Tryz.func106, Tryz.ntmps106
    go_wp2_with (go_at_call 55; refine (within_any _ _ _ _).mono ?_; rintro e w' ⟨rfl, rfl⟩)
    go_ret
    exact ⟨ret_b (unhide hq).symm, (belC)⟩
  cases c1 : inB l (-9) 9
  · have hq : Hid ((true && false && inB m l 9 && inB s (n * l) (n * m)) = false) := hide (by simp)
    go_enter Tryz.func106, Tryz.ntmps106
    go_wp2_with (go_at_call 55; refine (within_any _ _ _ _).mono ?_; rintro e w' ⟨rfl, rfl⟩)
    go_ret
    exact ⟨ret_b (unhide hq).symm, (belC)⟩
  cases c2 : inB m l 9
  · have hq : Hid ((true && true && false && inB s (n * l) (n * m)) = false) := hide (by simp)
    go_enter Tryz.func106, Tryz.ntmps106
    go_wp2_with (go_at_call 55; refine (within_any _ _ _ _).mono ?_; rintro e w' ⟨rfl, rfl⟩)
    go_ret
    exact ⟨ret_b (unhide hq).symm, (belC)⟩
  have m1 := mul_in c0 c1
  have m2 := mul_in c0 (inB_up c1 c2)
  have hq : Hid ((true && true && true && inB s (n * l) (n * m)) = inB s (n * l) (n * m)) := hide (by simp)
  go_enter Tryz.func106, Tryz.ntmps106
  go_wp2_with (go_at_call 55; refine (within_any _ _ _ _).mono ?_; rintro e w' ⟨rfl, rfl⟩)
  go_ret
  exact ⟨ret_b (unhide hq).symm, (belC)⟩
end Go.Proofs.YtbjhpiannjepkaaGreat
namespace Go.Proofs.YtbjhpiannjepkaaGreat
open Go.ChangeShapes Go.WideShapes Go.ChangeAt Go.RowKit Go.Deep
set_option linter.unusedVariables false

/-- Each number is an int. -/
def OrR.ok64 (x : OrR) : Prop := (-9223372036854775808 ≤ x.ky ∧ x.ky ≤ 9223372036854775807) ∧ (-9223372036854775808 ≤ x.st ∧ x.st ≤ 9223372036854775807) ∧ (-9223372036854775808 ≤ x.en ∧ x.en ≤ 9223372036854775807) ∧ (-9223372036854775808 ≤ x.an ∧ x.an ≤ 9223372036854775807) ∧ (-9223372036854775808 ≤ x.asu ∧ x.asu ≤ 9223372036854775807) ∧ (-9223372036854775808 ≤ x.ale ∧ x.ale ≤ 9223372036854775807) ∧ (-9223372036854775808 ≤ x.amo ∧ x.amo ≤ 9223372036854775807) ∧ (-9223372036854775808 ≤ x.fn ∧ x.fn ≤ 9223372036854775807) ∧ (-9223372036854775808 ≤ x.fsu ∧ x.fsu ≤ 9223372036854775807) ∧ (-9223372036854775808 ≤ x.fle ∧ x.fle ≤ 9223372036854775807) ∧ (-9223372036854775808 ≤ x.fmo ∧ x.fmo ≤ 9223372036854775807) ∧ (-9223372036854775808 ≤ x.td ∧ x.td ≤ 9223372036854775807)

section
variable {H : Type} {enc : TypeId × Value → H} {P : Program} {w : World} {base : Nat} {spare : Nat → Bool} {held : Bool}
theorem cellsOr {a : Addr} {cs : List Value} (h : w.cells? base a 13 = some cs) (f0 : Fits cs [false, false, false, false, false, false, false, false, false, false, false, false, true]) : a.spot = none ∧ ∃ x : OrR, OrRAt w a.block a.off x ∧ x.ok64 := by
  obtain ⟨z0, r0, rfl, y0, f1⟩ := fits_int f0
  clear f0
  obtain ⟨z1, r1, rfl, y1, f2⟩ := fits_int f1
  clear f1
  obtain ⟨z2, r2, rfl, y2, f3⟩ := fits_int f2
  clear f2
  obtain ⟨z3, r3, rfl, y3, f4⟩ := fits_int f3
  clear f3
  obtain ⟨z4, r4, rfl, y4, f5⟩ := fits_int f4
  clear f4
  obtain ⟨z5, r5, rfl, y5, f6⟩ := fits_int f5
  clear f5
  obtain ⟨z6, r6, rfl, y6, f7⟩ := fits_int f6
  clear f6
  obtain ⟨z7, r7, rfl, y7, f8⟩ := fits_int f7
  clear f7
  obtain ⟨z8, r8, rfl, y8, f9⟩ := fits_int f8
  clear f8
  obtain ⟨z9, r9, rfl, y9, f10⟩ := fits_int f9
  clear f9
  obtain ⟨z10, r10, rfl, y10, f11⟩ := fits_int f10
  clear f10
  obtain ⟨z11, r11, rfl, y11, f12⟩ := fits_int f11
  clear f11
  obtain ⟨z12, r12, rfl, f13⟩ := fits_bool f12
  clear f12
  obtain rfl := fits_nil f13
  obtain ⟨_, hlen, hc⟩ := World.cells?_some h
  have c0 := hc 0 (by omega)
  have c1 := hc 1 (by omega)
  have c2 := hc 2 (by omega)
  have c3 := hc 3 (by omega)
  have c4 := hc 4 (by omega)
  have c5 := hc 5 (by omega)
  have c6 := hc 6 (by omega)
  have c7 := hc 7 (by omega)
  have c8 := hc 8 (by omega)
  have c9 := hc 9 (by omega)
  have c10 := hc 10 (by omega)
  have c11 := hc 11 (by omega)
  have c12 := hc 12 (by omega)
  obtain ⟨g, o, sp⟩ := a
  have ha0 : (⟨g, o, sp⟩ : Addr).add 0 = ⟨g, o, sp⟩ := by simp [Addr.add]
  have hsp : sp = none := World.cell?_spot (w := w) (a := ⟨g, o, sp⟩) (v := .int .i64 z0) (by rw [← ha0]; simpa using c0)
  subst hsp
  exact ⟨rfl, ⟨z0, z1, z2, z3, z4, z5, z6, z7, z8, z9, z10, z11, z12⟩, ⟨by simpa [Addr.add] using c0, by simpa [Addr.add] using c1, by simpa [Addr.add] using c2, by simpa [Addr.add] using c3, by simpa [Addr.add] using c4, by simpa [Addr.add] using c5, by simpa [Addr.add] using c6, by simpa [Addr.add] using c7, by simpa [Addr.add] using c8, by simpa [Addr.add] using c9, by simpa [Addr.add] using c10, by simpa [Addr.add] using c11, by simpa [Addr.add] using c12⟩, bnd64 y0, bnd64 y1, bnd64 y2, bnd64 y3, bnd64 y4, bnd64 y5, bnd64 y6, bnd64 y7, bnd64 y8, bnd64 y9, bnd64 y10, bnd64 y11⟩
theorem openOr {t e : TypeId} {a : Option Addr} {len cap : Nat} {d : DataW H} {p : List MemPlace} (ht : P.underlying t = some (.slice e)) (hk : flatK P 5 e = some [false, false, false, false, false, false, false, false, false, false, false, false, true]) (hC : P.cellsOf e = 13)
    (h : DataW.Trod enc P w base spare held t (.slice a len cap) d p) : ∃ xs : List OrR, OrRs w a len xs ∧ ∀ x ∈ xs, x.ok64 := by
  obtain ⟨fuel, hf⟩ := h
  rcases open_slice ht hf with ⟨hcs, _⟩ | ⟨a', len', cap', m, n, D, Pl, hcs, _, hl, hm, hmm, _, hx⟩
  · simp [Value.cells] at hcs
    obtain ⟨rfl, rfl, rfl⟩ := hcs
    exact ⟨[], ⟨rfl, Nat.zero_le _, Or.inl rfl⟩, by simp⟩
  · simp [Value.cells] at hcs
    obtain ⟨rfl, rfl, rfl⟩ := hcs
    have hlm : len ≤ m := by rw [hmm]; split <;> omega
    have hall : ∀ i, i < len → ∃ x : OrR, (i = 0 → a'.spot = none) ∧ OrRAt w a'.block (a'.off + i * 13) x ∧ x.ok64 := by
      intro i hi
      obtain ⟨cs', h1, h2⟩ := hx i (by omega)
      rw [hC] at h1
      obtain ⟨hsp, x, hxa, hxo⟩ := cellsOr h1 (fits_trod 5 hk h2)
      have hb : (a'.add (i * 13)).block = a'.block ∧ (a'.add (i * 13)).off = a'.off + i * 13 := by
        unfold Addr.add
        split
        · exact ⟨rfl, by omega⟩
        · exact ⟨rfl, rfl⟩
      rw [hb.1, hb.2] at hxa
      refine ⟨x, fun h0 => ?_, hxa, hxo⟩
      subst h0
      simpa [Addr.add] using hsp
    by_cases h0 : len = 0
    · subst h0
      exact ⟨[], ⟨rfl, Nat.zero_le _, Or.inl rfl⟩, by simp⟩
    have hinh : Inhabited OrR := ⟨⟨0, 0, 0, 0, 0, 0, 0, 0, 0, 0, 0, 0, false⟩⟩
    obtain ⟨f, hf'⟩ := choose_lt hall
    have hsp := (hf' 0 (by omega)).1 rfl
    refine ⟨(List.range len).map f, ⟨by simp, by omega, Or.inr ⟨a'.block, a'.off, by cases a'; simp_all, ?_⟩⟩, ?_⟩
    · intro i x hix
      simp only [List.getElem?_map, Option.map_eq_some_iff] at hix
      obtain ⟨j, hj, rfl⟩ := hix
      have hil : i < len := by
        rcases Nat.lt_or_ge i len with h' | h'
        · exact h'
        · rw [List.getElem?_eq_none (by simpa using h')] at hj; cases hj
      rw [List.getElem?_eq_getElem (by simpa using hil)] at hj
      simp at hj
      subst hj
      exact (hf' i hil).2.1
    · intro x hxm
      simp only [List.mem_map, List.mem_range] at hxm
      obtain ⟨i, hi, rfl⟩ := hxm
      exact (hf' i hi).2.2
end

theorem Tryz.infoOr : (Tryz.prog.info? 112).map (fun i => (i.zero, i.size, i.bytes)) = some (some (.agg #[.int .i64 0, .int .i64 0, .int .i64 0, .int .i64 0, .int .i64 0, .int .i64 0, .int .i64 0, .int .i64 0, .int .i64 0, .int .i64 0, .int .i64 0, .int .i64 0, .bool false]), 13, 104) := by kernel_rfl

theorem mkOr (len : Nat) (hl : len ≤ 1048576) : ∃ C : Array Value, C.size = len * 13 ∧ ∀ w : World, (Instr.makeSlice 76 (.int .i64 (len : Int)) (.int .i64 (len : Int))).run Tryz.prog w = .ok (.slice (some ⟨w.heap.size, 0, none⟩) len len) (w.alloc (.cells C 112)) := by
  obtain ⟨i0, hi, hz0, hz1, hz2⟩ := info_parts Tryz.infoOr
  refine ⟨madeCells (Value.agg #[.int .i64 0, .int .i64 0, .int .i64 0, .int .i64 0, .int .i64 0, .int .i64 0, .int .i64 0, .int .i64 0, .int .i64 0, .int .i64 0, .int .i64 0, .int .i64 0, .bool false]).cells (len * i0.size), by rw [size_madeCells, hz1], fun w => ?_⟩
  have h := run_make (P := Tryz.prog) w 76 112 i0 _ Tryz.underlying76 hi hz0 .i64 .i64 len len (by omega) (Int.le_refl _) (by rw [hz2]; omega) (by omega)
  simpa using h

/-- The slice that is being filled. -/
def FillOr (W : World) (g ty len : Nat) (ys : List OrR) : Prop := BlkOr W g ty len ∧ ∀ i x, ys[i]? = some x → OrRAt W g (i * 13) x

theorem FillOr.step {wr w' : World} {g ty len k : Nat} {xs : List OrR} {x : OrR} (h : FillOr wr g ty len (xs.take k)) (hb : Below wr.heap.size wr w') (hk : k < len) (hx : xs[k]? = some x) : FillOr (setOr w' g (k * 13) x) g ty len (xs.take (k + 1)) := by
  have hB := h.1.below hb h.1.lt
  refine ⟨hB.sets x, fun i y hy => ?_⟩
  have hik : i < k + 1 := by
    rcases Nat.lt_or_ge i (k + 1) with h' | h'
    · exact h'
    · rw [List.getElem?_eq_none (by simp; omega)] at hy; cases hy
  rw [List.getElem?_take_of_lt hik] at hy
  by_cases he : i = k
  · subst he
    rw [hx] at hy
    cases hy
    exact setOr_this hB hk x
  · refine setOr_ne ?_ he
    exact (h.2 i y (by rw [List.getElem?_take_of_lt (by omega)]; exact hy)).below hb h.1.lt

theorem FillOr.start {w : World} {ty len : Nat} {C : Array Value} (hC : C.size = len * 13) (xs : List OrR) : FillOr (w.alloc (.cells C ty)) w.heap.size ty len (xs.take 0) :=
  ⟨⟨C, by show (w.heap.push _)[w.heap.size]? = _; simp, hC⟩, fun i x h => by simp at h⟩

theorem FillOr.done {W : World} {g ty len k : Nat} {xs : List OrR} (h : FillOr W g ty len (xs.take k)) (hk : xs.length ≤ k) : OrRsAt W g 0 xs := by
  intro i x hx
  rw [List.take_of_length_le hk] at h
  simpa using h.2 i x hx

theorem below_setOr {B g o : Nat} {W W' : World} {x : OrR} (h : Below B W W') (hg : B ≤ g) : Below B W (setOr W' g o x) := (((((((((((((h.setCell hg _).setCell hg _).setCell hg _).setCell hg _).setCell hg _).setCell hg _).setCell hg _).setCell hg _).setCell hg _).setCell hg _).setCell hg _).setCell hg _).setCell hg _)

set_option maxRecDepth 20000 in
set_option maxHeartbeats 1000000 in
theorem toOr_one (ky : Int) (st : Int) (en : Int) (an : Int) (asu : Int) (ale : Int) (amo : Int) (fn : Int) (fsu : Int) (fle : Int) (fmo : Int) (td : Int) (tm : Bool) (w : World) : Calls Tryz.prog 98 #[.agg #[.int .i64 ky, .int .i64 st, .int .i64 en, .int .i64 an, .int .i64 asu, .int .i64 ale, .int .i64 amo, .int .i64 fn, .int .i64 fsu, .int .i64 fle, .int .i64 fmo, .int .i64 td, .bool tm]] w fun e w' => e = .returned (.agg #[.int .i64 ky, .int .i64 st, .int .i64 en, .int .i64 an, .int .i64 asu, .int .i64 ale, .int .i64 amo, .int .i64 fn, .int .i64 fsu, .int .i64 fle, .int .i64 fmo, .int .i64 td, .bool tm]) ∧ Below w.heap.size w w' := by
  go_enter Tryz.func98, Tryz.ntmps98
  go_wp2_with (first
    | (go_at_call 102; refine (toWin_any _ _ _).mono ?_; rintro e w' ⟨rfl, hb⟩; obtain ⟨hc, hf, hs⟩ := bcell hb; (try have hz0 : w.heap.size < w'.heap.size := (by have h9 := hb.size; (try simp at h9); omega)); (try have hz1 : w.heap.size + 1 < w'.heap.size := (by have h9 := hb.size; (try simp at h9); omega)); (try have hz2 : w.heap.size + 1 + 1 < w'.heap.size := (by have h9 := hb.size; (try simp at h9); omega)))
    | (go_at_call 103; refine (toAgg_any _ _ _ _ _).mono ?_; rintro e w' ⟨rfl, hb⟩; obtain ⟨hc, hf, hs⟩ := bcell hb; (try have hz0 : w.heap.size < w'.heap.size := (by have h9 := hb.size; (try simp at h9); omega)); (try have hz1 : w.heap.size + 1 < w'.heap.size := (by have h9 := hb.size; (try simp at h9); omega)); (try have hz2 : w.heap.size + 1 + 1 < w'.heap.size := (by have h9 := hb.size; (try simp at h9); omega))))
  refine bodyPost_ret (v := .agg #[.int .i64 ky, .int .i64 st, .int .i64 en, .int .i64 an, .int .i64 asu, .int .i64 ale, .int .i64 amo, .int .i64 fn, .int .i64 fsu, .int .i64 fle, .int .i64 fmo, .int .i64 td, .bool tm]) (by simp (maxDischargeDepth := 9) [results, Tryz.results98, go_sem, *]) rfl ⟨rfl, ?_⟩
  exact (belB)

set_option maxRecDepth 20000 in
set_option maxHeartbeats 1000000 in
theorem toOr_at (a : Option Addr) (len cap : Nat) (xs : List OrR) (w : World) (h : OrRs w a len xs) (hl : len ≤ 1048576) : Calls Tryz.prog 87 #[.slice a len cap] w fun e w' => e = .returned (.slice (some ⟨w.heap.size, 0, none⟩) len len) ∧ OrRsAt w' w.heap.size 0 xs ∧ BlkOr w' w.heap.size 112 len ∧ Below w.heap.size w w' := by
  obtain ⟨C, hC, hmk⟩ := mkOr len hl
  go_enter Tryz.func87, Tryz.ntmps87
  go_wp2
  go_loopw [4] (fun i wr => ∃ k : Nat, k ≤ len ∧ i = .int .i64 k ∧ FillOr wr w.heap.size 112 len (xs.take k) ∧ Below w.heap.size w wr) (fun i _ => len - (intOf i).toNat)
  case atStart => exact ⟨0, Nat.zero_le _, rfl, FillOr.start hC xs, bel_one _ _⟩
  case round =>
    obtain ⟨k, hk, rfl, hF, hbw⟩ := hrel
    by_cases hlt : k < len
    · obtain ⟨hxl, hml, hx⟩ := h
      obtain ⟨g, o, rfl, hr⟩ := hx.resolve_left (by omega)
      obtain ⟨x, hxk⟩ : ∃ x, xs[k]? = some x := ⟨_, List.getElem?_eq_getElem (by omega)⟩
      have hg : g < w.heap.size := hr.lt (by omega)
      have hX := hide hxk
      obtain ⟨c0, c1, c2, c3, c4, c5, c6, c7, c8, c9, c10, c11, c12⟩ := (hr k _ hxk).below hbw hg
      obtain ⟨⟨u0, d0⟩, ⟨u1, d1⟩, ⟨u2, d2⟩, ⟨u3, d3⟩, ⟨u4, d4⟩, ⟨u5, d5⟩, ⟨u6, d6⟩, ⟨u7, d7⟩, ⟨u8, d8⟩, ⟨u9, d9⟩, ⟨u10, d10⟩, ⟨u11, d11⟩, ⟨u12, d12⟩⟩ := hF.1.cells hlt
      have f0 := hF.1.frozen (i := k * 13)
      have f1 := hF.1.frozen (i := k * 13 + 1)
      have f2 := hF.1.frozen (i := k * 13 + 2)
      have f3 := hF.1.frozen (i := k * 13 + 3)
      have f4 := hF.1.frozen (i := k * 13 + 4)
      have f5 := hF.1.frozen (i := k * 13 + 5)
      have f6 := hF.1.frozen (i := k * 13 + 6)
      have f7 := hF.1.frozen (i := k * 13 + 7)
      have f8 := hF.1.frozen (i := k * 13 + 8)
      have f9 := hF.1.frozen (i := k * 13 + 9)
      have f10 := hF.1.frozen (i := k * 13 + 10)
      have f11 := hF.1.frozen (i := k * 13 + 11)
      have f12 := hF.1.frozen (i := k * 13 + 12)
      have hz := hF.1.lt
      clear hx hxk
      go_wp2_with (go_at_call 98; refine (toOr_one _ _ _ _ _ _ _ _ _ _ _ _ _ _).mono ?_; rintro e w' ⟨rfl, hb⟩; obtain ⟨hc, hf, hs⟩ := bcell hb)
      go_roundw
      case rel => exact ⟨k + 1, by omega, by go_num, hF.step hb hlt (unhide hX), below_setOr (bel_trans hbw hb) (Nat.le_refl _)⟩
      case measure => simp [intOf]; omega
    · go_wp2
      go_ret
      exact ⟨rfl, hF.done (by have := h.1; omega), hF.1, hbw⟩

theorem szOr_le (a : Option Addr) (len cap : Nat) (L : Int) (w : World) (hL : L ≤ 1048576) (h1 : (len : Int) ≤ L) : Calls Tryz.prog 83 #[.slice a len cap, .int .i64 L] w fun e w' => e = .returned (.int .i64 (L - (len : Int))) ∧ w' = w := by
  go_enter Tryz.func83, Tryz.ntmps83
  go_wp2
  go_ret
  exact ⟨rfl, rfl⟩

theorem szOr_gt (a : Option Addr) (len cap : Nat) (L : Int) (w : World) (h : len ≤ maxLen) (h0 : 0 ≤ L) (hL : L ≤ 1048576) (h1 : ¬ (len : Int) ≤ L) : Calls Tryz.prog 83 #[.slice a len cap, .int .i64 L] w fun e w' => e = .returned (.int .i64 (-1)) ∧ w' = w := by
  unfold maxLen at h
  go_enter Tryz.func83, Tryz.ntmps83
  go_wp2
  go_ret
  exact ⟨rfl, rfl⟩
end Go.Proofs.YtbjhpiannjepkaaGreat
namespace Go.Proofs.YtbjhpiannjepkaaGreat
open Go.ChangeShapes Go.WideShapes Go.ChangeAt Go.RowKit
set_option linter.unusedVariables false

theorem grown_one {W : World} (p : Addr) (v : Value) : W.grownBy (W.setCell p v) (some p.block) := ⟨rfl, rfl, rfl, by simp [World.setCell], fun k hk hne => Below.heap_setCell W p v k (fun e => hne (by rw [e]))⟩

theorem OrRs.set {W : World} {p : Addr} {v : Value} {a : Option Addr} {n : Nat} {xs : List OrR} (h : OrRs W a n xs) (hp : ∀ g o, 0 < n → a = some ⟨g, o, none⟩ → p.block < g) : OrRs (W.setCell p v) a n xs := h.grown (grown_one p v) (fun g o hn ha => by have := hp g o hn ha; simp; omega)

theorem WrOr.set {W : World} {p : Addr} {v : Value} {a : Option Addr} {n cap : Nat} (h : WrOr W a n cap) (hp : ∀ g o, 0 < n → a = some ⟨g, o, none⟩ → p.block < g) : WrOr (W.setCell p v) a n cap := h.grown (grown_one p v) (fun g o hn ha => by have := hp g o hn ha; simp; omega)

set_option maxRecDepth 20000 in
theorem eqSt_any (m : Int) (a1 a2 : Option Addr) (len cap1 cap2 : Nat) (xs : List OrR) (w : World) (h1 : OrRs w a1 len xs) (h2 : OrRs w a2 len xs) : Calls Tryz.prog 82 #[.agg #[.int .i64 m, .slice a1 len cap1], .agg #[.int .i64 m, .slice a2 len cap2]] w fun e w' => e = .returned (.bool true) ∧ Below w.heap.size w w' := by
  go_enter Tryz.func82, Tryz.ntmps82
  go_wp2_with (go_at_call 94; refine (eqOr_any a1 a2 len cap1 cap2 xs _ (h1.below (belB)) (h2.below (belB))).mono ?_; rintro e' w' ⟨rfl, hb⟩)
  go_ret
  exact ⟨rfl, (belB)⟩
end Go.Proofs.YtbjhpiannjepkaaGreat
