/- Laid together: what the claim needs of the texts that were built one by one. -/
import Derived.Below
import Derived.BigQuiet
import Derived.Carry
import Derived.ChangeOld
import Derived.Deep.DeepCutAuto
import Derived.Deep.Fields
import Derived.Deep.Onto
import Derived.Deep.QuietTactic
import Derived.Deep.RegionHeld3
import Derived.Deep.RegionLawGrows
import Derived.Deep.Slices
import Derived.DeepKeys4
import Derived.Lib.SmallJoins
import Derived.LoopIn
import Derived.LoopN
import Derived.LoopNIn
import Derived.MapViews
import Derived.Maps.AppendAt
import Derived.Maps.Own
import Derived.Maps.OwnSet
import Derived.Maps.Views
import Derived.OpenShut
import Derived.OwnWalk
import Derived.OwnWalkIn
import Derived.ProofKit
import Derived.RangeFuncBound
import Derived.RangeFuncBox
import Derived.RangeFuncCalls
import Derived.RangeFuncLeaves
import Derived.RangeFuncNested
import Derived.Shelf.Abstract
import Derived.Shelf.RegionOpen
import Derived.ShutString
import Derived.Sort.Grow
import Derived.Sort.MapsRangeIn
import Derived.Sort.OwnSorted
import Derived.Stop.RegionWithIn
import Derived.TacticsInMore
import Derived.Test.YtikidpcgnmffcaaGreatRows
import Derived.Test.YtikidpcgnmffcaaGreatShelf
import Derived.WalkKit
import Derived.WalkSpells
namespace Go.Proofs.YtikidpcgnmffcaaGreat
/- Short names for library rows. -/
theorem tA {α : Type _} {l : List α} {i : Nat} {a : α} : l.toArray.setIfInBounds i a = (l.set i a).toArray := List.setIfInBounds_toArray l i a
theorem tZ {α : Type _} {x a : α} {l : List α} : (x :: l).set 0 a = a :: l := rfl
theorem tS {α : Type _} {x a : α} {l : List α} {i : Nat} : (x :: l).set (i + 1) a = x :: l.set i a := rfl
theorem gA {α : Type _} {l : List α} {i : Nat} : l.toArray[i]? = l[i]? := List.getElem?_toArray
theorem gZ {α : Type _} {x : α} {l : List α} : (x :: l)[0]? = some x := rfl
theorem gS {α : Type _} {x : α} {l : List α} {i : Nat} : (x :: l)[i + 1]? = l[i]? := rfl
open Go.ChangeShapes Go.WideShapes Go.ChangeAt Go.RowKit
theorem kT {P : Program} {ops : Array Oper} {Q : Exit → Act → World → Prop} {md : Region.Mode} {S : World → Prop} (i : Nat) {oi : Oper} {fuel : Nat} {listed : Array Bool} {a : Act} {w : World} (v : Value) (y : ∀ w, S w → (execOp a.eval oi).run P w = .ok (.value v) w) (h : wpAnyH P md ops Q S fuel (listed.setIfInBounds i true) (a.put oi.dst v) w) (h1 : ops[i]? = some oi := by simp only [gA, gZ, gS]; rfl) (h2 : Region.noSelect ops = true := by kernel_rfl) (h3 : Region.free md ops listed i = true := by kernel_rfl) (h4 : (Region.ready md ops listed).contains i = true := by kernel_rfl) (h5 : ∀ c a w, Q (.panic c) (a.put oi.dst v) w → Q (.panic c) a w := by intro _ _ _ h; exact h) (h6 : Region.wanted oi (yielded ops a.tmps) = true := by rfl) (h7 : S w := by assumption) : wpAnyH P md ops Q S (fuel + 1) listed a w := wpAnyH_take h1 h2 h3 h4 h5 (Or.inl ⟨h6, y⟩) h7 h
theorem kU {P : Program} {ops : Array Oper} {Q : Exit → Act → World → Prop} {md : Region.Mode} {S : World → Prop} (i : Nat) {oi : Oper} {fuel : Nat} {listed : Array Bool} {a : Act} {w : World} (h : wpAnyH P md ops Q S fuel (listed.setIfInBounds i true) (a.put oi.dst undef) w) (h1 : ops[i]? = some oi := by simp only [gA, gZ, gS]; rfl) (h2 : Region.noSelect ops = true := by kernel_rfl) (h3 : Region.free md ops listed i = true := by kernel_rfl) (h4 : (Region.ready md ops listed).contains i = true := by kernel_rfl) (h5 : ∀ c a w, Q (.panic c) (a.put oi.dst undef) w → Q (.panic c) a w := by intro _ _ _ h; exact h) (h6 : Region.wanted oi (yielded ops a.tmps) = false := by rfl) (h7 : S w := by assumption) : wpAnyH P md ops Q S (fuel + 1) listed a w := wpAnyH_take (v := undef) h1 h2 h3 h4 h5 (Or.inr ⟨h6, rfl⟩) h7 h
theorem belA {B : Nat} {w W : World} (h : Below B w W := by repeat (first | (with_reducible exact Below.refl _ _) | (with_reducible assumption) | (with_reducible refine bel_set ?_ (by first | (simp; done) | (simp; omega)) _) | (with_reducible refine bel_alloc ?_ _) | (with_reducible refine bel_drew ?_) | (with_reducible refine bel_drewN ?_ _) | (with_reducible refine bel_trans ?_ (by with_reducible assumption)))) : Below B w W := h
theorem belB {B : Nat} {w W : World} (h : Below B w W := by repeat (first | (with_reducible refine bel_set ?_ (by first | (simp; done) | (simp; omega)) _) | (with_reducible refine bel_alloc ?_ _) | (with_reducible exact Below.refl _ _) | (with_reducible assumption) | (with_reducible refine bel_drew ?_) | (with_reducible refine bel_drewN ?_ _) | (with_reducible refine bel_trans ?_ (by with_reducible assumption)))) : Below B w W := h
theorem belC {B : Nat} {w W : World} (h : Below B w W := by repeat (first | exact Below.refl _ _ | exact bel_one _ _ | assumption | refine bel_alloc ?_ _ | refine bel_set ?_ (by first | (simp; done) | (simp; omega)) _ | refine bel_drew ?_ | refine bel_drewN ?_ _ | refine bel_trans ?_ (by assumption))) : Below B w W := h
theorem sA {p : Prop} (h : p := by first | (simp; done) | (simp; omega)) : p := h
theorem sB {p : Prop} (h : p := by first | omega | (simp; done) | (simp; omega)) : p := h
theorem sC {p : Prop} (h : p := by first | (simp; done) | (simp; omega) | omega) : p := h
end Go.Proofs.YtikidpcgnmffcaaGreat
namespace Go.Proofs.YtikidpcgnmffcaaGreat
open Go.ChangeShapes Go.WideShapes Go.ChangeAt Go.RowKit Go.Deep
set_option linter.unusedVariables false

theorem bnd64 {z : Int} (h : (Lit.int .i64 z).wf = true) : -9223372036854775808 ≤ z ∧ z ≤ 9223372036854775807 := by
  have := bounds_i64 h; omega

theorem bel_trans {w w1 w2 : World} (h : Below w.heap.size w w1) (k : Below w1.heap.size w1 w2) : Below w.heap.size w w2 := h.trans (k.mono h.size)

theorem bel_alloc {w w1 : World} (h : Below w.heap.size w w1) (o : Obj) : Below w.heap.size w (w1.alloc o) := h.alloc h.size o

theorem bel_drew {w w1 : World} (h : Below w.heap.size w w1) : Below w.heap.size w w1.drew := h.drew

theorem bel_drewN {w w1 : World} (h : Below w.heap.size w w1) (n : Nat) : Below w.heap.size w (w1.drewN n) := h.trans ⟨rfl, rfl, rfl, Nat.le_refl _, fun _ _ => rfl⟩

theorem bel_set {w w1 : World} {p : Addr} (h : Below w.heap.size w w1) (hp : w.heap.size ≤ p.block) (u : Value) : Below w.heap.size w (w1.setCell p u) := h.setCell hp u

theorem bel_re (W : World) (o o' : Obj) : Below W.heap.size (W.alloc o) (W.alloc o') := ⟨rfl, rfl, rfl, by simp, fun k hk => by rw [Below.heap_alloc _ _ _ hk, Below.heap_alloc _ _ _ hk]⟩

theorem cell_set_ne {W : World} {p : Addr} {u : Value} {b o : Nat} (h : p.block ≠ b) : (W.setCell p u).cell? ⟨b, o, none⟩ = W.cell? ⟨b, o, none⟩ := World.cell?_of_block (w := W) (Below.heap_setCell _ _ _ _ (fun e => h e.symm))

theorem bel_one (w : World) (o : Obj) : Below w.heap.size w (w.alloc o) := bel_alloc (Below.refl _ _) o

theorem bcell {W w1 : World} (hb : Below W.heap.size W w1) : (∀ b o, b < W.heap.size → w1.cell? ⟨b, o, none⟩ = W.cell? ⟨b, o, none⟩) ∧ (∀ b o, b < W.heap.size → w1.frozen? ⟨b, o, none⟩ = W.frozen? ⟨b, o, none⟩) ∧ (∀ b, b < W.heap.size → b < w1.heap.size) :=
  ⟨fun b o h => hb.cell (p := ⟨b, o, none⟩) h, fun b o h => hb.frozen (p := ⟨b, o, none⟩) h, fun b h => Nat.lt_of_lt_of_le h hb.size⟩

theorem hide {p : Prop} (h : p) : Hid p := h

theorem unhide {p : Prop} (h : Hid p) : p := h

theorem ret_i {a b : Int} (h : a = b) : Ending.returned (.int .i64 a) = .returned (.int .i64 b) := by rw [h]

theorem ret_b {a b : Bool} (h : a = b) : Ending.returned (.bool a) = .returned (.bool b) := by rw [h]

/-- The lesser and the greater of two. -/
def loI (a c : Int) : Int := if c < a then c else a

def hiI (b d : Int) : Int := if b < d then d else b

theorem loI_a {a c : Int} (h : ¬ c < a) : loI a c = a := if_neg h

theorem loI_c {a c : Int} (h : c < a) : loI a c = c := if_pos h

theorem hiI_b {b d : Int} (h : ¬ b < d) : hiI b d = b := if_neg h

theorem hiI_d {b d : Int} (h : b < d) : hiI b d = d := if_pos h

/-- Whether a number is from least to most. -/
def inB (n a b : Int) : Bool := decide (a ≤ n ∧ n ≤ b)

theorem inB_tt {n a b : Int} (h1 : a ≤ n) (h2 : n ≤ b) : inB n a b = true := decide_eq_true ⟨h1, h2⟩

theorem inB_ff {n a b : Int} (h : n < a ∨ b < n) : inB n a b = false := decide_eq_false (by omega)

theorem inB_iff {n a b : Int} : inB n a b = true ↔ a ≤ n ∧ n ≤ b := by simp [inB]
end Go.Proofs.YtikidpcgnmffcaaGreat
namespace Go.Proofs.YtikidpcgnmffcaaGreat
open Go.ChangeShapes Go.WideShapes Go.ChangeAt Go.RowKit Go.Deep
set_option linter.unusedVariables false

/-- The cells of a list of fields, from a place on: false for an int, true for a bool. -/
def flatFs (P : Program) (rec : TypeId → Option (List Bool)) : List Field → Nat → Option (List Bool)
  | [], _ => some []
  | f :: r, off => match rec f.type with
    | some ks => if f.offset = off ∧ P.cellsOf f.type = ks.length then
        match flatFs P rec r (off + ks.length) with
        | some rest => some (ks ++ rest)
        | none => none
      else none
    | none => none

def flatK (P : Program) : Nat → TypeId → Option (List Bool)
  | 0, _ => none
  | n + 1, t => match P.underlying t with
    | some (.int .i64) => some [false]
    | some .bool => some [true]
    | some (.struct fs) => match flatFs P (flatK P n) fs.toList 0 with
      | some ks => if P.cellsOf t = ks.length then some ks else none
      | none => none
    | _ => none

/-- Cells that are ints and bools, as asked. -/
def Fits : List Value → List Bool → Prop
  | [], [] => True
  | v :: vs, b :: bs => (if b = true then ∃ x, v = .bool x else ∃ z, v = .int .i64 z ∧ (Lit.int .i64 z).wf = true) ∧ Fits vs bs
  | _, _ => False

theorem Fits.app {vs us : List Value} {bs cs : List Bool} (h : Fits vs bs) (k : Fits us cs) : Fits (vs ++ us) (bs ++ cs) := by
  induction vs generalizing bs with
  | nil => cases bs with
    | nil => exact k
    | cons b bs => exact h.elim
  | cons v vs ih => cases bs with
    | nil => exact h.elim
    | cons b bs => exact ⟨h.1, ih h.2⟩

theorem fits_int {cs : List Value} {bs : List Bool} (h : Fits cs (false :: bs)) : ∃ z r, cs = .int .i64 z :: r ∧ (Lit.int .i64 z).wf = true ∧ Fits r bs := by
  cases cs with
  | nil => exact h.elim
  | cons v vs =>
    obtain ⟨h1, h2⟩ := h
    obtain ⟨z, rfl, hz⟩ : ∃ z, v = .int .i64 z ∧ (Lit.int .i64 z).wf = true := by simpa using h1
    exact ⟨z, vs, rfl, hz, h2⟩

theorem fits_bool {cs : List Value} {bs : List Bool} (h : Fits cs (true :: bs)) : ∃ z r, cs = .bool z :: r ∧ Fits r bs := by
  cases cs with
  | nil => exact h.elim
  | cons v vs =>
    obtain ⟨h1, h2⟩ := h
    obtain ⟨z, rfl⟩ : ∃ z, v = .bool z := by simpa using h1
    exact ⟨z, vs, rfl, h2⟩

theorem fits_nil {cs : List Value} (h : Fits cs []) : cs = [] := by
  cases cs with
  | nil => rfl
  | cons v vs => exact h.elim

section
variable {H : Type} {enc : TypeId × Value → H} {P : Program} {w : World} {base : Nat} {spare : Nat → Bool} {held : Bool}

theorem fits_fs {rec : TypeId → Option (List Bool)} {cs : List Value} (l : List Field) (off : Nat) (ks : List Bool)
    (hr : ∀ f ∈ l, ∀ k, rec f.type = some k → Fits ((cs.drop f.offset).take (P.cellsOf f.type)) k)
    (h : flatFs P rec l off = some ks) : Fits ((cs.drop off).take ks.length) ks := by
  induction l generalizing off ks with
  | nil => simp only [flatFs, Option.some.injEq] at h; subst h; simp [Fits]
  | cons f r ih =>
    simp only [flatFs] at h
    split at h
    · rename_i k hk
      split at h
      · rename_i hc
        split at h
        · rename_i rest hrest
          simp only [Option.some.injEq] at h
          subst h
          have h1 := hr f (by simp) k hk
          rw [hc.1, hc.2] at h1
          have h2 := ih (off + k.length) rest (fun g hg => hr g (by simp [hg])) hrest
          have e : (cs.drop off).take (k ++ rest).length = (cs.drop off).take k.length ++ (cs.drop (off + k.length)).take rest.length := by
            rw [List.length_append, List.take_add, List.drop_drop]
          rw [e]
          exact h1.app h2
        · cases h
      · cases h
    · cases h

theorem fits_trod (n : Nat) : ∀ {t : TypeId} {fuel : Nat} {cs : List Value} {x : DataW H × List MemPlace} {ks : List Bool},
    flatK P n t = some ks → DataW.trod enc P w base spare held fuel t cs = some x → Fits cs ks := by
  induction n with
  | zero => intro t fuel cs x ks h; cases h
  | succ n ih =>
    intro t fuel cs x ks h ht
    simp only [flatK] at h
    split at h
    · rename_i hu
      simp only [Option.some.injEq] at h
      subst h
      obtain ⟨z, rfl, _, hz⟩ := DataW.trod_int hu ht
      exact ⟨by simpa using hz, trivial⟩
    · rename_i hu
      simp only [Option.some.injEq] at h
      subst h
      obtain ⟨z, rfl, _⟩ := DataW.trod_bool hu ht
      exact ⟨by simp, trivial⟩
    · rename_i fs hu
      split at h
      · rename_i ks' hk
        split at h
        · rename_i hc
          simp only [Option.some.injEq] at h
          subst h
          obtain ⟨xs, m, _, _, hl, hlen, hf⟩ := DataW.trod_struct hu ht
          have := fits_fs (P := P) (cs := cs) fs.toList 0 _ (fun f hf' k hk' => by
            obtain ⟨i, hi, hfi⟩ := List.getElem_of_mem hf'
            have hfi' : fs[i]? = some f := by rw [← hfi]; simp [Array.getElem?_eq_getElem (by simpa using hi)]
            have h5 := hf i f hfi'
            rw [List.getElem?_eq_getElem (by rw [hlen]; simpa using hi)] at h5
            exact ih hk' h5) hk
          rw [List.drop_zero, List.take_of_length_le (by omega)] at this
          exact this
        · cases h
      · cases h
    · cases h

theorem open_flat {r : Reach} {b0 : Nat} {t : TypeId} {fs : Array Field} {v : Value} {d : DataW H} {p : List MemPlace} {ks : List Bool}
    (n : Nat) (hs : P.underlying t = some (.struct fs)) (hk : flatK P n t = some ks)
    (hv : Value.okWide P w r b0 t v) (h : DataW.Trod enc P w base spare held t v d p) : ∃ cs, v = .agg cs.toArray ∧ Fits cs ks := by
  obtain ⟨cs, rfl, hsz⟩ := okWide_struct hs hv
  obtain ⟨fuel, hf⟩ := h
  refine ⟨cs.toList, by simp, ?_⟩
  have := fits_trod n hk hf
  simpa [Value.cells] using this
end
end Go.Proofs.YtikidpcgnmffcaaGreat
namespace Go.Proofs.YtikidpcgnmffcaaGreat
open Go.ChangeShapes Go.WideShapes Go.ChangeAt Go.RowKit Go.Maps
set_option linter.unusedVariables false

section
variable {κ : Type} {P : Program} {k : TypeId} {R : Value → Option (DataW Unit × List MemPlace)} {zd : DataW Unit} {b n : Nat} {kv : κ → Value} {ok : κ → Prop} {f : κ → DataW Unit} {w : World}

/-- Block b is a map that holds, at each key that is ok, what f says. -/
def OwnsFn (w : World) (P : Program) (k : TypeId) (R : Value → Option (DataW Unit × List MemPlace)) (zd : DataW Unit) (b n : Nat) (kv : κ → Value) (ok : κ → Prop) (f : κ → DataW Unit) : Prop :=
  ∃ D, w.ownsMap P k R b n D ∧ ∀ q, ok q → ∀ kl, keyOf P k (kv q) = some kl → D.atKey kl zd = f q

theorem OwnsFn.made (w : World) (P : Program) (k : TypeId) (R : Value → Option (DataW Unit × List MemPlace)) (zd : DataW Unit) (kv : κ → Value) (ok : κ → Prop) : OwnsFn (w.alloc (.map #[] 0)) P k R zd w.heap.size 0 kv ok (fun _ => zd) :=
  ⟨_, World.ownsMap_made w P k R, fun _ _ _ _ => rfl⟩
theorem OwnsFn.lt (h : OwnsFn w P k R zd b n kv ok f) : b < w.heap.size := by
  obtain ⟨D, h, _⟩ := h
  exact h.lt
theorem OwnsFn.below {w' : World} (h : OwnsFn w P k R zd b n kv ok f) (hb : Below w.heap.size w w') : OwnsFn w' P k R zd b n kv ok f := by
  obtain ⟨D, h, hf⟩ := h
  exact ⟨D, h.kept ⟨hb.os, hb.tape, hb.output, hb.size, fun k hk _ => hb.block k hk⟩ (row := none) (by simp), hf⟩
theorem OwnsFn.grown {w' : World} {row : Option Nat} (h : OwnsFn w P k R zd b n kv ok f) (hg : w.grownBy w' row) (hne : some b ≠ row) : OwnsFn w' P k R zd b n kv ok f := by
  obtain ⟨D, h, hf⟩ := h
  exact ⟨D, h.kept hg hne, hf⟩
theorem OwnsFn.drew (h : OwnsFn w P k R zd b n kv ok f) : OwnsFn w.drew P k R zd b n kv ok f := h
theorem OwnsFn.look {t e : TypeId} (h : OwnsFn w P k R zd b n kv ok f) (K : Keyed P k) (ht : P.underlying t = some (.map k e)) {z : Value} (hz : (zeroValue e).run P w = .ok z w) {zp : List MemPlace} (hzd : R z = some (zd, zp)) (hk : ∀ q, ok q → ∃ kl, keyOf P k (kv q) = some kl) (q : κ) (hq : ok q) :
    ∃ v ps, (Instr.lookup t (.map (some b)) (kv q) false).run P w = .ok v w ∧ R v = some (f q, ps) := by
  obtain ⟨D, h, hf⟩ := h
  obtain ⟨kl, hkl⟩ := hk q hq
  obtain ⟨v, ps, h1, h2⟩ := h.lookup K ht hz hzd hkl
  exact ⟨v, ps, h1, by rw [h2, hf q hq kl hkl]⟩
theorem OwnsFn.store [DecidableEq κ] {t e : TypeId} (h : OwnsFn w P k R zd b n kv ok f) (K : Keyed P k) (ht : P.underlying t = some (.map k e)) (hn : n < maxLen) (hk : ∀ q, ok q → ∃ kl, keyOf P k (kv q) = some kl) (hinj : ∀ q q', kv q = kv q' → q = q') (q : κ) (hq : ok q) {val : Value} {d : DataW Unit} {ps : List MemPlace} (hv : R val = some (d, ps)) :
    ∃ w', (Instr.mapUpdate t (.map (some b)) (kv q) val).run P w = .ok () w' ∧ OwnsFn w' P k R zd b (n + 1) kv ok (fun x => if x = q then d else f x) ∧ w.grownBy w' (some b) := by
  obtain ⟨D, h, hf⟩ := h
  obtain ⟨kl, hkl⟩ := hk q hq
  obtain ⟨w', h1, h2, h3⟩ := h.update K ht hn hkl hv
  refine ⟨w', h1, ⟨_, h2, fun x hx kx hkx => ?_⟩, h3⟩
  show _ = if x = q then d else f x
  by_cases e : x = q
  · subst e
    rw [hkl] at hkx
    cases hkx
    rw [if_pos rfl, atKey_put_same h.isMap (K.key hkl)]
  · rw [if_neg e]
    have hne : kx ≠ kl := fun e' => e (hinj _ _ (K.inj (by rw [← e']; exact hkx) hkl))
    rw [atKey_put_other hne]
    exact hf x hx kx hkx
end
end Go.Proofs.YtikidpcgnmffcaaGreat
namespace Go.Proofs.YtikidpcgnmffcaaGreat
open Go.ChangeShapes Go.WideShapes Go.ChangeAt Go.RowKit Go.Maps
set_option linter.unusedVariables false

section
variable {κ V : Type} {P : Program} {k : TypeId} {R : Value → Option (DataW Value × List MemPlace)} {b n : Nat} {kv : κ → Value} {ok : κ → Prop} {dv : V → DataW Value} {m : κ → Option V} {w : World}

/-- A map's datum tells, at each key that is ok, what m says: a value, or nothing. -/
def OpD (P : Program) (k : TypeId) (kv : κ → Value) (ok : κ → Prop) (dv : V → DataW Value) (D : DataW Value) (m : κ → Option V) : Prop :=
  ∀ q, ok q → ∀ kl, keyOf P k (kv q) = some kl → (∀ a, m q = some a → ∀ zd, D.atKey kl zd = dv a) ∧ (m q = none → has D kl = false)
/-- Block b is a map of at most n entries that tells what m says. -/
def OwnsOp (w : World) (P : Program) (k : TypeId) (R : Value → Option (DataW Value × List MemPlace)) (b n : Nat) (kv : κ → Value) (ok : κ → Prop) (dv : V → DataW Value) (m : κ → Option V) : Prop :=
  ∃ D, w.ownsMap P k R b n D ∧ OpD P k kv ok dv D m

theorem OwnsOp.made (w : World) (P : Program) (k : TypeId) (R : Value → Option (DataW Value × List MemPlace)) (kv : κ → Value) (ok : κ → Prop) (dv : V → DataW Value) : OwnsOp (w.alloc (.map #[] 0)) P k R w.heap.size 0 kv ok dv (fun _ => none) :=
  ⟨_, World.ownsMap_made w P k R, fun _ _ _ _ => ⟨fun _ h => (by cases h), fun _ => rfl⟩⟩
theorem OwnsOp.lt (h : OwnsOp w P k R b n kv ok dv m) : b < w.heap.size := by
  obtain ⟨D, h, _⟩ := h
  exact h.lt
theorem OwnsOp.below {w' : World} (h : OwnsOp w P k R b n kv ok dv m) (hb : Below w.heap.size w w') : OwnsOp w' P k R b n kv ok dv m := by
  obtain ⟨D, h, hf⟩ := h
  exact ⟨D, h.kept ⟨hb.os, hb.tape, hb.output, hb.size, fun k hk _ => hb.block k hk⟩ (row := none) (by simp), hf⟩
theorem OwnsOp.grown {w' : World} {row : Option Nat} (h : OwnsOp w P k R b n kv ok dv m) (hg : w.grownBy w' row) (hne : some b ≠ row) : OwnsOp w' P k R b n kv ok dv m := by
  obtain ⟨D, h, hf⟩ := h
  exact ⟨D, h.kept hg hne, hf⟩
theorem OwnsOp.drew (h : OwnsOp w P k R b n kv ok dv m) : OwnsOp w.drew P k R b n kv ok dv m := h
theorem OwnsOp.more {n2 : Nat} (h : OwnsOp w P k R b n kv ok dv m) (hn : n ≤ n2) : OwnsOp w P k R b n2 kv ok dv m := by
  obtain ⟨D, h, hf⟩ := h
  exact ⟨D, h.mono hn, hf⟩
/-- A map that lies where it lay. -/
theorem OwnsOp.keep {w' : World} (h : OwnsOp w P k R b n kv ok dv m) (hb : w'.heap[b]? = w.heap[b]?) : OwnsOp w' P k R b n kv ok dv m := by
  obtain ⟨D, ⟨es, clock, h1, h2⟩, hf⟩ := h
  exact ⟨D, ⟨es, clock, hb.trans h1, h2⟩, hf⟩
theorem OwnsOp.look {t e : TypeId} (h : OwnsOp w P k R b n kv ok dv m) (K : Keyed P k) (ht : P.underlying t = some (.map k e)) {z : Value} (hz : (zeroValue e).run P w = .ok z w) {zd : DataW Value} {zp : List MemPlace} (hzd : R z = some (zd, zp)) (hk : ∀ q, ok q → ∃ kl, keyOf P k (kv q) = some kl) (q : κ) (hq : ok q) :
    ∃ v ps, (Instr.lookup t (.map (some b)) (kv q) false).run P w = .ok v w ∧ R v = some ((m q).elim zd dv, ps) := by
  obtain ⟨D, h, hf⟩ := h
  obtain ⟨kl, hkl⟩ := hk q hq
  obtain ⟨v, ps, h1, h2⟩ := h.lookup K ht hz hzd hkl
  refine ⟨v, ps, h1, ?_⟩
  rw [h2]
  obtain ⟨f1, f2⟩ := hf q hq kl hkl
  cases hm : m q with
  | none => rw [atKey_of_not_has (f2 hm)]; rfl
  | some a => rw [f1 a hm]; rfl
theorem OwnsOp.store [DecidableEq κ] {t e : TypeId} (h : OwnsOp w P k R b n kv ok dv m) (K : Keyed P k) (ht : P.underlying t = some (.map k e)) (hn : n < maxLen) (hk : ∀ q, ok q → ∃ kl, keyOf P k (kv q) = some kl) (hinj : ∀ q q', kv q = kv q' → q = q') (q : κ) (hq : ok q) {val : Value} (a : V) {ps : List MemPlace} (hv : R val = some (dv a, ps)) :
    ∃ w', (Instr.mapUpdate t (.map (some b)) (kv q) val).run P w = .ok () w' ∧ OwnsOp w' P k R b (n + 1) kv ok dv (fun x => if x = q then some a else m x) ∧ w.grownBy w' (some b) := by
  obtain ⟨D, h, hf⟩ := h
  obtain ⟨kl, hkl⟩ := hk q hq
  obtain ⟨w', h1, h2, h3⟩ := h.update K ht hn hkl hv
  refine ⟨w', h1, ⟨_, h2, fun x hx kx hkx => ?_⟩, h3⟩
  by_cases e : x = q
  · subst e
    rw [hkl] at hkx
    cases hkx
    simp only [if_true]
    exact ⟨fun a' ha' zd => by cases ha'; exact atKey_put_same h.isMap (K.key hkl) _ _, fun h9 => by cases h9⟩
  · have hne : kx ≠ kl := fun e' => e (hinj _ _ (K.inj (by rw [← e']; exact hkx) hkl))
    simp only [if_neg e]
    obtain ⟨f1, f2⟩ := hf x hx kx hkx
    exact ⟨fun a' ha' zd => by rw [atKey_put_other hne]; exact f1 a' ha' zd, fun h9 => by rw [has_put_other hne]; exact f2 h9⟩
theorem OwnsOp.drop [DecidableEq κ] {t e : TypeId} (h : OwnsOp w P k R b n kv ok dv m) (K : Keyed P k) (ht : P.underlying t = some (.map k e)) (hk : ∀ q, ok q → ∃ kl, keyOf P k (kv q) = some kl) (hinj : ∀ q q', kv q = kv q' → q = q') (q : κ) (hq : ok q) (ty : TypeId) :
    ∃ w', (Builtin.delete_ #[t, k] ty #[.map (some b), kv q]).run P w = .ok (.tuple #[]) w' ∧ OwnsOp w' P k R b n kv ok dv (fun x => if x = q then none else m x) ∧ w.grownBy w' (some b) := by
  obtain ⟨D, h, hf⟩ := h
  obtain ⟨kl, hkl⟩ := hk q hq
  obtain ⟨w', h1, h2, h3⟩ := h.drop K ht hkl ty
  refine ⟨w', h1, ⟨_, h2, fun x hx kx hkx => ?_⟩, h3.grown⟩
  by_cases e : x = q
  · subst e
    rw [hkl] at hkx
    cases hkx
    simp only [if_true]
    exact ⟨fun a' ha' => (by cases ha'), fun _ => has_del_same⟩
  · have hne : kx ≠ kl := fun e' => e (hinj _ _ (K.inj (by rw [← e']; exact hkx) hkl))
    simp only [if_neg e]
    obtain ⟨f1, f2⟩ := hf x hx kx hkx
    exact ⟨fun a' ha' zd => by rw [atKey_del_other hne]; exact f1 a' ha' zd, fun h9 => by rw [has_del_other hne]; exact f2 h9⟩

/-- Keys that have come: no key twice; a key has come just where the map has it and it is no longer to come. -/
def CollO (P : Program) (k : TypeId) (kv : κ → Value) (ok : κ → Prop) (D0 : DataW Value) (left : Lit → Bool) (ss : List κ) : Prop :=
  ss.Nodup ∧ (∀ q ∈ ss, ok q) ∧ ∀ q, ok q → ∀ kl, keyOf P k (kv q) = some kl → (q ∈ ss ↔ (has D0 kl = true ∧ left kl = false))
theorem CollO.start (P : Program) (k : TypeId) (kv : κ → Value) (ok : κ → Prop) (D0 : DataW Value) : CollO P k kv ok D0 (has D0) [] :=
  ⟨List.nodup_nil, fun q h => (by cases h), fun q _ kl _ => by cases has D0 kl <;> simp⟩
theorem CollO.step {D0 : DataW Value} {left : Lit → Bool} {ss : List κ} (h : CollO P k kv ok D0 left ss) (K : Keyed P k) (hinj : ∀ q q', kv q = kv q' → q = q') {x : κ} {kl : Lit} (hx : ok x) (hkl : keyOf P k (kv x) = some kl) {y : DataW Value} (hlk : left kl = true) (hat : ∀ zd, D0.atKey kl zd = y) :
    CollO P k kv ok D0 (fun z => left z && !z.sameKey kl) (ss ++ [x]) := by
  have hhas : has D0 kl = true := has_true_of_atKey hat
  have hnew : x ∉ ss := fun h9 => by have := ((h.2.2 x hx kl hkl).1 h9).2; rw [hlk] at this; cases this
  refine ⟨List.nodup_append.2 ⟨h.1, by simp, fun a ha b hb => by simp at hb; subst hb; exact fun e => hnew (e ▸ ha)⟩, fun q hq => ?_, fun q hq kq hkq => ?_⟩
  · rcases List.mem_append.1 hq with hq | hq
    · exact h.2.1 q hq
    · rw [List.mem_singleton.1 hq]; exact hx
  · by_cases e : q = x
    · subst e
      rw [hkl] at hkq
      cases hkq
      simp [hhas, WideAt.sameKey_self (K.key hkl)]
    · have hne : kq ≠ kl := fun e' => e (hinj _ _ (K.inj (by rw [← e']; exact hkq) hkl))
      have hs : kq.sameKey kl = false := by
        cases h9 : kq.sameKey kl
        · rfl
        · exact absurd (WideAt.sameKey_eq h9) hne
      simp [h.2.2 q hq kq hkq, e, hs]
/-- At the end: just the keys at which there is something. -/
theorem CollO.all {D0 : DataW Value} {left : Lit → Bool} {ss : List κ} (h : CollO P k kv ok D0 left ss) (hk : ∀ q, ok q → ∃ kl, keyOf P k (kv q) = some kl) (hD : OpD P k kv ok dv D0 m) (hl : ∀ kl, left kl = false) : ss.Nodup ∧ ∀ q, q ∈ ss ↔ (ok q ∧ m q ≠ none) := by
  refine ⟨h.1, fun q => ⟨fun hq => ?_, fun ⟨hq, hm⟩ => ?_⟩⟩
  · have hok := h.2.1 q hq
    obtain ⟨kl, hkl⟩ := hk q hok
    refine ⟨hok, fun h9 => ?_⟩
    have h1 := ((h.2.2 q hok kl hkl).1 hq).1
    rw [(hD q hok kl hkl).2 h9] at h1
    cases h1
  · obtain ⟨kl, hkl⟩ := hk q hq
    refine (h.2.2 q hq kl hkl).2 ⟨?_, hl kl⟩
    cases h9 : m q with
    | none => exact absurd h9 hm
    | some a => exact has_true_of_atKey ((hD q hq kl hkl).1 a h9)
end
end Go.Proofs.YtikidpcgnmffcaaGreat
namespace Go.Proofs.YtikidpcgnmffcaaGreat
open Go.ChangeShapes Go.WideShapes Go.ChangeAt Go.RowKit Go.Maps Go.WideMaps
set_option linter.unusedVariables false

/-- A place as its three numbers. -/
abbrev P3 := Int × Int × Int

def v3 (q : P3) : Value := .agg #[.int .i64 q.1, .int .i64 q.2.1, .int .i64 q.2.2]

def ok3 (q : P3) : Prop := (Lit.int .i64 q.1).wf = true ∧ (Lit.int .i64 q.2.1).wf = true ∧ (Lit.int .i64 q.2.2).wf = true

theorem inj3 (q q' : P3) (h : v3 q = v3 q') : q = q' := by
  obtain ⟨a, b, c⟩ := q
  obtain ⟨a', b', c'⟩ := q'
  simp [v3] at h
  obtain ⟨h1, h2, h3⟩ := h
  subst h1 h2 h3
  rfl

theorem laid3 : laidOutB Tryz.prog = true := by kernel_rfl

theorem law3 : KeyLaw Tryz.prog 76 := deep_law_laid laid3 (m := 3) (by omega) (of_decide_eq_true (by kernel_rfl)) (by kernel_rfl) (by kernel_rfl)

theorem key3 : Keyed Tryz.prog 76 := Keyed.of_law law3

theorem keyOf3 (v : Value) : keyOf Tryz.prog 76 v = (if (Tryz.prog.keyType 76 && v.formed Tryz.prog 76) = true then (Tryz.prog.keyLits (Tryz.prog.types.size + 1) 76 v.cells.toList).map (fun ls => .string (keyBytes ls)) else none) := by
  unfold keyOf
  rw [Tryz.underlying76]

set_option maxRecDepth 100000 in
theorem some3 (q : P3) (h : ok3 q) : ∃ kl, keyOf Tryz.prog 76 (v3 q) = some kl := by
  obtain ⟨h1, h2, h3⟩ := h
  have hN : ∃ m, Tryz.prog.types.size = m + 3 := ⟨Tryz.prog.types.size - 3, by kernel_rfl⟩
  obtain ⟨m, hm⟩ := hN
  have c1 : Tryz.prog.cellsOf 76 = 3 := by kernel_rfl
  have c2 : Tryz.prog.cellsOf 42 = 2 := by kernel_rfl
  have c3 : Tryz.prog.cellsOf 3 = 1 := by kernel_rfl
  have hk : Tryz.prog.keyType 76 = true := by kernel_rfl
  have hf : (v3 q).formed Tryz.prog 76 = true := by
    simp [v3, Value.formed, Tryz.underlying76, c1]
  have hL : Tryz.prog.keyLits (m + 3 + 1) 76 [.int .i64 q.1, .int .i64 q.2.1, .int .i64 q.2.2] = some [.int .i64 q.1, .int .i64 q.2.1, .int .i64 q.2.2] := by
    simp [Tryz.underlying76, Tryz.underlying42, Tryz.underlying3, Program.keyLits, c1, c2, c3, h1, h2, h3]
    rw [if_pos (by decide)]
    rfl
  have e := keyOf3 (v3 q)
  rw [hk, hf, hm] at e
  simp only [Bool.and_self, ↓reduceIte] at e
  have e2 : (v3 q).cells.toList = [.int .i64 q.1, .int .i64 q.2.1, .int .i64 q.2.2] := rfl
  rw [e2, hL] at e
  exact ⟨_, e⟩

theorem lits_struct {P : Program} {d : Nat} {t : TypeId} {cs : List Value} {fs : Array Field} (h : P.underlying t = some (.struct fs)) : P.keyLits (d + 1) t cs = if cs.length = P.cellsOf t ∧ fs.all (·.name != "_") = true then (fs.toList.mapM fun f => P.keyLits d f.type ((cs.drop f.offset).take (P.cellsOf f.type))).map List.flatten else none := by
  conv => lhs; unfold Program.keyLits
  simp only [h]

theorem lit_int {P : Program} {d : Nat} {t : TypeId} {v : Value} {l : List Lit} (ht : P.underlying t = some (.int .i64)) (h : P.keyLits (d + 1) t [v] = some l) : ∃ n, v = .int .i64 n ∧ (Lit.int .i64 n).wf = true := by
  unfold Program.keyLits at h
  simp only [ht] at h
  cases v <;> simp at h
  rename_i q n
  obtain ⟨⟨rfl, hw⟩, _⟩ := h
  exact ⟨n, rfl, hw⟩

set_option maxRecDepth 100000 in
theorem inv3 (v : Value) (kl : Lit) (h : keyOf Tryz.prog 76 v = some kl) : ∃ q : P3, v = v3 q ∧ ok3 q := by
  have hN : ∃ m, Tryz.prog.types.size = m + 3 := ⟨Tryz.prog.types.size - 3, by kernel_rfl⟩
  obtain ⟨m, hm⟩ := hN
  have c1 : Tryz.prog.cellsOf 76 = 3 := by kernel_rfl
  have c2 : Tryz.prog.cellsOf 42 = 2 := by kernel_rfl
  have c3 : Tryz.prog.cellsOf 3 = 1 := by kernel_rfl
  rw [keyOf3, hm] at h
  split at h
  case isFalse => cases h
  rename_i hf
  rw [Bool.and_eq_true] at hf
  have hf2 := hf.2
  cases v <;> simp [Value.formed, Tryz.underlying76, c1] at hf2
  rename_i cs
  obtain ⟨l⟩ := cs
  match l, hf2 with
  | [a, b, c], _ =>
    have hL : ∃ l, Tryz.prog.keyLits (m + 3 + 1) 76 [a, b, c] = some l := by
      cases h9 : Tryz.prog.keyLits (m + 3 + 1) 76 [a, b, c] with
      | none => rw [show (Value.agg { toList := [a, b, c] }).cells.toList = [a, b, c] from rfl, h9] at h; cases h
      | some l => exact ⟨l, rfl⟩
    obtain ⟨l, hL⟩ := hL
    rw [lits_struct Tryz.underlying76] at hL
    simp [c1, c2, c3, lits_struct Tryz.underlying42] at hL
    cases ha : Tryz.prog.keyLits (m + 3) 3 [a] with
    | none => simp [ha] at hL
    | some la =>
      cases hb : Tryz.prog.keyLits (m + 2) 3 [b] with
      | none => simp [ha, hb] at hL
      | some lb =>
        cases hc : Tryz.prog.keyLits (m + 2) 3 [c] with
        | none => simp [ha, hb, hc] at hL
        | some lc =>
          obtain ⟨x, rfl, hx⟩ := lit_int Tryz.underlying3 ha
          obtain ⟨y, rfl, hy⟩ := lit_int Tryz.underlying3 hb
          obtain ⟨z, rfl, hz⟩ := lit_int Tryz.underlying3 hc
          exact ⟨(x, y, z), rfl, hx, hy, hz⟩
end Go.Proofs.YtikidpcgnmffcaaGreat
namespace Go.Proofs.YtikidpcgnmffcaaGreat
open Go.RowKit Go.Shelf Go.Maps
set_option linter.unusedVariables false
attribute [local go_sem] Oper.semAt_some

theorem grown_of0 {W W' : World} (h : Below W.heap.size W W') : W.grownBy W' none := ⟨h.os, h.tape, h.output, h.size, fun k hk _ => h.block k hk⟩

/-- What all keys are: each once, just those that are there. -/
def KeysAre (D0 : DataW Value) (ss : List P3) : Prop := CollO Tryz.prog 76 v3 ok3 D0 (fun _ => false) ss

set_option maxRecDepth 100000 in
set_option maxHeartbeats 2000000 in
theorem keysT_in (n : Nat) (hn : 1 ≤ n) (l Bm b nn : Nat) (D0 : DataW Value) {R : Value → Option (DataW Value × List MemPlace)} (J Jx : List P3 → World → Prop)
    (hY : ∀ pre x W, J pre W → pre.length < Maps.size D0 → YieldAt Fence.wide (n - 1) Tryz.prog l #[v3 x] W fun e W' =>
      (e = .returned (.bool true) ∧ J (pre ++ [x]) W' ∧ KeepsWalks W W') ∨ (e = .returned (.bool false) ∧ Jx (pre ++ [x]) W'))
    (W : World) (hJ : AbidesFrom W.heap.size J) (hm : W.cell? ⟨Bm, 0, none⟩ = some (.map (some b))) (hown : W.ownsMap Tryz.prog 76 R b nn D0) (h0 : J [] W) :
    CallsIn Fence.wide n Tryz.prog 78 #[.func (.yield l) #[] #[], .pointer (some ⟨Bm, 0, none⟩)] W fun e W' => (∃ v, e = .returned v) ∧
      ((∃ ss : List P3, KeysAre D0 ss ∧ J ss W') ∨ (∃ pre : List P3, True ∧ Jx pre W')) := by
  refine callsIn_of_wp Tryz.func78 rfl trivial ?_ rfl
  simp only [Tryz.ntmps78, List.size_toArray, List.length_cons, List.length_nil, Nat.reduceAdd, Nat.reduceSub, Array.replicate_succ, Array.replicate_zero, List.push_toArray, List.append_toArray, List.nil_append, List.cons_append]
  gi_wp2_with (first
    | (gi_at_range; refine wpListIn_range_own _ rfl _ 74 rfl 76 47 key3 Tryz.underlying74 _ b nn _ rfl hown ?_; intro w0 hrg0 hg0 hs0)
    | gi_in)
  go_frame
  gi_loopw [3] (fun _ wr => ∃ (left : Lit → Bool) (cnt : Nat) (ss : List P3), wr.ranges Tryz.prog 76 R b W.heap.size nn D0 left cnt ∧ ss.length + cnt ≤ Maps.size D0 ∧ CollO Tryz.prog 76 v3 ok3 D0 left ss ∧ J ss wr)
    (fun _ wr => wr.rangeLeft b W.heap.size)
  case atStart =>
    exact ⟨_, _, [], hrg0, by simp, CollO.start _ _ _ _ D0, hJ [] W w0 none h0 hg0 (fun r e => by cases e)⟩
  case round =>
    obtain ⟨left, cnt, ss, hrg, hcs, hC, hJs⟩ := hrel
    gi_wp2_with (first
      | (gi_at_next; refine wpListIn_next_ranges _ rfl _ rfl 76 key3 R v3 id (fun key kl hk => by obtain ⟨x, hx, _⟩ := inv3 key kl hk; exact ⟨x, hx⟩) (fun v _ _ => ⟨v, rfl⟩) b W.heap.size nn _ _ _ rfl hrg ?_ ?_)
      | gi_in)
    · intro hc0 hl0
      have hl1 : left = fun _ => false := funext hl0
      subst hl1
      gi_wp2
      go_end0
      exact ⟨⟨_, rfl⟩, .inl ⟨ss, hC, hJs⟩⟩
    · intro xa xb xc c kl yd yp w2 cnt2 hkey hlk hv hat hrg2 hlt hg2 hs2 hen
      obtain ⟨x', ex, hx⟩ := inv3 _ kl hkey
      obtain rfl : (xa, xb, xc) = x' := inj3 _ _ ex
      have hC2 := hC.step key3 inj3 hx hkey hlk hat
      have hrb : w2.heap.size ≤ (w2.alloc (.cells #[.int .i64 xa, .int .i64 xb, .int .i64 xc] 76)).heap.size := by simp
      have hJ2 : J ss w2 := hJ ss wr w2 (some W.heap.size) hJs hg2 (fun r e => by cases e; exact ⟨Nat.le_refl _, hrg.iter_walk⟩)
      have hJ2a : J ss (w2.alloc (.cells #[.int .i64 xa, .int .i64 xb, .int .i64 xc] 76)) := hJ ss w2 _ none hJ2 (grown_of0 (bel_one _ _)) (fun r e => by cases e)
      have hrg2a := hrg2.of_walks (KeepsWalks.alloc w2 (.cells #[.int .i64 xa, .int .i64 xb, .int .i64 xc] 76))
      obtain ⟨fn, tmps, assign, body, hy, hR⟩ := hY ss (xa, xb, xc) _ hJ2a (by omega)
      clear hs2 hrb
      simp only [v3] at hy hen hR
      gi_wp2
      refine hR.mono ?_
      rintro e W3 (⟨rfl, hJ3, hk3⟩ | ⟨rfl, hJx3⟩)
      · gi_wp2
        have hrg3 := hrg2a.of_walks hk3
        go_roundw
        case rel => exact ⟨_, cnt2, ss ++ [(xa, xb, xc)], hrg3, by simp; omega, hC2, hJ3⟩
        case measure => rw [hrg3.left_eq, hrg.left_eq]; exact hlt
      · gi_wp2
        refine bodyPost_ret (results_none rfl _ _ _) rfl ?_
        exact ⟨⟨_, rfl⟩, .inr ⟨ss ++ [(xa, xb, xc)], trivial, hJx3⟩⟩

/-- maps.Keys hands back a value that tells the keys. -/
theorem keysT_stops (n : Nat) (hn : 1 ≤ n) (Bm b nn : Nat) (D0 : DataW Value) {R : Value → Option (DataW Value × List MemPlace)} (w : World) (hBm : Bm < w.heap.size)
    (hm : w.cell? ⟨Bm, 0, none⟩ = some (.map (some b))) (hown : w.ownsMap Tryz.prog 76 R b nn D0) :
    SeqStopsK Fence.wide n Tryz.prog 78 #[.pointer (some ⟨Bm, 0, none⟩)] (fun x => #[v3 x]) KeepsWalks (KeysAre D0) (fun _ => True) (Maps.size D0) w := fun l J Jx W hW hJ _ hY h0 => by
  have hown' : W.ownsMap Tryz.prog 76 R b nn D0 := by
    have hbl := hown.lt
    obtain ⟨es, clock, hb, Ft, hs, hD⟩ := hown
    exact ⟨es, clock, (hW.block b hbl).trans hb, Ft, hs, hD⟩
  exact keysT_in n hn l Bm b nn D0 J Jx hY W hJ ((hW.cell (p := ⟨Bm, 0, none⟩) hBm).trans hm) hown' h0

theorem keysT_any (mb : Nat) (w : World) : Calls Tryz.prog 69 #[.map (some mb)] w fun e w' => e = .returned (.func (.func 78) #[] #[.pointer (some ⟨w.heap.size, 0, none⟩)]) ∧ w' = w.alloc (.cells #[.map (some mb)] 74) := by
  go_enter Tryz.func69, Tryz.ntmps69
  go_wp2
  go_ret
  exact ⟨rfl, rfl⟩
end Go.Proofs.YtikidpcgnmffcaaGreat
namespace Go.Proofs.YtikidpcgnmffcaaGreat
open Go.ChangeShapes Go.WideShapes Go.ChangeAt Go.RowKit
set_option linter.unusedVariables false

theorem hd_3_3 {b0 b1 o0x0 o0x1 o0x2 o1x0 o1x1 o1x2 : Nat} {v0x0 v0x1 v0x2 v1x0 v1x1 v1x2 : Value} {W W' : World} (h : ((W.cell? ⟨b0, o0x0, none⟩ = some (v0x0) ∧ W.cell? ⟨b0, o0x1, none⟩ = some (v0x1) ∧ W.cell? ⟨b0, o0x2, none⟩ = some (v0x2) ∧ W.cell? ⟨b1, o1x0, none⟩ = some (v1x0) ∧ W.cell? ⟨b1, o1x1, none⟩ = some (v1x1) ∧ W.cell? ⟨b1, o1x2, none⟩ = some (v1x2)) ∧ b0 < W.heap.size ∧ b1 < W.heap.size)) (hb : Below W.heap.size W W') : ((W'.cell? ⟨b0, o0x0, none⟩ = some (v0x0) ∧ W'.cell? ⟨b0, o0x1, none⟩ = some (v0x1) ∧ W'.cell? ⟨b0, o0x2, none⟩ = some (v0x2) ∧ W'.cell? ⟨b1, o1x0, none⟩ = some (v1x0) ∧ W'.cell? ⟨b1, o1x1, none⟩ = some (v1x1) ∧ W'.cell? ⟨b1, o1x2, none⟩ = some (v1x2)) ∧ b0 < W'.heap.size ∧ b1 < W'.heap.size) := by
  obtain ⟨⟨h0, h1, h2, h3, h4, h5⟩, s0, s1⟩ := h
  refine ⟨⟨?_, ?_, ?_, ?_, ?_, ?_⟩, Nat.lt_of_lt_of_le s0 hb.size, Nat.lt_of_lt_of_le s1 hb.size⟩
  · rw [hb.cell s0]; exact h0
  · rw [hb.cell s0]; exact h1
  · rw [hb.cell s0]; exact h2
  · rw [hb.cell s1]; exact h3
  · rw [hb.cell s1]; exact h4
  · rw [hb.cell s1]; exact h5

theorem hd_3_3_set {b0 b1 o0x0 o0x1 o0x2 o1x0 o1x1 o1x2 : Nat} {v0x0 v0x1 v0x2 v1x0 v1x1 v1x2 : Value} {W : World} {p : Addr} (h : ((W.cell? ⟨b0, o0x0, none⟩ = some (v0x0) ∧ W.cell? ⟨b0, o0x1, none⟩ = some (v0x1) ∧ W.cell? ⟨b0, o0x2, none⟩ = some (v0x2) ∧ W.cell? ⟨b1, o1x0, none⟩ = some (v1x0) ∧ W.cell? ⟨b1, o1x1, none⟩ = some (v1x1) ∧ W.cell? ⟨b1, o1x2, none⟩ = some (v1x2)) ∧ b0 < W.heap.size ∧ b1 < W.heap.size)) (p0 : p.block ≠ b0) (p1 : p.block ≠ b1) (u : Value) : (((W.setCell p u).cell? ⟨b0, o0x0, none⟩ = some (v0x0) ∧ (W.setCell p u).cell? ⟨b0, o0x1, none⟩ = some (v0x1) ∧ (W.setCell p u).cell? ⟨b0, o0x2, none⟩ = some (v0x2) ∧ (W.setCell p u).cell? ⟨b1, o1x0, none⟩ = some (v1x0) ∧ (W.setCell p u).cell? ⟨b1, o1x1, none⟩ = some (v1x1) ∧ (W.setCell p u).cell? ⟨b1, o1x2, none⟩ = some (v1x2)) ∧ b0 < (W.setCell p u).heap.size ∧ b1 < (W.setCell p u).heap.size) := by
  obtain ⟨⟨h0, h1, h2, h3, h4, h5⟩, s0, s1⟩ := h
  have hb : W.heap.size ≤ (W.setCell p u).heap.size := by simp [World.setCell]
  refine ⟨⟨?_, ?_, ?_, ?_, ?_, ?_⟩, Nat.lt_of_lt_of_le s0 hb, Nat.lt_of_lt_of_le s1 hb⟩
  · rw [cell_set_ne p0]; exact h0
  · rw [cell_set_ne p0]; exact h1
  · rw [cell_set_ne p0]; exact h2
  · rw [cell_set_ne p1]; exact h3
  · rw [cell_set_ne p1]; exact h4
  · rw [cell_set_ne p1]; exact h5

theorem hd_3_3_re {b0 b1 o0x0 o0x1 o0x2 o1x0 o1x1 o1x2 : Nat} {v0x0 v0x1 v0x2 v1x0 v1x1 v1x2 : Value} {W : World} {o o' : Obj} (h : (((W.alloc o).cell? ⟨b0, o0x0, none⟩ = some (v0x0) ∧ (W.alloc o).cell? ⟨b0, o0x1, none⟩ = some (v0x1) ∧ (W.alloc o).cell? ⟨b0, o0x2, none⟩ = some (v0x2) ∧ (W.alloc o).cell? ⟨b1, o1x0, none⟩ = some (v1x0) ∧ (W.alloc o).cell? ⟨b1, o1x1, none⟩ = some (v1x1) ∧ (W.alloc o).cell? ⟨b1, o1x2, none⟩ = some (v1x2)) ∧ b0 < (W.alloc o).heap.size ∧ b1 < (W.alloc o).heap.size)) (p0 : b0 < W.heap.size) (p1 : b1 < W.heap.size) : (((W.alloc o').cell? ⟨b0, o0x0, none⟩ = some (v0x0) ∧ (W.alloc o').cell? ⟨b0, o0x1, none⟩ = some (v0x1) ∧ (W.alloc o').cell? ⟨b0, o0x2, none⟩ = some (v0x2) ∧ (W.alloc o').cell? ⟨b1, o1x0, none⟩ = some (v1x0) ∧ (W.alloc o').cell? ⟨b1, o1x1, none⟩ = some (v1x1) ∧ (W.alloc o').cell? ⟨b1, o1x2, none⟩ = some (v1x2)) ∧ b0 < (W.alloc o').heap.size ∧ b1 < (W.alloc o').heap.size) := by
  obtain ⟨⟨h0, h1, h2, h3, h4, h5⟩, s0, s1⟩ := h
  have hb : Below W.heap.size (W.alloc o) (W.alloc o') := bel_re W o o'
  refine ⟨⟨?_, ?_, ?_, ?_, ?_, ?_⟩, Nat.lt_of_lt_of_le s0 hb.size, Nat.lt_of_lt_of_le s1 hb.size⟩
  · rw [hb.cell p0]; exact h0
  · rw [hb.cell p0]; exact h1
  · rw [hb.cell p0]; exact h2
  · rw [hb.cell p1]; exact h3
  · rw [hb.cell p1]; exact h4
  · rw [hb.cell p1]; exact h5

/-- Which of two is ahead: below 0, 0 or above 0. -/
def cmpI (a b : Int) : Int := if a < b then -1 else if b < a then 1 else 0

def orI (x y z : Int) : Int := if x = 0 then (if y = 0 then z else y) else x

theorem cmpI_l {a b : Int} (h : a < b) : cmpI a b = -1 := if_pos h

theorem cmpI_g {a b : Int} (h : b < a) : cmpI a b = 1 := by unfold cmpI; rw [if_neg (by omega), if_pos h]

theorem cmpI_e {a b : Int} (h1 : ¬ a < b) (h2 : ¬ b < a) : cmpI a b = 0 := by unfold cmpI; rw [if_neg h1, if_neg h2]

theorem orI_1 {x y z : Int} (h : ¬ x = 0) : orI x y z = x := if_neg h

theorem orI_2 {x y z : Int} (h : x = 0) (h2 : ¬ y = 0) : orI x y z = y := by unfold orI; rw [if_pos h, if_neg h2]

theorem orI_3 {x y z : Int} (h : x = 0) (h2 : y = 0) : orI x y z = z := by unfold orI; rw [if_pos h, if_pos h2]

theorem nan_any (a : Int) (w : World) : Calls Tryz.prog 85 #[.int .i64 a] w fun e w' => e = .returned (.bool false) ∧ w' = w := by
  go_enter Tryz.func85, Tryz.ntmps85
  go_wp2
  go_ret
  exact ⟨rfl, rfl⟩

theorem cmp_any (a b : Int) (w : World) : Calls Tryz.prog 80 #[.int .i64 a, .int .i64 b] w fun e w' => e = .returned (.int .i64 (cmpI a b)) ∧ w' = w := by
  by_cases h1 : a < b
  · have hq := hide (cmpI_l h1)
    go_enter Tryz.func80, Tryz.ntmps80
    go_wp2_with (go_at_call 85; refine (nan_any _ _).mono ?_; rintro e wx ⟨rfl, hw⟩; obtain rfl := hw.symm; clear hw)
    go_ret
    exact ⟨ret_i (unhide hq).symm, rfl⟩
  by_cases h2 : b < a
  · have hq := hide (cmpI_g h2)
    go_enter Tryz.func80, Tryz.ntmps80
    go_wp2_with (go_at_call 85; refine (nan_any _ _).mono ?_; rintro e wx ⟨rfl, hw⟩; obtain rfl := hw.symm; clear hw)
    go_ret
    exact ⟨ret_i (unhide hq).symm, rfl⟩
  have hq := hide (cmpI_e h1 h2)
  go_enter Tryz.func80, Tryz.ntmps80
  go_wp2_with (go_at_call 85; refine (nan_any _ _).mono ?_; rintro e wx ⟨rfl, hw⟩; obtain rfl := hw.symm; clear hw)
  go_ret
  exact ⟨ret_i (unhide hq).symm, rfl⟩

set_option maxHeartbeats 1000000 in
theorem or_any (x y z : Int) (g cap : Nat) (w : World) (h0 : w.cell? ⟨g, 0, none⟩ = some (.int .i64 x)) (h1 : w.cell? ⟨g, 1, none⟩ = some (.int .i64 y)) (h2 : w.cell? ⟨g, 2, none⟩ = some (.int .i64 z)) : Calls Tryz.prog 79 #[.slice (some ⟨g, 0, none⟩) 3 cap] w fun e w' => e = .returned (.int .i64 (orI x y z)) ∧ w' = w := by
  go_enter Tryz.func79, Tryz.ntmps79
  go_wp2
  go_loop [8] (fun i => ∃ j : Nat, j ≤ 3 ∧ i = .int .i64 j ∧ Hid ((1 ≤ j → x = 0) ∧ (2 ≤ j → y = 0) ∧ (3 ≤ j → z = 0))) (fun i => 3 - (intOf i).toNat)
  case atStart => exact ⟨0, by omega, rfl, hide ⟨by omega, by omega, by omega⟩⟩
  case round =>
    obtain ⟨j, hj, rfl, HZ⟩ := hrel
    rcases (show j = 0 ∨ j = 1 ∨ j = 2 ∨ j = 3 by omega) with rfl | rfl | rfl | rfl
    · by_cases hx : x = 0
      · have HZ2 : Hid ((1 ≤ 1 → x = 0) ∧ (2 ≤ 1 → y = 0) ∧ (3 ≤ 1 → z = 0)) := hide ⟨fun _ => hx, by omega, by omega⟩
        go_wp2
        go_round
        case rel => exact ⟨1, by omega, rfl, HZ2⟩
        case measure => simp [intOf]
      · have HQ := hide (orI_1 (y := y) (z := z) hx)
        have hx' : (x == 0) = false := by simpa using hx
        go_wp2
        go_ret
        exact ⟨ret_i (unhide HQ).symm, rfl⟩
    · by_cases hy : y = 0
      · have HZ2 : Hid ((1 ≤ 2 → x = 0) ∧ (2 ≤ 2 → y = 0) ∧ (3 ≤ 2 → z = 0)) := hide ⟨fun _ => (unhide HZ).1 (by omega), fun _ => hy, by omega⟩
        go_wp2
        go_round
        case rel => exact ⟨2, by omega, rfl, HZ2⟩
        case measure => simp [intOf]
      · have HQ := hide (orI_2 (z := z) ((unhide HZ).1 (by omega)) hy)
        have hy' : (y == 0) = false := by simpa using hy
        go_wp2
        go_ret
        exact ⟨ret_i (unhide HQ).symm, rfl⟩
    · by_cases hz : z = 0
      · have HZ2 : Hid ((1 ≤ 3 → x = 0) ∧ (2 ≤ 3 → y = 0) ∧ (3 ≤ 3 → z = 0)) := hide ⟨fun _ => (unhide HZ).1 (by omega), fun _ => (unhide HZ).2.1 (by omega), fun _ => hz⟩
        go_wp2
        go_round
        case rel => exact ⟨3, by omega, rfl, HZ2⟩
        case measure => simp [intOf]
      · have HQ := hide (orI_3 (z := z) ((unhide HZ).1 (by omega)) ((unhide HZ).2.1 (by omega)))
        have hz' : (z == 0) = false := by simpa using hz
        go_wp2
        go_ret
        exact ⟨ret_i (unhide HQ).symm, rfl⟩
    · have HQ := hide ((orI_3 (z := z) ((unhide HZ).1 (by omega)) ((unhide HZ).2.1 (by omega))).trans ((unhide HZ).2.2 (by omega)))
      go_wp2
      go_ret
      exact ⟨ret_i (unhide HQ).symm, rfl⟩

/-- How two windows of keys stand. -/
def plCmp (ky st en ky' st' en' : Int) : Int := orI (cmpI ky ky') (cmpI st st') (cmpI en en')

set_option maxRecDepth 20000 in
set_option maxHeartbeats 2000000 in
theorem compare_any (ky st en ky' st' en' : Int) (w : World) : Calls Tryz.prog 70 #[.agg #[.int .i64 ky, .int .i64 st, .int .i64 en], .agg #[.int .i64 ky', .int .i64 st', .int .i64 en']] w fun e w' => e = .returned (.int .i64 (plCmp ky st en ky' st' en')) ∧ Below w.heap.size w w' := by
  go_enter Tryz.func70, Tryz.ntmps70
  go_wp2
  go_region_held3 (fun W => ((W.cell? ⟨w.heap.size, 0, none⟩ = some (.int .i64 ky) ∧ W.cell? ⟨w.heap.size, 1, none⟩ = some (.int .i64 st) ∧ W.cell? ⟨w.heap.size, 2, none⟩ = some (.int .i64 en) ∧ W.cell? ⟨w.heap.size + 1, 0, none⟩ = some (.int .i64 ky') ∧ W.cell? ⟨w.heap.size + 1, 1, none⟩ = some (.int .i64 st') ∧ W.cell? ⟨w.heap.size + 1, 2, none⟩ = some (.int .i64 en')) ∧ w.heap.size < W.heap.size ∧ w.heap.size + 1 < W.heap.size)) ((first | ((repeat (first | (with_reducible assumption) | (with_reducible refine hd_3_3 ?_ (by with_reducible assumption)) | (with_reducible refine hd_3_3 ?_ (bel_drew (Below.refl _ _))) | (with_reducible exact hd_3_3_re (by with_reducible assumption) (sB) (sB)) | (with_reducible refine hd_3_3 ?_ (bel_one _ _)) | (with_reducible refine hd_3_3_set ?_ (sB) (sB) _))); done) | (refine ⟨⟨?_, ?_, ?_, ?_, ?_, ?_⟩, ?_, ?_⟩ <;> first | (go_keep; done) | (simp; done) | (simp; omega) | omega)))
    (first
    | (go_at_call 80; refine (cmp_any _ _ _).mono ?_; rintro e wx ⟨rfl, hw⟩; obtain rfl := hw.symm; clear hw)
    | (go_at_call 79; refine (or_any (cmpI ky ky') (cmpI st st') (cmpI en en') _ _ _ (by simp [go_sem]) (by simp [go_sem]) (by simp [go_sem])).mono ?_; rintro e wx ⟨rfl, hw⟩; obtain rfl := hw.symm; clear hw))
  all_goals
    go_wp2
    go_ret
    exact ⟨rfl, (belA)⟩
end Go.Proofs.YtikidpcgnmffcaaGreat
namespace Go.Proofs.YtikidpcgnmffcaaGreat
open Go.ChangeShapes Go.WideShapes Go.ChangeAt Go.RowKit
set_option linter.unusedVariables false

theorem dr_alloc {n : Nat} {W : World} (h : n ≤ W.drawn) (o : Obj) : n ≤ (W.alloc o).drawn := h

theorem dr_set {n : Nat} {W : World} (h : n ≤ W.drawn) (p : Addr) (v : Value) : n ≤ (W.setCell p v).drawn := h

theorem dr_drew {n : Nat} {W : World} (h : n ≤ W.drawn) : n ≤ W.drew.drawn := Nat.le_succ_of_le h

theorem dr_drewN {n : Nat} {W : World} (h : n ≤ W.drawn) (m : Nat) : n ≤ (W.drewN m).drawn := Nat.le_trans h (Nat.le_add_right _ _)

theorem grow_of_below {w w' : World} (h : Below w.heap.size w w') (hd : w.drawn ≤ w'.drawn) : ∃ q os, w' = Go.Sort.grow (w.drewN q) os := by
  refine ⟨w'.drawn - w.drawn, w'.heap.extract w.heap.size w'.heap.size, ?_⟩
  obtain ⟨h1, h2, h3, h4, h5⟩ := h
  have hh : w'.heap = w.heap ++ w'.heap.extract w.heap.size w'.heap.size := by
    apply Array.ext_getElem?
    intro k
    by_cases hk : k < w.heap.size
    · rw [Array.getElem?_append_left hk, h5 k hk]
    · rw [Array.getElem?_append_right (by omega), Array.getElem?_extract]
      by_cases hk2 : k < w'.heap.size
      · rw [if_pos (by omega)]
        congr 1
        omega
      · rw [if_neg (by omega), Array.getElem?_eq_none (by omega)]
  cases w' with
  | mk heap tape drawn os output =>
    simp only at h1 h2 h3 hh hd
    subst h1 h2 h3
    simp only [Go.Sort.grow, World.drewN]
    rw [← hh]
    congr 1
    omega

set_option maxRecDepth 20000 in
set_option maxHeartbeats 2000000 in
theorem compare_drawn (ky st en ky' st' en' : Int) (w : World) : Calls Tryz.prog 70 #[.agg #[.int .i64 ky, .int .i64 st, .int .i64 en], .agg #[.int .i64 ky', .int .i64 st', .int .i64 en']] w fun e w' => e = .returned (.int .i64 (plCmp ky st en ky' st' en')) ∧ Below w.heap.size w w' ∧ w.drawn ≤ w'.drawn := by
  go_enter Tryz.func70, Tryz.ntmps70
  go_wp2
  go_region_held3 (fun W => ((W.cell? ⟨w.heap.size, 0, none⟩ = some (.int .i64 ky) ∧ W.cell? ⟨w.heap.size, 1, none⟩ = some (.int .i64 st) ∧ W.cell? ⟨w.heap.size, 2, none⟩ = some (.int .i64 en) ∧ W.cell? ⟨w.heap.size + 1, 0, none⟩ = some (.int .i64 ky') ∧ W.cell? ⟨w.heap.size + 1, 1, none⟩ = some (.int .i64 st') ∧ W.cell? ⟨w.heap.size + 1, 2, none⟩ = some (.int .i64 en')) ∧ w.heap.size < W.heap.size ∧ w.heap.size + 1 < W.heap.size)) ((first | ((repeat (first | (with_reducible assumption) | (with_reducible refine hd_3_3 ?_ (by with_reducible assumption)) | (with_reducible refine hd_3_3 ?_ (bel_drew (Below.refl _ _))) | (with_reducible exact hd_3_3_re (by with_reducible assumption) (sB) (sB)) | (with_reducible refine hd_3_3 ?_ (bel_one _ _)) | (with_reducible refine hd_3_3_set ?_ (sB) (sB) _))); done) | (refine ⟨⟨?_, ?_, ?_, ?_, ?_, ?_⟩, ?_, ?_⟩ <;> first | (go_keep; done) | (simp; done) | (simp; omega) | omega)))
    (first
    | (go_at_call 80; refine (cmp_any _ _ _).mono ?_; rintro e wx ⟨rfl, hw⟩; obtain rfl := hw.symm; clear hw)
    | (go_at_call 79; refine (or_any (cmpI ky ky') (cmpI st st') (cmpI en en') _ _ _ (by simp [go_sem]) (by simp [go_sem]) (by simp [go_sem])).mono ?_; rintro e wx ⟨rfl, hw⟩; obtain rfl := hw.symm; clear hw))
  all_goals
    go_wp2
    go_ret
    exact ⟨rfl, (belA), (by repeat (first | (with_reducible exact Nat.le_refl _) | (with_reducible refine dr_alloc ?_ _) | (with_reducible refine dr_set ?_ _ _) | (with_reducible refine dr_drew ?_) | (with_reducible refine dr_drewN ?_ _)))⟩

theorem compare_grow (ky st en ky' st' en' : Int) (w : World) : Calls Tryz.prog 70 #[.agg #[.int .i64 ky, .int .i64 st, .int .i64 en], .agg #[.int .i64 ky', .int .i64 st', .int .i64 en']] w fun e w' => e = .returned (.int .i64 (plCmp ky st en ky' st' en')) ∧ ∃ q os, w' = Go.Sort.grow (w.drewN q) os :=
  (compare_drawn ky st en ky' st' en' w).mono fun e w' ⟨h1, h2, h3⟩ => ⟨h1, grow_of_below h2 h3⟩
end Go.Proofs.YtikidpcgnmffcaaGreat
namespace Go.Proofs.YtikidpcgnmffcaaGreat
open Go.ChangeShapes Go.WideShapes Go.ChangeAt Go.RowKit Go.Shelf Go.Lib Go.Sort
set_option linter.unusedVariables false

/-- A place as its three numbers; how two stand. -/
abbrev Pl := Int × Int × Int

def encPl (x : Pl) : List Value := [.int .i64 x.1, .int .i64 x.2.1, .int .i64 x.2.2]

def cfPl (x y : Pl) : Int := plCmp x.1 x.2.1 x.2.2 y.1 y.2.1 y.2.2

def ltPl (x y : Pl) : Prop := x.1 < y.1 ∨ (x.1 = y.1 ∧ (x.2.1 < y.2.1 ∨ (x.2.1 = y.2.1 ∧ x.2.2 < y.2.2)))

theorem cfPl_iff (x y : Pl) : cfPl x y < 0 ↔ ltPl x y := by
  unfold cfPl plCmp orI cmpI ltPl
  by_cases h1 : x.1 < y.1
  · simp [h1]
  · by_cases h2 : y.1 < x.1
    · simp [h1, h2]; omega
    · have e1 : x.1 = y.1 := by omega
      by_cases h3 : x.2.1 < y.2.1
      · simp [e1, h3]
      · by_cases h4 : y.2.1 < x.2.1
        · simp [e1, h3, h4]; omega
        · have e2 : x.2.1 = y.2.1 := by omega
          by_cases h5 : x.2.2 < y.2.2
          · simp [e1, e2, h5]
          · by_cases h6 : y.2.2 < x.2.2
            · simp [e1, e2, h5, h6]
            · simp [e1, e2, h5, h6]

theorem ltOfPl (x y : Pl) : ltOf cfPl x y = true ↔ ltPl x y := by
  unfold ltOf
  rw [decide_eq_true_iff]
  exact cfPl_iff x y

theorem ltOfPl_f (x y : Pl) : ltOf cfPl x y = false ↔ ¬ ltPl x y := by
  rw [← ltOfPl]
  simp

theorem swoPl : SWO (ltOf cfPl) where
  irrefl x := by rw [ltOfPl_f]; unfold ltPl; omega
  trans x y z h1 h2 := by rw [ltOfPl] at *; unfold ltPl at *; omega
  ntrans x y z h1 h2 := by rw [ltOfPl_f] at *; unfold ltPl at *; omega

theorem totPl (x y : Pl) (h1 : ltOf cfPl x y = false) (h2 : ltOf cfPl y x = false) : x = y := by
  rw [ltOfPl_f] at h1 h2
  unfold ltPl at h1 h2
  obtain ⟨a, b, c⟩ := x
  obtain ⟨a', b', c'⟩ := y
  simp only at h1 h2
  have e1 : a = a' := by omega
  have e2 : b = b' := by omega
  have e3 : c = c' := by omega
  rw [e1, e2, e3]

theorem cmpPl (blk off size : Nat) (w : World) : CmpLays Tryz.prog 70 #[] encPl 3 cfPl blk off size w := by
  intro m os dk hd x y
  exact compare_grow x.1 x.2.1 x.2.2 y.1 y.2.1 y.2.2 _

theorem sortpl_any (blk off cap : Nat) (d : Array Pl) (w : World) (hH : HoldsK encPl 3 w blk off d) (hblk : blk < w.heap.size) (hsz : d.size < 4611686018427387904) :
    Calls Tryz.prog 77 #[.slice (some ⟨blk, off, none⟩) d.size cap, .func (.func 70) #[] #[]] w fun e w' =>
      e = .returned (.tuple #[]) ∧ ∃ n os, w' = sortWorldK encPl 3 w blk off n (d.toList.mergeSort fun x y => !(ltOf cfPl) y x).toArray os := by
  have eg : ∀ args w, (callFunc 70 args).run Tryz.prog w = .ok (.enter 70 args) w := enters_of Tryz.func70 (by kernel_rfl) rfl
  exact AnyQ.slices_SortFunc_total Tryz.sortPl 3 Tryz.isAgg76 Tryz.sizeOf76 encPl (fun _ => rfl) (fun x v hv => by simp [encPl] at hv; rcases hv with rfl | rfl | rfl <;> rfl) cfPl swoPl _ #[] blk off cap d w eg (cmpPl blk off d.size w) hH hblk hsz totPl
end Go.Proofs.YtikidpcgnmffcaaGreat
namespace Go.Proofs.YtikidpcgnmffcaaGreat
open Go.RowKit Go.Shelf
set_option linter.unusedVariables false
attribute [local go_sem] Oper.semAt_some

theorem Tryz.infoP3 : (Tryz.prog.info? 76).map (fun i => (i.zero, i.size, i.bytes)) = some (some (.agg #[.int .i64 0, .int .i64 0, .int .i64 0]), 3, 24) := by kernel_rfl

def cells3 (x : P3) : List Value := [.int .i64 x.1, .int .i64 x.2.1, .int .i64 x.2.2]

def flat3 (xs : List P3) : List Value := xs.flatMap cells3

theorem flat3_snoc (xs : List P3) (x : P3) : flat3 (xs ++ [x]) = flat3 xs ++ [.int .i64 x.1, .int .i64 x.2.1, .int .i64 x.2.2] := by simp [flat3, cells3]

theorem flat3_len (xs : List P3) : (flat3 xs).length = xs.length * 3 := by
  induction xs with
  | nil => rfl
  | cons x r ih => show (cells3 x ++ flat3 r).length = _; rw [List.length_append, ih]; simp [cells3]; omega

def Own3 (W : World) (B : Nat) (v : Value) (xs : List P3) : Prop := W.ownsRow B 76 3 v xs.length (flat3 xs)

theorem cells_new3 (w : World) (a b c : Int) (ty : Nat) : ∀ j u, ([.int .i64 a, .int .i64 b, .int .i64 c] : List Value)[j]? = some u → (w.alloc (.cells #[.int .i64 a, .int .i64 b, .int .i64 c] ty)).cell? ((⟨w.heap.size, 0, none⟩ : Addr).add j) = some u := by
  intro j u hj
  have e : ((⟨w.heap.size, 0, none⟩ : Addr).add j) = ⟨w.heap.size, j, none⟩ := by
    unfold Addr.add
    split
    · rename_i h0; rw [h0]
    · simp
  rw [e]
  simpa [go_sem] using hj

def Bx3 (W : World) (q : Nat) (x : P3) : Prop := W.heap[q]? = some (.cells #[.int .i64 x.1, .int .i64 x.2.1, .int .i64 x.2.2] 76 (0, 0))

theorem Bx3.new (W : World) (x : P3) : Bx3 (W.alloc (.cells #[.int .i64 x.1, .int .i64 x.2.1, .int .i64 x.2.2] 76)) W.heap.size x := World.alloc_heap_new W _

theorem Bx3.cells {W : World} {q : Nat} {x : P3} (h : Bx3 W q x) : W.cell? ⟨q, 0, none⟩ = some (.int .i64 x.1) ∧ W.cell? ⟨q, 1, none⟩ = some (.int .i64 x.2.1) ∧ W.cell? ⟨q, 2, none⟩ = some (.int .i64 x.2.2) := ⟨(Joins.cell_of_block h 0), (Joins.cell_of_block h 1), (Joins.cell_of_block h 2)⟩

theorem grown_of3 {W W' : World} (h : Below W.heap.size W W') : W.grownBy W' none := ⟨h.os, h.tape, h.output, h.size, fun k hk _ => h.block k hk⟩

theorem walks_app {W w1 : World} {n₀ B : Nat} {e : TypeId} {size : Nat} {v v' : Value} {q : Nat} {ys : List Value} {tmp : Obj} (hrow : W.ownsRow n₀ e size v q ys) (hgrow : (W.alloc tmp).grownBy w1 v.ownBlock) : KeepsWalks W (w1.setCell ⟨B, 0, none⟩ v') := by
  refine ((KeepsWalks.alloc W tmp).trans (KeepsWalks.of_grownBy hgrow (fun j o hj ho => ?_))).trans (KeepsWalks.setCell _ _ _)
  rcases (hrow.alloc tmp).2 with ⟨rfl, _⟩ | ⟨g, cap, cur, rfl, _, hgb, _⟩
  · simp [Value.ownBlock] at hj
  · have : g = j := by simpa [Value.ownBlock] using hj
    subst this; rw [hgb] at ho; cases ho; rfl

/-- The frame of a round. -/
def act3 (w : World) (gf : Nat) (lb : Array Value) (x : P3) (q : Nat) : Act := { tmps := #[.slice none 0 0, .func (.func gf) #[] lb, .pointer (some ⟨w.heap.size, 0, none⟩), undef, .slice none 0 0, .pointer (some ⟨q, 0, none⟩), .func (.func gf) #[] lb, .agg #[.int .i64 x.1, .int .i64 x.2.1, .int .i64 x.2.2], undef, undef, undef, undef, undef], defers := [] }

set_option maxRecDepth 100000 in
set_option maxHeartbeats 4000000 in
theorem appendseq3 (gf : Nat) (lb : Array Value) (eg : ∀ args w, (callFunc gf args).run Tryz.prog w = .ok (.enter gf args) w) (S Sp : List P3 → Prop) (N : Nat) (hN : N ≤ 1048577) (w : World)
    (hseq : SeqStopsK Fence.wide 5 Tryz.prog gf lb (fun x : P3 => #[.agg #[.int .i64 x.1, .int .i64 x.2.1, .int .i64 x.2.2]]) KeepsWalks S Sp N w) :
    Calls Tryz.prog 82 #[.slice none 0 0, .func (.func gf) #[] lb] w fun e' w' => ∃ v' ss, e' = .returned v' ∧ S ss ∧ ss.length ≤ N ∧ Own3 w' w.heap.size v' ss ∧ Below w.heap.size w w' := by
  obtain ⟨i0, hi, hz0', hz1', hz2'⟩ := info_parts Tryz.infoP3
  refine (callsIn_wide (n := 6)).1 ?_
  refine callsIn_of_wp_marks Tryz.func82 rfl trivial ?_ rfl
  simp only [Tryz.ntmps82, List.size_toArray, List.length_cons, List.length_nil, Nat.reduceAdd, Nat.reduceSub, Array.replicate_succ, Array.replicate_zero, List.push_toArray, List.append_toArray, List.nil_append, List.cons_append]
  gi_wp2
  have bS := Boxed.new w 104 (.slice none 0 0)
  have hB0 : Below w.heap.size w (w.alloc (.cells #[.slice none 0 0] 104)) := bel_one _ _
  refine wpIn_rangeFunc_ownH rfl (by omega) (gf := gf) (lb := lb) rfl trivial eg
    hseq KeepsWalks.trans walksK_b hB0 (fun _ => rfl)
    (fun pre W => (∃ v, Boxed W w.heap.size 104 v ∧ W.ownsRow w.heap.size 76 3 v pre.length (flat3 pre) ∧ pre.length ≤ N) ∧ Below w.heap.size w W)
    (fun _ _ _ => False)
    (OwnFrom.and (Own.from (holdsRow_own w.heap.size w.heap.size 104 76 3 (fun pre : List P3 => pre.length) (fun pre => flat3 pre) (fun pre _ => pre.length ≤ N)) _) (ownFrom_below (Nat.le_refl _) (by simp)))
    (fun _ _ _ _ _ hs _ _ => hs)
    ⟨⟨_, bS, World.ownsRow_nil _ _ _ _, Nat.zero_le _⟩, hB0⟩
    (fun x a' W => ∃ q, a' = act3 w gf lb x q ∧ Bx3 W q x)
    (fun x a' _ W W' row hs hg hr => by
      obtain ⟨q, e1, hq⟩ := hs
      refine ⟨q, e1, (hg.block q (Array.getElem?_eq_some_iff.1 hq).1 (fun e9 => ?_)).trans hq⟩
      obtain ⟨_, o, ho, hc⟩ := hr q e9.symm
      rw [hq] at ho
      cases ho
      cases hc) ?assign ?body ?done ?stop
  case assign =>
    rintro lb0 pre x W K ⟨⟨rv, hv, hrow, hpN⟩, hB⟩ hK
    have HK := hK (act3 w gf lb x W.heap.size) (W.alloc (.cells #[.int .i64 x.1, .int .i64 x.2.1, .int .i64 x.2.2] 76)) ((KeepsOthers.of_grownBy (grown_of3 (bel_one W _)) (fun _ _ e => by cases e)).from _) (KeepsWalks.alloc _ _) ⟨⟨rv, hv.alloc _, hrow.alloc _, hpN⟩, bel_alloc hB _⟩ ⟨_, rfl, Bx3.new W x⟩
    clear hK
    unfold act3 at HK
    gi_wp2
    exact HK
  case body =>
    rintro lb0 pre x a' W hlb _ ⟨⟨rv, hv, hrow, hpN⟩, hB⟩ ⟨q, rfl, hq⟩ hpl
    have hcv := hv.cell
    have hz1 := hv.lt
    have hfv := hv.frozen
    have HR := hide hrow
    have HV := hide hv
    obtain ⟨x0, x1, x2⟩ := hq.cells
    have hlq := (Array.getElem?_eq_some_iff.1 hq).1
    clear hB0 bS hrow hv hq
    unfold act3
    gi_wp2_with (gi_at_builtin; go_loud (refine wpListIn_append_own _ rfl _ _ 104 rfl w.heap.size 76 i0 _ 3 24 Tryz.underlying104 hi hz0' hz1' hz2' rfl (by decide) rv _ _ rfl (World.ownsRow.alloc (unhide HR) _) ⟨W.heap.size, 0, none⟩ 1 1 [.int .i64 x.1, .int .i64 x.2.1, .int .i64 x.2.2] rfl rfl (cells_new3 W x.1 x.2.1 x.2.2 _) (by simp [Value.oneCell']) (by unfold maxLen; omega) (by omega) (by simp; omega) ?_); intro v' w2 hown' hgrow _; obtain ⟨g', cap', rfl⟩ := ownsRow_succ hown'; obtain ⟨hv1, hv2, hr2, hk2, hb2⟩ := Boxed.appended (unhide HV) (by decide) (unhide HR) (by omega) (Nat.le_refl _) hown' hgrow; have hkp := walks_app (B := w.heap.size) (v' := .slice (some ⟨g', 0, none⟩) (pre.length + 1) cap') (unhide HR) hgrow; have hcc := hv1.cell; have hff := hv1.frozen; have HV3 := hide hv2; have HR3 := hide hr2; clear hv1 hv2 hr2 hown' hgrow)
    exact ⟨hk2.from _, hkp, ⟨_, unhide HV3, by rw [flat3_snoc, List.length_append]; exact unhide HR3, by rw [List.length_append]; simp; omega⟩, hB.trans hb2⟩
  case done =>
    rintro D ys W hD hys ⟨⟨rv, hv, hrow, hpN⟩, hB⟩ hK
    have hcv := hv.cell
    have HR := hide hrow
    clear hrow
    gi_wp2
    refine ⟨by simp, .inl ⟨_, _, rfl, run_takeDeferred hK, ?_⟩⟩
    exact ⟨_, results_tmp rfl _ _ _, rv, ys, rfl, hys, hpN, ownsRow_putObj (unhide HR) _ hK rfl, hB.trans (belowK_b (w := w) (Nat.le_refl _) W D _ _ (by simp at hD; omega) hK rfl rfl)⟩
  case stop =>
    rintro D c pre W _ _ hx _
    exact hx.elim

theorem collect3 (gf : Nat) (lb : Array Value) (eg : ∀ args w, (callFunc gf args).run Tryz.prog w = .ok (.enter gf args) w) (S Sp : List P3 → Prop) (N : Nat) (hN : N ≤ 1048577) (w : World)
    (hseq : SeqStopsK Fence.wide 5 Tryz.prog gf lb (fun x : P3 => #[.agg #[.int .i64 x.1, .int .i64 x.2.1, .int .i64 x.2.2]]) KeepsWalks S Sp N w) :
    Calls Tryz.prog 76 #[.func (.func gf) #[] lb] w fun e' w' => ∃ v' ss, e' = .returned v' ∧ S ss ∧ ss.length ≤ N ∧ Own3 w' w.heap.size v' ss ∧ Below w.heap.size w w' := by
  go_enter Tryz.func76, Tryz.ntmps76
  go_wp2_with fail
  refine (appendseq3 gf lb eg S Sp N hN _ hseq).mono ?_
  rintro e' w' ⟨v', ss, rfl, hS, hl, hO, hb⟩
  go_wp2_with fail
  go_ret
  exact ⟨_, ss, rfl, hS, hl, hO, hb⟩
end Go.Proofs.YtikidpcgnmffcaaGreat
namespace Go.Proofs.YtikidpcgnmffcaaGreat
open Go.RowKit Go.Shelf Go.Sort Go.Lib
set_option linter.unusedVariables false

theorem flat3_get : ∀ (ss : List P3) (t : Nat), t < ss.length * 3 → (flat3 ss)[t]? = (cells3 ss[t / 3]!)[t % 3]?
  | [], t, h => by simp at h
  | x :: r, t, h => by
    show (cells3 x ++ flat3 r)[t]? = _
    by_cases h3 : t < 3
    · rw [List.getElem?_append_left (by simp [cells3]; omega), Nat.div_eq_of_lt h3, Nat.mod_eq_of_lt h3]
      rfl
    · rw [List.getElem?_append_right (by simp [cells3]; omega)]
      have hl : (cells3 x).length = 3 := rfl
      rw [hl, flat3_get r (t - 3) (by simp at h; omega)]
      have e1 : t / 3 = (t - 3) / 3 + 1 := by omega
      have e2 : t % 3 = (t - 3) % 3 := by omega
      rw [e1, e2]
      simp

theorem flatK3 (ss : List P3) : (Go.Sort.flatK encPl 3 ss.toArray).toList = flat3 ss := by
  apply List.ext_getElem?
  intro t
  by_cases h : t < ss.length * 3
  · rw [flat3_get ss t h, Array.getElem?_toList, Array.getElem?_eq_getElem (by rw [size_flatK]; simpa using h)]
    have h9 := get_flatK encPl 3 ss.toArray t (by simpa using h)
    rw [getElem!_pos _ t (by rw [size_flatK]; simpa using h)] at h9
    rw [h9]
    have hm : t % 3 < 3 := Nat.mod_lt _ (by omega)
    have hq : ss.toArray[t / 3]! = ss[t / 3]! := by simp
    rw [hq]
    have hc : (encPl ss[t / 3]!) = cells3 ss[t / 3]! := rfl
    rw [hc]
    generalize ss[t / 3]! = y
    have hy : t % 3 < (cells3 y).length := hm
    rw [getElem!_pos (cells3 y) _ hy, List.getElem?_eq_getElem hy]
  · rw [Array.getElem?_toList, Array.getElem?_eq_none (by rw [size_flatK]; simp; omega), List.getElem?_eq_none (by rw [flat3_len]; omega)]

theorem take_putV (F cur : Array Value) (h : F.size ≤ cur.size) : (putCells id 0 F cur).toList.take F.size = F.toList := by
  apply List.ext_getElem?
  intro j
  by_cases hj : j < F.size
  · rw [List.getElem?_take_of_lt hj, Array.getElem?_toList, Array.getElem?_toList]
    simp [putCells, hj, show j < cur.size by omega]
  · rw [List.getElem?_take_eq_none (by omega), List.getElem?_eq_none (by simp; omega)]

theorem heap_srt {w : World} {g n : Nat} {os : Array Obj} {cur : Array Value} {e : TypeId} {fr : Nat × Nat} (F : Array Value) (hb : w.heap[g]? = some (.cells cur e fr)) :
    (grow (putRow id (Sort.ahead w n) g 0 F) os).heap[g]? = some (.cells (putCells id 0 F cur) e fr) := by
  have hg : g < w.heap.size := (Array.getElem?_eq_some_iff.1 hb).1
  rw [heap_grow_old _ _ (by simpa using hg)]
  simp [putRow, mapBlock, Sort.ahead, Array.getElem?_modify, hb, onCells]

theorem below_srt {w : World} {g n B : Nat} {os : Array Obj} (F : Array Value) (hB : B ≤ g) (hw : B ≤ w.heap.size) : Below B w (grow (putRow id (Sort.ahead w n) g 0 F) os) := by
  refine ⟨rfl, rfl, rfl, by simp, fun k hk => ?_⟩
  rw [heap_grow_old _ _ (by simp; omega)]
  have : g ≠ k := by omega
  simp [putRow, mapBlock, Sort.ahead, Array.getElem?_modify, this]

/-- Places in order. -/
def srt3 (ss : List P3) : List P3 := ss.mergeSort fun x y => !(ltOf cfPl) y x

theorem srt3_len (ss : List P3) : (srt3 ss).length = ss.length := List.length_mergeSort ss

theorem srt3_perm (ss : List P3) : (srt3 ss).Perm ss := List.mergeSort_perm ss _

theorem sort3_any (B : Nat) (v : Value) (ss : List P3) (w : World) (h : Own3 w B v ss) (hB : B ≤ w.heap.size) (hl : ss.length ≤ 1048577) : Calls Tryz.prog 77 #[v, .func (.func 70) #[] #[]] w fun e w' =>
    e = .returned (.tuple #[]) ∧ Own3 w' B v (srt3 ss) ∧ Below B w w' := by
  obtain ⟨h0, hc⟩ := h
  by_cases hz : ss.length = 0
  · obtain rfl : ss = [] := List.eq_nil_of_length_eq_zero hz
    have hv : ∃ p cap, v = .slice p 0 cap := by
      rcases hc with ⟨rfl, _⟩ | ⟨g, cap, cur, rfl, _⟩
      · exact ⟨_, _, rfl⟩
      · exact ⟨_, _, rfl⟩
    obtain ⟨p, cap, rfl⟩ := hv
    refine (AnyF.slices_SortFunc_none Tryz.sortPl p cap _ w).mono ?_
    rintro e w' ⟨rfl, rfl⟩
    have e0 : srt3 [] = [] := by simp [srt3]
    rw [e0]
    exact ⟨rfl, ⟨h0, hc⟩, Below.refl _ _⟩
  · obtain ⟨g, cap, cur, rfl, hg, hblk, h1, h2, h3, h4⟩ := hc.resolve_left (fun h => hz h.2)
    have hsz : (Go.Sort.flatK encPl 3 ss.toArray).size = ss.length * 3 := by simp
    have hH : HoldsK encPl 3 w g 0 ss.toArray := by
      intro j hj
      rw [hsz] at hj
      refine ⟨?_, by simp [World.frozen?, hblk]⟩
      rw [Nat.zero_add, Joins.cell_of_block hblk j, ← Array.getElem?_toList]
      have h5 : (cur.toList.take (ss.length * 3))[j]? = (flat3 ss)[j]? := by rw [h4]
      rw [List.getElem?_take_of_lt hj] at h5
      rw [h5, ← flatK3, Array.getElem?_toList, Array.getElem?_eq_getElem (by rw [hsz]; exact hj), getElem!_pos _ j (by rw [hsz]; exact hj)]
      rfl
    have hgl : g < w.heap.size := (Array.getElem?_eq_some_iff.1 hblk).1
    have h9 := sortpl_any g 0 cap ss.toArray w hH hgl (by simp; omega)
    rw [List.size_toArray] at h9
    refine h9.mono ?_
    rintro e w' ⟨rfl, n, os, rfl⟩
    have hF : (Go.Sort.flatK encPl 3 (srt3 ss).toArray).size = ss.length * 3 := by simp [srt3_len]
    refine ⟨rfl, ⟨by rw [flat3_len], .inr ⟨g, cap, _, by rw [srt3_len], hg, heap_srt _ hblk, by rw [srt3_len]; exact h1, h2, by simp [putCells, h3], ?_⟩⟩, below_srt _ hg hB⟩
    have h8 := take_putV (Go.Sort.flatK encPl 3 (srt3 ss).toArray) cur (by rw [hF, h3]; exact Nat.mul_le_mul_right 3 h1)
    rw [hF, flatK3] at h8
    rw [srt3_len]
    exact h8

theorem sorted3 (gf : Nat) (lb : Array Value) (eg : ∀ args w, (callFunc gf args).run Tryz.prog w = .ok (.enter gf args) w) (S Sp : List P3 → Prop) (N : Nat) (hN : N ≤ 1048577) (w : World)
    (hseq : SeqStopsK Fence.wide 5 Tryz.prog gf lb (fun x : P3 => #[.agg #[.int .i64 x.1, .int .i64 x.2.1, .int .i64 x.2.2]]) KeepsWalks S Sp N w) :
    Calls Tryz.prog 68 #[.func (.func gf) #[] lb, .func (.func 70) #[] #[]] w fun e' w' => ∃ v' ss, e' = .returned v' ∧ S ss ∧ ss.length ≤ N ∧ Own3 w' w.heap.size v' (srt3 ss) ∧ Below w.heap.size w w' := by
  go_enter Tryz.func68, Tryz.ntmps68
  go_wp2_with fail
  refine (collect3 gf lb eg S Sp N hN _ hseq).mono ?_
  rintro e' w1 ⟨v', ss, rfl, hS, hl, hO, hb⟩
  go_wp2_with fail
  refine (sort3_any w.heap.size v' ss _ hO hb.size (by omega)).mono ?_
  rintro e' w2 ⟨rfl, hO2, hb2⟩
  go_wp2_with fail
  go_ret
  exact ⟨_, ss, rfl, hS, hl, hO2, hb.trans hb2⟩
end Go.Proofs.YtikidpcgnmffcaaGreat
namespace Go.Proofs.YtikidpcgnmffcaaGreat
open Go.RowKit Go.Shelf Go.Maps
set_option linter.unusedVariables false
attribute [local go_sem] Oper.semAt_some

/-- A map's values, read as they are. -/
def rdV (v : Value) : Option (DataW Value × List MemPlace) := some (.held v, [])

/-- Block b is a map of at most n places that holds what m says. -/
def OwnsV (w : World) (b n : Nat) (m : P3 → Option Value) : Prop := OwnsOp w Tryz.prog 76 rdV b n v3 ok3 DataW.held m

theorem OwnsV.look {w : World} {b n : Nat} {m : P3 → Option Value} (h : OwnsV w b n m) {z : Value} (hz : (zeroValue 47).run Tryz.prog w = .ok z w) (q : P3) (hq : ok3 q) :
    (Instr.lookup 74 (.map (some b)) (.agg #[.int .i64 q.1, .int .i64 q.2.1, .int .i64 q.2.2]) false).run Tryz.prog w = .ok ((m q).getD z) w := by
  obtain ⟨v, ps, h1, h2⟩ := OwnsOp.look h key3 Tryz.underlying74 hz (zd := .held z) (zp := []) rfl some3 q hq
  have e : v = (m q).getD z := by
    cases hm : m q with
    | none => rw [hm] at h2; simp [rdV] at h2; exact h2.1
    | some a => rw [hm] at h2; simp [rdV] at h2; exact h2.1
  rw [← e]
  exact h1

/-- The keys of a map, each once. -/
def KeysOf {V : Type} (m : P3 → Option V) (ss : List P3) : Prop := ss.Nodup ∧ ∀ q, q ∈ ss ↔ (ok3 q ∧ m q ≠ none)

/-- What is told of a map: its places in order, each with what stands there. -/
def InOrd {V : Type} (z : V) (m : P3 → Option V) (ys : List (P3 × V)) : Prop := ∃ ss, KeysOf m ss ∧ ys = (srt3 ss).map (fun q => (q, (m q).getD z))

/-- What a round keeps: maps, and blocks of places and of maps' names. -/
def KpO (W W' : World) : Prop := KeepsWalks W W' ∧ ∀ (b : Nat) (cs : Array Value) (ty : TypeId), (ty = 76 ∨ ty = 74) → W.heap[b]? = some (Obj.cells cs ty (0, 0)) → W'.heap[b]? = some (Obj.cells cs ty (0, 0))

theorem KpO.trans {A B C : World} (h : KpO A B) (k : KpO B C) : KpO A C := ⟨h.1.trans k.1, fun b cs ty ht hb => k.2 b cs ty ht (h.2 b cs ty ht hb)⟩

theorem KpO.put {w : World} (W : World) (l : Nat) (o o' : Obj) (hl : w.heap.size ≤ l) (h : W.heap[l]? = some o) (hc : o.isCells = false) (hw : o.isWalk = false) : KpO W (W.putObj l o') := by
  refine ⟨KeepsWalks.putObj _ h hw, fun b cs ty _ hb => ?_⟩
  have hne : b ≠ l := by
    rintro rfl
    rw [hb] at h
    cases h
    cases hc
  rw [World.putObj_heap_other hne]
  exact hb

theorem KpO.of_bel {W W' : World} (hb : Below W.heap.size W W') : KpO W W' := ⟨⟨hb.size, fun k o hk _ => (hb.block k (Array.getElem?_eq_some_iff.1 hk).1).trans hk⟩, fun b cs ty _ h => (hb.block b (Array.getElem?_eq_some_iff.1 h).1).trans h⟩

theorem OwnsV.kp {W W' : World} {b n : Nat} {m : P3 → Option Value} (h : OwnsV W b n m) (k : KeepsWalks W W') : OwnsV W' b n m := by
  obtain ⟨D, ⟨es, clock, h1, h2⟩, hf⟩ := h
  exact ⟨D, ⟨es, clock, k.same b _ h1 rfl, h2⟩, hf⟩

theorem own3_kp {B : Nat} {W W' : World} {v : Value} {ys : List P3} (h : Own3 W B v ys) (hk : KpO W W') : Own3 W' B v ys := by
  rcases h with ⟨hl, h | ⟨g, cap, cur, hv, hB, hblk, r⟩⟩
  · exact ⟨hl, Or.inl h⟩
  · exact ⟨hl, Or.inr ⟨g, cap, cur, hv, hB, hk.2 g cur _ (Or.inl rfl) hblk, r⟩⟩

/-- A slice of places of one's own, read. -/
theorem hold3 {W : World} {B : Nat} {v : Value} {ys : List P3} (h : Own3 W B v ys) : ∃ a cap, v = .slice a ys.length cap ∧ (∀ i x, ys[i]? = some x → ∃ g, a = some ⟨g, 0, none⟩ ∧ g < W.heap.size ∧ W.cell? ⟨g, i * 3, none⟩ = some (.int .i64 x.1) ∧ W.cell? ⟨g, i * 3 + 1, none⟩ = some (.int .i64 x.2.1) ∧ W.cell? ⟨g, i * 3 + 2, none⟩ = some (.int .i64 x.2.2)) := by
  obtain ⟨hl, ⟨rfl, h0⟩ | ⟨g, cap, cur, rfl, hB, hblk, h1, h2, h3, h4⟩⟩ := h
  · rw [h0]
    refine ⟨none, 0, rfl, fun i x hx => ?_⟩
    rw [List.eq_nil_of_length_eq_zero h0] at hx
    simp at hx
  · refine ⟨_, cap, rfl, fun i x hx => ⟨g, rfl, (Array.getElem?_eq_some_iff.1 hblk).1, ?_⟩⟩
    have hi : i < ys.length := (List.getElem?_eq_some_iff.1 hx).1
    have hy : ys[i]! = x := by rw [List.getElem!_eq_getElem?_getD, hx]; rfl
    have hc : ∀ j, j < 3 → W.cell? ⟨g, i * 3 + j, none⟩ = (cells3 x)[j]? := by
      intro j hj
      rw [Joins.cell_of_block hblk, ← Array.getElem?_toList]
      have h5 : (cur.toList.take (ys.length * 3))[i * 3 + j]? = (flat3 ys)[i * 3 + j]? := by rw [h4]
      rw [List.getElem?_take_of_lt (by omega)] at h5
      rw [h5, flat3_get ys _ (by omega)]
      have e1 : (i * 3 + j) / 3 = i := by omega
      have e2 : (i * 3 + j) % 3 = j := by omega
      rw [e1, e2, hy]
    exact ⟨hc 0 (by omega), hc 1 (by omega), hc 2 (by omega)⟩

theorem ents_at {V : Type} {z : V} {m : P3 → Option V} {ss : List P3} {i : Nat} {x : P3} (h : ss[i]? = some x) : (ss.take (i + 1)).map (fun q => (q, (m q).getD z)) = (ss.take i).map (fun q => (q, (m q).getD z)) ++ [(x, (m x).getD z)] := by
  rw [List.take_add_one, h]; simp

set_option maxRecDepth 100000 in
set_option maxHeartbeats 4000000 in
theorem inord_in (n : Nat) (hn : 8 ≤ n) (lb0 Bm b nn : Nat) {V : Type} (ev : V → Value) (m : P3 → Option V) (z : V) (hz : ∀ u : World, (zeroValue 47).run Tryz.prog u = .ok (ev z) u) (J Jx : List (P3 × V) → World → Prop)
    (hY : ∀ pre x W, J pre W → pre.length < nn → YieldAt Fence.wide (n - 1) Tryz.prog lb0 #[.agg #[.int .i64 x.1.1, .int .i64 x.1.2.1, .int .i64 x.1.2.2], ev x.2] W fun e W' =>
      (e = .returned (.bool true) ∧ J (pre ++ [x]) W' ∧ KpO W W') ∨ (e = .returned (.bool false) ∧ Jx (pre ++ [x]) W'))
    (W : World) (hJ : AbidesFrom W.heap.size J) (hnn : nn ≤ 1048577) (hm : W.heap[Bm]? = some (.cells #[.map (some b)] 74 (0, 0))) (hown : OwnsV W b nn (fun q => (m q).map ev)) (h0 : J [] W) :
    CallsIn Fence.wide n Tryz.prog 67 #[.func (.yield lb0) #[] #[], .pointer (some ⟨Bm, 0, none⟩)] W fun e W' => (∃ v, e = .returned v) ∧
      ((∃ ys, InOrd z m ys ∧ J ys W') ∨ (∃ pre, True ∧ Jx pre W')) := by
  have hBm : Bm < W.heap.size := (Array.getElem?_eq_some_iff.1 hm).1
  have hmc : W.cell? ⟨Bm, 0, none⟩ = some (.map (some b)) := Joins.cell_of_block hm 0
  obtain ⟨D0, hD0, hD1⟩ := hown
  have hOV : OwnsV W b nn (fun q => (m q).map ev) := ⟨D0, hD0, hD1⟩
  have hsz : Maps.size D0 ≤ nn := hD0.size_le
  have hb1 : Below W.heap.size W (W.alloc (.cells #[.map (some b)] 74)) := bel_one _ _
  have hD0' : (W.alloc (.cells #[.map (some b)] 74)).ownsMap Tryz.prog 76 rdV b nn D0 := hD0.kept ⟨hb1.os, hb1.tape, hb1.output, hb1.size, fun k hk _ => hb1.block k hk⟩ (row := none) (by simp)
  have hseq := keysT_stops 5 (by omega) W.heap.size b nn D0 (W.alloc (.cells #[.map (some b)] 74)) (by simp) (by simp [go_sem]) hD0'
  refine callsIn_of_wp Tryz.func67 rfl trivial ?_ rfl
  simp only [Tryz.ntmps67, List.size_toArray, List.length_cons, List.length_nil, Nat.reduceAdd, Nat.reduceSub, Array.replicate_succ, Array.replicate_zero, List.push_toArray, List.append_toArray, List.nil_append, List.cons_append]
  gi_wp2_with (first
    | (refine ⟨trivial, fun _ => (by omega), ?_⟩; gi_at_call 69; refine (callsIn_wide.2 (keysT_any b _)).mono ?_; rintro e' w1 ⟨rfl, hw1⟩; subst hw1)
    | (refine ⟨trivial, fun _ => (by omega), ?_⟩; gi_at_call 68; refine (callsIn_wide.2 (sorted3 _ _ (enters_of Tryz.func78 (by kernel_rfl) rfl) _ _ (Maps.size D0) (by omega) _ hseq)).mono ?_; rintro e' w2 ⟨vs, ss, rfl, hKA, hsl, hO3, hb2⟩; obtain ⟨aa, cs, rfl, _⟩ := hold3 hO3))
  have hKO : KeysOf m ss := by
    obtain ⟨k1, k2⟩ := CollO.all hKA some3 hD1 (fun _ => rfl)
    exact ⟨k1, fun q => by rw [k2 q]; simp⟩
  have hbW : Below W.heap.size W w2 := bel_trans hb1 hb2
  have hJ2 : J [] w2 := hJ [] W w2 none h0 (grown_of0 hbW) (fun r e => by cases e)
  have hm2 : w2.heap[Bm]? = some (.cells #[.map (some b)] 74 (0, 0)) := (hbW.block Bm hBm).trans hm
  have hO2 : OwnsV w2 b nn (fun q => (m q).map ev) := hOV.kp (KpO.of_bel hbW).1
  have hls : (srt3 ss).length ≤ nn := by rw [srt3_len]; omega
  have hok : ∀ x ∈ srt3 ss, ok3 x := fun x hx => ((hKO.2 x).1 ((srt3_perm ss).mem_iff.1 hx)).1
  have HI : Hid (InOrd z m ((srt3 ss).map (fun q => (q, (m q).getD z)))) := hide ⟨ss, hKO, rfl⟩
  clear hKO hKA hsl hD0 hD1 hOV hD0' hseq hb1 hb2 h0 hm hmc hbW hsz
  generalize srt3 ss = ts at hls hok HI hO3 ⊢
  gi_loopw [9] (fun iv wr => ∃ i : Nat, i ≤ ts.length ∧ iv = .int .i64 i ∧ Hid (J ((ts.take i).map (fun q => (q, (m q).getD z))) wr) ∧ Hid (wr.heap[Bm]? = some (.cells #[.map (some b)] 74 (0, 0))) ∧ Hid (OwnsV wr b nn (fun q => (m q).map ev)) ∧ Hid (Own3 wr (W.alloc (.cells #[.map (some b)] 74)).heap.size (.slice aa ts.length cs) ts)) (fun iv _ => ts.length - (intOf iv).toNat)
  case atStart => exact ⟨0, Nat.zero_le _, rfl, hide (by simpa using hJ2), hide hm2, hide hO2, hide hO3⟩
  case round =>
    clear hJ2 hm2 hO2 hO3
    obtain ⟨i, hil, rfl, hJs, hmr, hOr, h3r⟩ := hrel
    by_cases hlt : i < ts.length
    · obtain ⟨x, hxk⟩ : ∃ x, ts[i]? = some x := ⟨_, List.getElem?_eq_getElem hlt⟩
      have hxo := hok x (List.mem_of_getElem? hxk)
      obtain ⟨a', cs', e9, hcl⟩ := hold3 (unhide h3r)
      simp at e9
      obtain ⟨rfl, rfl⟩ := e9
      obtain ⟨g, rfl, hgl, c0, c1, c2⟩ := hcl i x hxk
      have HX := hide (ents_at (z := z) (m := m) hxk)
      clear hxk hcl
      obtain ⟨xa, xb, xc⟩ := x
      dsimp only at c0 c1 c2
      have hmc := Joins.cell_of_block (unhide hmr) 0
      have hBl : Bm < wr.heap.size := (Array.getElem?_eq_some_iff.1 (unhide hmr)).1
      have hbd : Below wr.heap.size wr (wr.alloc (.cells #[.int .i64 xa, .int .i64 xb, .int .i64 xc] 76)).drew := bel_drew (bel_one _ _)
      have hlk := ((unhide hOr).kp (KpO.of_bel hbd).1).look (hz _) (xa, xb, xc) hxo
      have hJd := hJ _ wr _ none (unhide hJs) (grown_of0 hbd) (fun r e => by cases e)
      obtain ⟨vv, hvv⟩ : ∃ vv, (m (xa, xb, xc)).getD z = vv := ⟨_, rfl⟩
      have hev : ((m (xa, xb, xc)).map ev).getD (ev z) = ev vv := by rw [← hvv]; cases m (xa, xb, xc) <;> rfl
      rw [hev] at hlk
      rw [hvv] at HX
      clear hev
      obtain ⟨fn, tmps, assign, body, hy, hR⟩ := hY _ ((xa, xb, xc), vv) _ hJd (by rw [List.length_map, List.length_take]; omega)
      dsimp only at hlk hy hR
      have hR2 : RoundIn Fence.wide (n - 1) Tryz.prog lb0 fn tmps assign body (wr.alloc (.cells #[.int .i64 xa, .int .i64 xb, .int .i64 xc] 76)).drew fun e W' => ∃ bb : Bool, e = .returned (.bool bb) ∧ Hid ((bb = true ∧ J ((ts.take i).map (fun q => (q, (m q).getD z)) ++ [((xa, xb, xc), vv)]) W' ∧ KpO (wr.alloc (.cells #[.int .i64 xa, .int .i64 xb, .int .i64 xc] 76)).drew W') ∨ (bb = false ∧ Jx ((ts.take i).map (fun q => (q, (m q).getD z)) ++ [((xa, xb, xc), vv)]) W')) := hR.mono (fun e W' h9 => by
        rcases h9 with ⟨rfl, h1, h2⟩ | ⟨rfl, h1⟩
        · exact ⟨true, rfl, hide (.inl ⟨rfl, h1, h2⟩)⟩
        · exact ⟨false, rfl, hide (.inr ⟨rfl, h1⟩)⟩)
      clear hR hvv hJd hbd
      gi_wp2
      gi_region_with (refine ⟨fun _ => (by omega), hR2.mono ?_⟩; rintro e' W3 ⟨bb, rfl, H3⟩)
      all_goals
        rcases unhide H3 with ⟨rfl, hJ3, hk3⟩ | ⟨rfl, hJx3⟩
        · have hk4 : KpO wr W3 := (KpO.of_bel (bel_drew (bel_one _ _))).trans hk3
          have HJ : Hid (J ((ts.take (i + 1)).map (fun q => (q, (m q).getD z))) W3) := hide (by rw [unhide HX]; exact hJ3)
          have HM := hide (hk4.2 Bm _ _ (Or.inr rfl) (unhide hmr))
          have HO := hide ((unhide hOr).kp hk4.1)
          have H3r := hide (own3_kp (unhide h3r) hk4)
          clear hJs hmr hOr h3r hJ3 hk3 hk4 H3
          gi_wp2
          go_roundw
          case rel => exact ⟨i + 1, by omega, by go_num, HJ, HM, HO, H3r⟩
          case measure => simp [intOf]; omega
        · clear hJs hmr hOr h3r H3
          gi_wp2
          refine bodyPost_ret (results_none rfl _ _ _) rfl ?_
          exact ⟨⟨_, rfl⟩, .inr ⟨_, trivial, hJx3⟩⟩
    · gi_wp2
      go_end0
      exact ⟨⟨_, rfl⟩, .inl ⟨_, unhide HI, by have h9 := unhide hJs; rw [List.take_of_length_le (by omega)] at h9; exact h9⟩⟩

/-- inOrder hands back a value that tells what stands in a map, in order. -/
theorem inord_stops (n : Nat) (hn : 8 ≤ n) (Bm b nn : Nat) {V : Type} (ev : V → Value) (m : P3 → Option V) (z : V) (hz : ∀ u : World, (zeroValue 47).run Tryz.prog u = .ok (ev z) u) (w : World) (hnn : nn ≤ 1048577) (hm : w.heap[Bm]? = some (.cells #[.map (some b)] 74 (0, 0))) (hown : OwnsV w b nn (fun q => (m q).map ev)) :
    SeqStopsK Fence.wide n Tryz.prog 67 #[.pointer (some ⟨Bm, 0, none⟩)] (fun x : P3 × V => #[.agg #[.int .i64 x.1.1, .int .i64 x.1.2.1, .int .i64 x.1.2.2], ev x.2]) KpO (InOrd z m) (fun _ => True) nn w := fun l J Jx W hW hJ _ hY h0 =>
  inord_in n hn l Bm b nn ev m z hz J Jx hY W hJ hnn ((hW.block Bm (Array.getElem?_eq_some_iff.1 hm).1).trans hm) (hown.kp (KpO.of_bel hW).1) h0

theorem inorder_any (mb : Nat) (w : World) : Calls Tryz.prog 57 #[.map (some mb)] w fun e w' => e = .returned (.func (.func 67) #[] #[.pointer (some ⟨w.heap.size, 0, none⟩)]) ∧ w' = w.alloc (.cells #[.map (some mb)] 74) := by
  go_enter Tryz.func57, Tryz.ntmps57
  go_wp2
  go_ret
  exact ⟨rfl, rfl⟩
end Go.Proofs.YtikidpcgnmffcaaGreat
namespace Go.Proofs.YtikidpcgnmffcaaGreat
open Go.ChangeShapes Go.WideShapes Go.ChangeAt Go.RowKit
set_option linter.unusedVariables false

theorem hd_7_7 {b0 b1 o0x0 o0x1 o0x2 o0x3 o0x4 o0x5 o0x6 o1x0 o1x1 o1x2 o1x3 o1x4 o1x5 o1x6 : Nat} {v0x0 v0x1 v0x2 v0x3 v0x4 v0x5 v0x6 v1x0 v1x1 v1x2 v1x3 v1x4 v1x5 v1x6 : Value} {W W' : World} (h : ((W.cell? ⟨b0, o0x0, none⟩ = some (v0x0) ∧ W.cell? ⟨b0, o0x1, none⟩ = some (v0x1) ∧ W.cell? ⟨b0, o0x2, none⟩ = some (v0x2) ∧ W.cell? ⟨b0, o0x3, none⟩ = some (v0x3) ∧ W.cell? ⟨b0, o0x4, none⟩ = some (v0x4) ∧ W.cell? ⟨b0, o0x5, none⟩ = some (v0x5) ∧ W.cell? ⟨b0, o0x6, none⟩ = some (v0x6) ∧ W.cell? ⟨b1, o1x0, none⟩ = some (v1x0) ∧ W.cell? ⟨b1, o1x1, none⟩ = some (v1x1) ∧ W.cell? ⟨b1, o1x2, none⟩ = some (v1x2) ∧ W.cell? ⟨b1, o1x3, none⟩ = some (v1x3) ∧ W.cell? ⟨b1, o1x4, none⟩ = some (v1x4) ∧ W.cell? ⟨b1, o1x5, none⟩ = some (v1x5) ∧ W.cell? ⟨b1, o1x6, none⟩ = some (v1x6)) ∧ b0 < W.heap.size ∧ b1 < W.heap.size)) (hb : Below W.heap.size W W') : ((W'.cell? ⟨b0, o0x0, none⟩ = some (v0x0) ∧ W'.cell? ⟨b0, o0x1, none⟩ = some (v0x1) ∧ W'.cell? ⟨b0, o0x2, none⟩ = some (v0x2) ∧ W'.cell? ⟨b0, o0x3, none⟩ = some (v0x3) ∧ W'.cell? ⟨b0, o0x4, none⟩ = some (v0x4) ∧ W'.cell? ⟨b0, o0x5, none⟩ = some (v0x5) ∧ W'.cell? ⟨b0, o0x6, none⟩ = some (v0x6) ∧ W'.cell? ⟨b1, o1x0, none⟩ = some (v1x0) ∧ W'.cell? ⟨b1, o1x1, none⟩ = some (v1x1) ∧ W'.cell? ⟨b1, o1x2, none⟩ = some (v1x2) ∧ W'.cell? ⟨b1, o1x3, none⟩ = some (v1x3) ∧ W'.cell? ⟨b1, o1x4, none⟩ = some (v1x4) ∧ W'.cell? ⟨b1, o1x5, none⟩ = some (v1x5) ∧ W'.cell? ⟨b1, o1x6, none⟩ = some (v1x6)) ∧ b0 < W'.heap.size ∧ b1 < W'.heap.size) := by
  obtain ⟨⟨h0, h1, h2, h3, h4, h5, h6, h7, h8, h9, h10, h11, h12, h13⟩, s0, s1⟩ := h
  refine ⟨⟨?_, ?_, ?_, ?_, ?_, ?_, ?_, ?_, ?_, ?_, ?_, ?_, ?_, ?_⟩, Nat.lt_of_lt_of_le s0 hb.size, Nat.lt_of_lt_of_le s1 hb.size⟩
  · rw [hb.cell s0]; exact h0
  · rw [hb.cell s0]; exact h1
  · rw [hb.cell s0]; exact h2
  · rw [hb.cell s0]; exact h3
  · rw [hb.cell s0]; exact h4
  · rw [hb.cell s0]; exact h5
  · rw [hb.cell s0]; exact h6
  · rw [hb.cell s1]; exact h7
  · rw [hb.cell s1]; exact h8
  · rw [hb.cell s1]; exact h9
  · rw [hb.cell s1]; exact h10
  · rw [hb.cell s1]; exact h11
  · rw [hb.cell s1]; exact h12
  · rw [hb.cell s1]; exact h13

theorem hd_7_7_set {b0 b1 o0x0 o0x1 o0x2 o0x3 o0x4 o0x5 o0x6 o1x0 o1x1 o1x2 o1x3 o1x4 o1x5 o1x6 : Nat} {v0x0 v0x1 v0x2 v0x3 v0x4 v0x5 v0x6 v1x0 v1x1 v1x2 v1x3 v1x4 v1x5 v1x6 : Value} {W : World} {p : Addr} (h : ((W.cell? ⟨b0, o0x0, none⟩ = some (v0x0) ∧ W.cell? ⟨b0, o0x1, none⟩ = some (v0x1) ∧ W.cell? ⟨b0, o0x2, none⟩ = some (v0x2) ∧ W.cell? ⟨b0, o0x3, none⟩ = some (v0x3) ∧ W.cell? ⟨b0, o0x4, none⟩ = some (v0x4) ∧ W.cell? ⟨b0, o0x5, none⟩ = some (v0x5) ∧ W.cell? ⟨b0, o0x6, none⟩ = some (v0x6) ∧ W.cell? ⟨b1, o1x0, none⟩ = some (v1x0) ∧ W.cell? ⟨b1, o1x1, none⟩ = some (v1x1) ∧ W.cell? ⟨b1, o1x2, none⟩ = some (v1x2) ∧ W.cell? ⟨b1, o1x3, none⟩ = some (v1x3) ∧ W.cell? ⟨b1, o1x4, none⟩ = some (v1x4) ∧ W.cell? ⟨b1, o1x5, none⟩ = some (v1x5) ∧ W.cell? ⟨b1, o1x6, none⟩ = some (v1x6)) ∧ b0 < W.heap.size ∧ b1 < W.heap.size)) (p0 : p.block ≠ b0) (p1 : p.block ≠ b1) (u : Value) : (((W.setCell p u).cell? ⟨b0, o0x0, none⟩ = some (v0x0) ∧ (W.setCell p u).cell? ⟨b0, o0x1, none⟩ = some (v0x1) ∧ (W.setCell p u).cell? ⟨b0, o0x2, none⟩ = some (v0x2) ∧ (W.setCell p u).cell? ⟨b0, o0x3, none⟩ = some (v0x3) ∧ (W.setCell p u).cell? ⟨b0, o0x4, none⟩ = some (v0x4) ∧ (W.setCell p u).cell? ⟨b0, o0x5, none⟩ = some (v0x5) ∧ (W.setCell p u).cell? ⟨b0, o0x6, none⟩ = some (v0x6) ∧ (W.setCell p u).cell? ⟨b1, o1x0, none⟩ = some (v1x0) ∧ (W.setCell p u).cell? ⟨b1, o1x1, none⟩ = some (v1x1) ∧ (W.setCell p u).cell? ⟨b1, o1x2, none⟩ = some (v1x2) ∧ (W.setCell p u).cell? ⟨b1, o1x3, none⟩ = some (v1x3) ∧ (W.setCell p u).cell? ⟨b1, o1x4, none⟩ = some (v1x4) ∧ (W.setCell p u).cell? ⟨b1, o1x5, none⟩ = some (v1x5) ∧ (W.setCell p u).cell? ⟨b1, o1x6, none⟩ = some (v1x6)) ∧ b0 < (W.setCell p u).heap.size ∧ b1 < (W.setCell p u).heap.size) := by
  obtain ⟨⟨h0, h1, h2, h3, h4, h5, h6, h7, h8, h9, h10, h11, h12, h13⟩, s0, s1⟩ := h
  have hb : W.heap.size ≤ (W.setCell p u).heap.size := by simp [World.setCell]
  refine ⟨⟨?_, ?_, ?_, ?_, ?_, ?_, ?_, ?_, ?_, ?_, ?_, ?_, ?_, ?_⟩, Nat.lt_of_lt_of_le s0 hb, Nat.lt_of_lt_of_le s1 hb⟩
  · rw [cell_set_ne p0]; exact h0
  · rw [cell_set_ne p0]; exact h1
  · rw [cell_set_ne p0]; exact h2
  · rw [cell_set_ne p0]; exact h3
  · rw [cell_set_ne p0]; exact h4
  · rw [cell_set_ne p0]; exact h5
  · rw [cell_set_ne p0]; exact h6
  · rw [cell_set_ne p1]; exact h7
  · rw [cell_set_ne p1]; exact h8
  · rw [cell_set_ne p1]; exact h9
  · rw [cell_set_ne p1]; exact h10
  · rw [cell_set_ne p1]; exact h11
  · rw [cell_set_ne p1]; exact h12
  · rw [cell_set_ne p1]; exact h13

theorem hd_7_7_re {b0 b1 o0x0 o0x1 o0x2 o0x3 o0x4 o0x5 o0x6 o1x0 o1x1 o1x2 o1x3 o1x4 o1x5 o1x6 : Nat} {v0x0 v0x1 v0x2 v0x3 v0x4 v0x5 v0x6 v1x0 v1x1 v1x2 v1x3 v1x4 v1x5 v1x6 : Value} {W : World} {o o' : Obj} (h : (((W.alloc o).cell? ⟨b0, o0x0, none⟩ = some (v0x0) ∧ (W.alloc o).cell? ⟨b0, o0x1, none⟩ = some (v0x1) ∧ (W.alloc o).cell? ⟨b0, o0x2, none⟩ = some (v0x2) ∧ (W.alloc o).cell? ⟨b0, o0x3, none⟩ = some (v0x3) ∧ (W.alloc o).cell? ⟨b0, o0x4, none⟩ = some (v0x4) ∧ (W.alloc o).cell? ⟨b0, o0x5, none⟩ = some (v0x5) ∧ (W.alloc o).cell? ⟨b0, o0x6, none⟩ = some (v0x6) ∧ (W.alloc o).cell? ⟨b1, o1x0, none⟩ = some (v1x0) ∧ (W.alloc o).cell? ⟨b1, o1x1, none⟩ = some (v1x1) ∧ (W.alloc o).cell? ⟨b1, o1x2, none⟩ = some (v1x2) ∧ (W.alloc o).cell? ⟨b1, o1x3, none⟩ = some (v1x3) ∧ (W.alloc o).cell? ⟨b1, o1x4, none⟩ = some (v1x4) ∧ (W.alloc o).cell? ⟨b1, o1x5, none⟩ = some (v1x5) ∧ (W.alloc o).cell? ⟨b1, o1x6, none⟩ = some (v1x6)) ∧ b0 < (W.alloc o).heap.size ∧ b1 < (W.alloc o).heap.size)) (p0 : b0 < W.heap.size) (p1 : b1 < W.heap.size) : (((W.alloc o').cell? ⟨b0, o0x0, none⟩ = some (v0x0) ∧ (W.alloc o').cell? ⟨b0, o0x1, none⟩ = some (v0x1) ∧ (W.alloc o').cell? ⟨b0, o0x2, none⟩ = some (v0x2) ∧ (W.alloc o').cell? ⟨b0, o0x3, none⟩ = some (v0x3) ∧ (W.alloc o').cell? ⟨b0, o0x4, none⟩ = some (v0x4) ∧ (W.alloc o').cell? ⟨b0, o0x5, none⟩ = some (v0x5) ∧ (W.alloc o').cell? ⟨b0, o0x6, none⟩ = some (v0x6) ∧ (W.alloc o').cell? ⟨b1, o1x0, none⟩ = some (v1x0) ∧ (W.alloc o').cell? ⟨b1, o1x1, none⟩ = some (v1x1) ∧ (W.alloc o').cell? ⟨b1, o1x2, none⟩ = some (v1x2) ∧ (W.alloc o').cell? ⟨b1, o1x3, none⟩ = some (v1x3) ∧ (W.alloc o').cell? ⟨b1, o1x4, none⟩ = some (v1x4) ∧ (W.alloc o').cell? ⟨b1, o1x5, none⟩ = some (v1x5) ∧ (W.alloc o').cell? ⟨b1, o1x6, none⟩ = some (v1x6)) ∧ b0 < (W.alloc o').heap.size ∧ b1 < (W.alloc o').heap.size) := by
  obtain ⟨⟨h0, h1, h2, h3, h4, h5, h6, h7, h8, h9, h10, h11, h12, h13⟩, s0, s1⟩ := h
  have hb : Below W.heap.size (W.alloc o) (W.alloc o') := bel_re W o o'
  refine ⟨⟨?_, ?_, ?_, ?_, ?_, ?_, ?_, ?_, ?_, ?_, ?_, ?_, ?_, ?_⟩, Nat.lt_of_lt_of_le s0 hb.size, Nat.lt_of_lt_of_le s1 hb.size⟩
  · rw [hb.cell p0]; exact h0
  · rw [hb.cell p0]; exact h1
  · rw [hb.cell p0]; exact h2
  · rw [hb.cell p0]; exact h3
  · rw [hb.cell p0]; exact h4
  · rw [hb.cell p0]; exact h5
  · rw [hb.cell p0]; exact h6
  · rw [hb.cell p1]; exact h7
  · rw [hb.cell p1]; exact h8
  · rw [hb.cell p1]; exact h9
  · rw [hb.cell p1]; exact h10
  · rw [hb.cell p1]; exact h11
  · rw [hb.cell p1]; exact h12
  · rw [hb.cell p1]; exact h13
end Go.Proofs.YtikidpcgnmffcaaGreat
namespace Go.Proofs.YtikidpcgnmffcaaGreat
open Go.ChangeShapes Go.WideShapes Go.ChangeAt Go.RowKit
set_option linter.unusedVariables false

theorem eqWinT (a b : Int) (w : World) : Calls Tryz.prog 39 #[.agg #[.int .i64 a, .int .i64 b], .agg #[.int .i64 a, .int .i64 b]] w fun e w' => e = .returned (.bool true) ∧ Below w.heap.size w w' := by
  go_enter Tryz.func39, Tryz.ntmps39
  go_wp2
  go_ret
  exact ⟨rfl, (belB)⟩

theorem eqAggT (n s l m : Int) (w : World) : Calls Tryz.prog 40 #[.agg #[.int .i64 n, .int .i64 s, .int .i64 l, .int .i64 m], .agg #[.int .i64 n, .int .i64 s, .int .i64 l, .int .i64 m]] w fun e w' => e = .returned (.bool true) ∧ Below w.heap.size w w' := by
  go_enter Tryz.func40, Tryz.ntmps40
  go_wp2
  go_ret
  exact ⟨rfl, (belB)⟩
end Go.Proofs.YtikidpcgnmffcaaGreat
namespace Go.Proofs.YtikidpcgnmffcaaGreat
open Go.ChangeShapes Go.WideShapes Go.ChangeAt Go.RowKit
set_option linter.unusedVariables false

/-- A row of 7 numbers. -/
structure TbR where
  ky : Int
  st : Int
  en : Int
  n : Int
  su : Int
  le : Int
  mo : Int

/-- A row lies in its cells; rows lie one behind the other; a slice's value holds rows. -/
def TbRAt (W : World) (g o : Nat) (x : TbR) : Prop := W.cell? ⟨g, o, none⟩ = some (.int .i64 x.ky) ∧ W.cell? ⟨g, o + 1, none⟩ = some (.int .i64 x.st) ∧ W.cell? ⟨g, o + 2, none⟩ = some (.int .i64 x.en) ∧ W.cell? ⟨g, o + 3, none⟩ = some (.int .i64 x.n) ∧ W.cell? ⟨g, o + 4, none⟩ = some (.int .i64 x.su) ∧ W.cell? ⟨g, o + 5, none⟩ = some (.int .i64 x.le) ∧ W.cell? ⟨g, o + 6, none⟩ = some (.int .i64 x.mo)

def TbRsAt (W : World) (g o : Nat) (xs : List TbR) : Prop := ∀ i x, xs[i]? = some x → TbRAt W g (o + i * 7) x

def TbRs (W : World) (a : Option Addr) (len : Nat) (xs : List TbR) : Prop := xs.length = len ∧ len ≤ maxLen ∧ (len = 0 ∨ ∃ g o, a = some ⟨g, o, none⟩ ∧ TbRsAt W g o xs)

theorem TbRAt.lt {W : World} {g o : Nat} {x : TbR} (h : TbRAt W g o x) : g < W.heap.size := by
  obtain ⟨h0, _⟩ := h
  rcases Nat.lt_or_ge g W.heap.size with hl | hg
  · exact hl
  · simp [World.cell?, Array.getElem?_eq_none hg] at h0

theorem TbRsAt.lt {W : World} {g o : Nat} {xs : List TbR} (h : TbRsAt W g o xs) (hp : 0 < xs.length) : g < W.heap.size := (h 0 xs[0] (List.getElem?_eq_getElem hp)).lt

theorem TbRAt.below {W W' : World} {B g o : Nat} {x : TbR} (h : TbRAt W g o x) (hb : Below B W W') (hg : g < B) : TbRAt W' g o x := by
  obtain ⟨h0, h1, h2, h3, h4, h5, h6⟩ := h
  exact ⟨(hb.cell (p := ⟨g, _, none⟩) hg).trans h0, (hb.cell (p := ⟨g, _, none⟩) hg).trans h1, (hb.cell (p := ⟨g, _, none⟩) hg).trans h2, (hb.cell (p := ⟨g, _, none⟩) hg).trans h3, (hb.cell (p := ⟨g, _, none⟩) hg).trans h4, (hb.cell (p := ⟨g, _, none⟩) hg).trans h5, (hb.cell (p := ⟨g, _, none⟩) hg).trans h6⟩

theorem TbRsAt.below {W W' : World} {B g o : Nat} {xs : List TbR} (h : TbRsAt W g o xs) (hb : Below B W W') (hg : 0 < xs.length → g < B) : TbRsAt W' g o xs := by
  intro i x hx
  have hlt : i < xs.length := (List.getElem?_eq_some_iff.1 hx).1
  exact (h i x hx).below hb (hg (by omega))

theorem TbRs.below {W W' : World} {a : Option Addr} {len : Nat} {xs : List TbR} (h : TbRs W a len xs) (hb : Below W.heap.size W W') : TbRs W' a len xs := by
  obtain ⟨h1, h2, h3⟩ := h
  refine ⟨h1, h2, ?_⟩
  rcases h3 with h3 | ⟨g, o, ha, hr⟩
  · exact Or.inl h3
  · exact Or.inr ⟨g, o, ha, hr.below hb (fun hp => hr.lt hp)⟩

theorem TbRAt.grown {W W' : World} {row : Option Nat} {g o : Nat} {x : TbR} (h : TbRAt W g o x) (hg : W.grownBy W' row) (hne : some g ≠ row) : TbRAt W' g o x := by
  have hbk := hg.block g h.lt hne
  obtain ⟨h0, h1, h2, h3, h4, h5, h6⟩ := h
  exact ⟨(World.cell?_of_block (w := W) hbk).trans h0, (World.cell?_of_block (w := W) hbk).trans h1, (World.cell?_of_block (w := W) hbk).trans h2, (World.cell?_of_block (w := W) hbk).trans h3, (World.cell?_of_block (w := W) hbk).trans h4, (World.cell?_of_block (w := W) hbk).trans h5, (World.cell?_of_block (w := W) hbk).trans h6⟩

theorem TbRs.grown {W W' : World} {row : Option Nat} {a : Option Addr} {n : Nat} {xs : List TbR} (h : TbRs W a n xs) (hg : W.grownBy W' row) (hne : ∀ g o, 0 < n → a = some ⟨g, o, none⟩ → some g ≠ row) : TbRs W' a n xs := by
  obtain ⟨h1, h2, h3⟩ := h
  refine ⟨h1, h2, ?_⟩
  rcases h3 with h3 | ⟨g, o, ha, hr⟩
  · exact Or.inl h3
  · refine Or.inr ⟨g, o, ha, fun i x hx => (hr i x hx).grown hg (hne g o ?_ ha)⟩
    have hlt : i < xs.length := (List.getElem?_eq_some_iff.1 hx).1
    omega

theorem TbRs.lt {W : World} {g o n : Nat} {xs : List TbR} (h : TbRs W (some ⟨g, o, none⟩) n xs) (hp : 0 < n) : g < W.heap.size := by
  obtain ⟨h1, h2, h3⟩ := h
  obtain ⟨g', o', ha, hr⟩ := h3.resolve_left (by omega)
  simp at ha
  have := hr.lt (by omega)
  omega

/-- A row is stored; a block of rows, known whole. -/
def setTb (W : World) (g o : Nat) (x : TbR) : World := (((((((W.setCell ⟨g, o, none⟩ (.int .i64 x.ky)).setCell ⟨g, o + 1, none⟩ (.int .i64 x.st)).setCell ⟨g, o + 2, none⟩ (.int .i64 x.en)).setCell ⟨g, o + 3, none⟩ (.int .i64 x.n)).setCell ⟨g, o + 4, none⟩ (.int .i64 x.su)).setCell ⟨g, o + 5, none⟩ (.int .i64 x.le)).setCell ⟨g, o + 6, none⟩ (.int .i64 x.mo))

def BlkTb (W : World) (g ty len : Nat) : Prop := ∃ cur, W.heap[g]? = some (.cells cur ty (0, 0)) ∧ cur.size = len * 7

theorem BlkTb.set {W : World} {g ty len i : Nat} (h : BlkTb W g ty len) (v : Value) : BlkTb (W.setCell ⟨g, i, none⟩ v) g ty len := by
  obtain ⟨cur, h1, h2⟩ := h
  exact ⟨_, Joins.block_setCell h1 v, by simp [h2]⟩

theorem BlkTb.below {W W' : World} {g ty len B : Nat} (h : BlkTb W g ty len) (hb : Below B W W') (hg : g < B) : BlkTb W' g ty len := by
  obtain ⟨cur, h1, h2⟩ := h
  exact ⟨cur, (hb.block g hg).trans h1, h2⟩

theorem BlkTb.lt {W : World} {g ty len : Nat} (h : BlkTb W g ty len) : g < W.heap.size := by
  obtain ⟨cur, h1, h2⟩ := h
  exact (Array.getElem?_eq_some_iff.1 h1).1

theorem BlkTb.cell {W : World} {g ty len i : Nat} (h : BlkTb W g ty len) (hi : i < len * 7) : ∃ u, W.cell? ⟨g, i, none⟩ = some u := by
  obtain ⟨cur, h1, h2⟩ := h
  exact ⟨_, (Joins.cell_of_block h1 i).trans (Array.getElem?_eq_getElem (by omega))⟩

theorem BlkTb.frozen {W : World} {g ty len i : Nat} (h : BlkTb W g ty len) : W.frozen? ⟨g, i, none⟩ = false := by
  obtain ⟨cur, h1, h2⟩ := h
  exact Joins.unfrozen_of_block h1 i

theorem BlkTb.cells {W : World} {g ty len k : Nat} (h : BlkTb W g ty len) (hk : k < len) : (∃ u, W.cell? ⟨g, k * 7, none⟩ = some u) ∧ (∃ u, W.cell? ⟨g, k * 7 + 1, none⟩ = some u) ∧ (∃ u, W.cell? ⟨g, k * 7 + 2, none⟩ = some u) ∧ (∃ u, W.cell? ⟨g, k * 7 + 3, none⟩ = some u) ∧ (∃ u, W.cell? ⟨g, k * 7 + 4, none⟩ = some u) ∧ (∃ u, W.cell? ⟨g, k * 7 + 5, none⟩ = some u) ∧ (∃ u, W.cell? ⟨g, k * 7 + 6, none⟩ = some u) := ⟨h.cell (by omega), h.cell (by omega), h.cell (by omega), h.cell (by omega), h.cell (by omega), h.cell (by omega), h.cell (by omega)⟩

theorem BlkTb.sets {W : World} {g ty len o : Nat} (h : BlkTb W g ty len) (x : TbR) : BlkTb (setTb W g o x) g ty len := (((((((h.set _).set _).set _).set _).set _).set _).set _)

theorem Tb_other {W : World} {g i j : Nat} {v : Value} (h : i ≠ j) : (W.setCell ⟨g, i, none⟩ v).cell? ⟨g, j, none⟩ = W.cell? ⟨g, j, none⟩ := World.cell?_setCell_other _ _ _ _ (by intro e; injection e with e1 e2; exact h e2)

theorem Tb_this {W : World} {g ty len i : Nat} {v : Value} (h : BlkTb W g ty len) (hi : i < len * 7) : (W.setCell ⟨g, i, none⟩ v).cell? ⟨g, i, none⟩ = some v := by
  obtain ⟨u, hu⟩ := h.cell hi
  exact World.cell?_setCell_same _ _ _ hu

theorem setTb_this {W : World} {g ty len k : Nat} (h : BlkTb W g ty len) (hk : k < len) (x : TbR) : TbRAt (setTb W g (k * 7) x) g (k * 7) x := by
  unfold setTb
  refine ⟨?_, ?_, ?_, ?_, ?_, ?_, ?_⟩
  · rw [Tb_other (by omega), Tb_other (by omega), Tb_other (by omega), Tb_other (by omega), Tb_other (by omega), Tb_other (by omega), Tb_this h (by omega)]
  · rw [Tb_other (by omega), Tb_other (by omega), Tb_other (by omega), Tb_other (by omega), Tb_other (by omega), Tb_this (h.set _) (by omega)]
  · rw [Tb_other (by omega), Tb_other (by omega), Tb_other (by omega), Tb_other (by omega), Tb_this ((h.set _).set _) (by omega)]
  · rw [Tb_other (by omega), Tb_other (by omega), Tb_other (by omega), Tb_this (((h.set _).set _).set _) (by omega)]
  · rw [Tb_other (by omega), Tb_other (by omega), Tb_this ((((h.set _).set _).set _).set _) (by omega)]
  · rw [Tb_other (by omega), Tb_this (((((h.set _).set _).set _).set _).set _) (by omega)]
  · rw [Tb_this ((((((h.set _).set _).set _).set _).set _).set _) (by omega)]

theorem setTb_ne {W : World} {g i k : Nat} {x y : TbR} (h : TbRAt W g (i * 7) y) (hk : i ≠ k) : TbRAt (setTb W g (k * 7) x) g (i * 7) y := by
  unfold setTb
  obtain ⟨h0, h1, h2, h3, h4, h5, h6⟩ := h
  refine ⟨?_, ?_, ?_, ?_, ?_, ?_, ?_⟩
  · rw [Tb_other (by omega), Tb_other (by omega), Tb_other (by omega), Tb_other (by omega), Tb_other (by omega), Tb_other (by omega), Tb_other (by omega)]; exact h0
  · rw [Tb_other (by omega), Tb_other (by omega), Tb_other (by omega), Tb_other (by omega), Tb_other (by omega), Tb_other (by omega), Tb_other (by omega)]; exact h1
  · rw [Tb_other (by omega), Tb_other (by omega), Tb_other (by omega), Tb_other (by omega), Tb_other (by omega), Tb_other (by omega), Tb_other (by omega)]; exact h2
  · rw [Tb_other (by omega), Tb_other (by omega), Tb_other (by omega), Tb_other (by omega), Tb_other (by omega), Tb_other (by omega), Tb_other (by omega)]; exact h3
  · rw [Tb_other (by omega), Tb_other (by omega), Tb_other (by omega), Tb_other (by omega), Tb_other (by omega), Tb_other (by omega), Tb_other (by omega)]; exact h4
  · rw [Tb_other (by omega), Tb_other (by omega), Tb_other (by omega), Tb_other (by omega), Tb_other (by omega), Tb_other (by omega), Tb_other (by omega)]; exact h5
  · rw [Tb_other (by omega), Tb_other (by omega), Tb_other (by omega), Tb_other (by omega), Tb_other (by omega), Tb_other (by omega), Tb_other (by omega)]; exact h6

theorem grown_setTb {W W' : World} {g o : Nat} {x : TbR} (h : W.grownBy W' (some g)) : W.grownBy (setTb W' g o x) (some g) := by
  have hs : ∀ (X : World) (i : Nat) (v : Value), W.grownBy X (some g) → W.grownBy (X.setCell ⟨g, i, none⟩ v) (some g) := by
    intro X i v hX
    exact ⟨hX.os, hX.tape, hX.output, by simp [World.setCell]; exact hX.size, fun k hk hne => (Below.heap_setCell X _ v k (fun e => hne (by rw [e]))).trans (hX.block k hk hne)⟩
  exact hs _ _ _ (hs _ _ _ (hs _ _ _ (hs _ _ _ (hs _ _ _ (hs _ _ _ (hs _ _ _ (h)))))))

/-- The cells of rows; a slice of the call's own that holds rows. -/
def TbR.cells (x : TbR) : List Value := [.int .i64 x.ky, .int .i64 x.st, .int .i64 x.en, .int .i64 x.n, .int .i64 x.su, .int .i64 x.le, .int .i64 x.mo]

def flatTb (xs : List TbR) : List Value := xs.flatMap TbR.cells

theorem flatTb_snoc (xs : List TbR) (x : TbR) : flatTb (xs ++ [x]) = flatTb xs ++ x.cells := by simp [flatTb]

theorem flatTb_len (xs : List TbR) : (flatTb xs).length = xs.length * 7 := by
  induction xs with
  | nil => rfl
  | cons x r ih => show (x.cells ++ flatTb r).length = _; rw [List.length_append, ih]; simp [TbR.cells]; omega

theorem flatTb_get {xs : List TbR} {i : Nat} {x : TbR} (h : xs[i]? = some x) : (flatTb xs)[i * 7]? = some (.int .i64 x.ky) ∧ (flatTb xs)[i * 7 + 1]? = some (.int .i64 x.st) ∧ (flatTb xs)[i * 7 + 2]? = some (.int .i64 x.en) ∧ (flatTb xs)[i * 7 + 3]? = some (.int .i64 x.n) ∧ (flatTb xs)[i * 7 + 4]? = some (.int .i64 x.su) ∧ (flatTb xs)[i * 7 + 5]? = some (.int .i64 x.le) ∧ (flatTb xs)[i * 7 + 6]? = some (.int .i64 x.mo) := by
  induction xs generalizing i with
  | nil => simp at h
  | cons y r ih =>
    have hf : flatTb (y :: r) = y.cells ++ flatTb r := rfl
    cases i with
    | zero =>
      simp at h
      subst h
      rw [hf]
      exact ⟨rfl, rfl, rfl, rfl, rfl, rfl, rfl⟩
    | succ i =>
      simp at h
      obtain ⟨h0, h1, h2, h3, h4, h5, h6⟩ := ih h
      have hl : y.cells.length = 7 := rfl
      rw [hf]
      refine ⟨?_, ?_, ?_, ?_, ?_, ?_, ?_⟩
      · rw [List.getElem?_append_right (by omega), hl, show (i + 1) * 7 - 7 = i * 7 by omega]; exact h0
      · rw [List.getElem?_append_right (by omega), hl, show (i + 1) * 7 + 1 - 7 = i * 7 + 1 by omega]; exact h1
      · rw [List.getElem?_append_right (by omega), hl, show (i + 1) * 7 + 2 - 7 = i * 7 + 2 by omega]; exact h2
      · rw [List.getElem?_append_right (by omega), hl, show (i + 1) * 7 + 3 - 7 = i * 7 + 3 by omega]; exact h3
      · rw [List.getElem?_append_right (by omega), hl, show (i + 1) * 7 + 4 - 7 = i * 7 + 4 by omega]; exact h4
      · rw [List.getElem?_append_right (by omega), hl, show (i + 1) * 7 + 5 - 7 = i * 7 + 5 by omega]; exact h5
      · rw [List.getElem?_append_right (by omega), hl, show (i + 1) * 7 + 6 - 7 = i * 7 + 6 by omega]; exact h6

def OwnTb (W : World) (B : Nat) (v : Value) (ys : List TbR) : Prop := W.ownsRow B 53 7 v ys.length (flatTb ys)

theorem ownTb_ge {W : World} {B : Nat} {v : Value} {ys : List TbR} (h : OwnTb W B v ys) : ∀ k, v.ownBlock = some k → B ≤ k := by
  intro k hk
  rcases h.2 with ⟨rfl, _⟩ | ⟨g, cap, cur, rfl, hg, _⟩
  · cases hk
  · simp [Value.ownBlock] at hk; omega

theorem ownTb_snoc {w1 : World} {B : Nat} {v' : Value} {ys : List TbR} {x : TbR} (ho : w1.ownsRow B 53 7 v' (ys.length + 1) (flatTb ys ++ x.cells)) : OwnTb w1 B v' (ys ++ [x]) := by
  unfold OwnTb
  rw [flatTb_snoc]
  simpa using ho

theorem cells_newTb (w : World) (ky st en n su le mo : Int) (ty : Nat) : ∀ j u, ([.int .i64 ky, .int .i64 st, .int .i64 en, .int .i64 n, .int .i64 su, .int .i64 le, .int .i64 mo] : List Value)[j]? = some u → (w.alloc (.cells #[.int .i64 ky, .int .i64 st, .int .i64 en, .int .i64 n, .int .i64 su, .int .i64 le, .int .i64 mo] ty)).cell? ((⟨w.heap.size, 0, none⟩ : Addr).add j) = some u := by
  intro j u hj
  have e : ((⟨w.heap.size, 0, none⟩ : Addr).add j) = ⟨w.heap.size, j, none⟩ := by
    unfold Addr.add
    split
    · rename_i h0; rw [h0]
    · simp
  rw [e]
  simpa [go_sem] using hj

theorem cells_atTb (w : World) (ky st en n su le mo : Int) (ty : Nat) {g : Nat} (hg : g = w.heap.size) : ∀ j u, ([.int .i64 ky, .int .i64 st, .int .i64 en, .int .i64 n, .int .i64 su, .int .i64 le, .int .i64 mo] : List Value)[j]? = some u → (w.alloc (.cells #[.int .i64 ky, .int .i64 st, .int .i64 en, .int .i64 n, .int .i64 su, .int .i64 le, .int .i64 mo] ty)).cell? ((⟨g, 0, none⟩ : Addr).add j) = some u := by
  subst hg
  exact cells_newTb w ky st en n su le mo ty

/-- The block of a slice's rows, if there are any; what may be written; what has been marked. -/
def rowTb (a : Option Addr) (n : Nat) : Option Nat := if n = 0 then none else a.map (·.block)

theorem rowTb_zero (a : Option Addr) : rowTb a 0 = none := rfl

theorem rowTb_pos {n : Nat} (h : n ≠ 0) (g o : Nat) : rowTb (some ⟨g, o, none⟩) n = some g := by unfold rowTb; rw [if_neg h]; rfl

def markTb (i : Nat) : TbR := ⟨1 + 7 * (i : Int), 1 + 7 * (i : Int) + 1, 1 + 7 * (i : Int) + 1 + 1, 1 + 7 * (i : Int) + 1 + 1 + 1, 1 + 7 * (i : Int) + 1 + 1 + 1 + 1, 1 + 7 * (i : Int) + 1 + 1 + 1 + 1 + 1, 1 + 7 * (i : Int) + 1 + 1 + 1 + 1 + 1 + 1⟩

def WrTb (W : World) (a : Option Addr) (n cap : Nat) : Prop := n = 0 ∨ ∃ g, a = some ⟨g, 0, none⟩ ∧ BlkTb W g 53 cap ∧ n ≤ cap

def MarkedTb (W : World) (a : Option Addr) (n : Nat) : Prop := n = 0 ∨ ∃ g, a = some ⟨g, 0, none⟩ ∧ ∀ i, i < n → TbRAt W g (i * 7) (markTb i)

theorem grown0Tb {W W' : World} (h : Below W.heap.size W W') : W.grownBy W' none := ⟨h.os, h.tape, h.output, h.size, fun k hk _ => h.block k hk⟩

theorem growTb {w W W' : World} {row : Option Nat} (h : Below w.heap.size w W) (hg : W.grownBy W' row) (hr : ∀ k, row = some k → w.heap.size ≤ k) : Below w.heap.size w W' := h.grown hg h.size hr

theorem MarkedTb.below {W W' : World} {a : Option Addr} {n : Nat} (h : MarkedTb W a n) (hb : Below W.heap.size W W') : MarkedTb W' a n := by
  rcases h with h | ⟨g, ha, hM⟩
  · exact Or.inl h
  · exact Or.inr ⟨g, ha, fun i hi => (hM i hi).below hb (hM i hi).lt⟩

theorem holdTb {W : World} {B : Nat} {v : Value} {ys : List TbR} (h : OwnTb W B v ys) (hl : ys.length ≤ 1048576) :
    ∃ a cap, v = .slice a ys.length cap ∧ TbRs W a ys.length ys ∧ WrTb W a ys.length cap ∧ ∀ g o, 0 < ys.length → a = some ⟨g, o, none⟩ → B ≤ g := by
  have hm : ys.length ≤ maxLen := by unfold maxLen; omega
  obtain ⟨hlen, h | ⟨g, cap, cur, rfl, hB, hblk, hnc, hcm, hsz, htk⟩⟩ := h
  · obtain ⟨rfl, h0⟩ := h
    rw [h0]
    exact ⟨none, 0, rfl, ⟨h0, Nat.zero_le _, Or.inl rfl⟩, Or.inl rfl, fun _ _ hp => by omega⟩
  · refine ⟨_, cap, rfl, ⟨rfl, hm, Or.inr ⟨g, 0, rfl, ?_⟩⟩, Or.inr ⟨g, rfl, ⟨cur, hblk, hsz⟩, hnc⟩, fun g' o' _ e => by simp at e; omega⟩
    intro i x hx
    have hi : i < ys.length := (List.getElem?_eq_some_iff.1 hx).1
    have hcell : ∀ j u, j < ys.length * 7 → (flatTb ys)[j]? = some u → W.cell? ⟨g, j, none⟩ = some u := by
      intro j u hj hu
      rw [Joins.cell_of_block hblk j, ← Array.getElem?_toList]
      rw [← htk, List.getElem?_take_of_lt hj] at hu
      exact hu
    obtain ⟨f0, f1, f2, f3, f4, f5, f6⟩ := flatTb_get hx
    rw [Nat.zero_add]
    exact ⟨hcell _ _ (by omega) f0, hcell _ _ (by omega) f1, hcell _ _ (by omega) f2, hcell _ _ (by omega) f3, hcell _ _ (by omega) f4, hcell _ _ (by omega) f5, hcell _ _ (by omega) f6⟩

theorem WrTb.below {W W' : World} {a : Option Addr} {n cap : Nat} (h : WrTb W a n cap) (hb : Below W.heap.size W W') : WrTb W' a n cap := by
  rcases h with h | ⟨g, ha, hB, hc⟩
  · exact Or.inl h
  · exact Or.inr ⟨g, ha, hB.below hb hB.lt, hc⟩

theorem WrTb.grown {W W' : World} {row : Option Nat} {a : Option Addr} {n cap : Nat} (h : WrTb W a n cap) (hg : W.grownBy W' row) (hne : ∀ g o, 0 < n → a = some ⟨g, o, none⟩ → some g ≠ row) : WrTb W' a n cap := by
  rcases h with h | ⟨g, ha, hB, hc⟩
  · exact Or.inl h
  · by_cases h0 : n = 0
    · exact Or.inl h0
    · obtain ⟨cur, c1, c2⟩ := hB
      exact Or.inr ⟨g, ha, ⟨cur, (hg.block g (Array.getElem?_eq_some_iff.1 c1).1 (hne g 0 (by omega) ha)).trans c1, c2⟩, hc⟩

theorem WrTb.shape {W : World} {a : Option Addr} {n cap : Nat} (h : WrTb W a n cap) : n = 0 ∨ ∃ g', a = some ⟨g', 0, none⟩ := by
  rcases h with h | ⟨g, ha, _⟩
  · exact Or.inl h
  · exact Or.inr ⟨g, ha⟩

theorem rowTb_ne {a : Option Addr} {n g : Nat} (h : ∀ g' o', 0 < n → a = some ⟨g', o', none⟩ → g ≠ g') (hs : n = 0 ∨ ∃ g', a = some ⟨g', 0, none⟩) : some g ≠ rowTb a n := by
  rcases hs with rfl | ⟨g', rfl⟩
  · simp [rowTb_zero]
  · by_cases h0 : n = 0
    · subst h0; simp [rowTb_zero]
    · rw [rowTb_pos h0]
      have := h g' 0 (by omega) rfl
      simpa using this

theorem rowTb_ge {a : Option Addr} {n B : Nat} (h : ∀ g' o', 0 < n → a = some ⟨g', o', none⟩ → B ≤ g') (hs : n = 0 ∨ ∃ g', a = some ⟨g', 0, none⟩) : ∀ k, rowTb a n = some k → B ≤ k := by
  intro k hk
  rcases hs with rfl | ⟨g', rfl⟩
  · simp [rowTb_zero] at hk
  · by_cases h0 : n = 0
    · subst h0; simp [rowTb_zero] at hk
    · rw [rowTb_pos h0] at hk
      have := h g' 0 (by omega) rfl
      simp at hk
      omega

theorem markTb_step {w wr : World} {g ty cap j : Nat} (hB : BlkTb wr g ty cap) (hj : j < cap) (hM : ∀ i, i < j → TbRAt wr g (i * 7) (markTb i)) (hG : w.grownBy wr (some g)) :
    BlkTb (setTb wr g (j * 7) (markTb j)) g ty cap ∧ (∀ i, i < j + 1 → TbRAt (setTb wr g (j * 7) (markTb j)) g (i * 7) (markTb i)) ∧ w.grownBy (setTb wr g (j * 7) (markTb j)) (some g) := by
  refine ⟨hB.sets _, fun i hi => ?_, grown_setTb hG⟩
  by_cases he : i = j
  · subst he
    exact setTb_this hB hj (markTb i)
  · exact setTb_ne (hM i (by omega)) he

set_option maxHeartbeats 1000000 in
theorem eqTb_one (x : TbR) (w : World) : Calls Tryz.prog 23 #[.agg #[.int .i64 x.ky, .int .i64 x.st, .int .i64 x.en, .int .i64 x.n, .int .i64 x.su, .int .i64 x.le, .int .i64 x.mo], .agg #[.int .i64 x.ky, .int .i64 x.st, .int .i64 x.en, .int .i64 x.n, .int .i64 x.su, .int .i64 x.le, .int .i64 x.mo]] w fun e w' => e = .returned (.bool true) ∧ Below w.heap.size w w' := by
  go_enter Tryz.func23, Tryz.ntmps23
  go_wp2_with (first
    | (go_at_call 39; refine (eqWinT _ _ _).mono ?_; rintro e w' ⟨rfl, hb⟩; obtain ⟨hc, hf, hs⟩ := bcell hb; (try have hz0 : w.heap.size < w'.heap.size := (by have h9 := hb.size; (try simp at h9); omega)); (try have hz1 : w.heap.size + 1 < w'.heap.size := (by have h9 := hb.size; (try simp at h9); omega)))
    | (go_at_call 40; refine (eqAggT _ _ _ _ _).mono ?_; rintro e w' ⟨rfl, hb⟩; obtain ⟨hc, hf, hs⟩ := bcell hb; (try have hz0 : w.heap.size < w'.heap.size := (by have h9 := hb.size; (try simp at h9); omega)); (try have hz1 : w.heap.size + 1 < w'.heap.size := (by have h9 := hb.size; (try simp at h9); omega))))
  go_ret
  exact ⟨rfl, (belB)⟩

set_option maxRecDepth 20000 in
set_option maxHeartbeats 1000000 in
theorem eqTb_any (a1 a2 : Option Addr) (len cap1 cap2 : Nat) (xs : List TbR) (w : World) (h1 : TbRs w a1 len xs) (h2 : TbRs w a2 len xs) : Calls Tryz.prog 9 #[.slice a1 len cap1, .slice a2 len cap2] w fun e w' => e = .returned (.bool true) ∧ Below w.heap.size w w' := by
  have hm := h1.2.1
  unfold maxLen at hm
  go_enter Tryz.func9, Tryz.ntmps9
  go_wp2
  go_loopw [5] (fun i wr => ∃ k : Nat, k ≤ len ∧ i = .int .i64 k ∧ Below w.heap.size w wr) (fun i _ => len - (intOf i).toNat)
  case atStart => exact ⟨0, Nat.zero_le _, rfl, Below.refl _ _⟩
  case round =>
    obtain ⟨k, hk, rfl, hbw⟩ := hrel
    by_cases hlt : k < len
    · obtain ⟨hl1, _, hx1⟩ := h1
      obtain ⟨hl2, _, hx2⟩ := h2
      obtain ⟨g1, o1, rfl, hr1⟩ := hx1.resolve_left (by omega)
      obtain ⟨g2, o2, rfl, hr2⟩ := hx2.resolve_left (by omega)
      obtain ⟨x, hxk⟩ : ∃ x, xs[k]? = some x := ⟨_, List.getElem?_eq_getElem (by omega)⟩
      have hg1 : g1 < w.heap.size := hr1.lt (by omega)
      have hg2 : g2 < w.heap.size := hr2.lt (by omega)
      have hs1 : g1 < wr.heap.size := Nat.lt_of_lt_of_le hg1 hbw.size
      have hs2 : g2 < wr.heap.size := Nat.lt_of_lt_of_le hg2 hbw.size
      have hS : ((wr.cell? ⟨g1, o1 + k * 7, none⟩ = some (.int .i64 x.ky) ∧ wr.cell? ⟨g1, o1 + k * 7 + 1, none⟩ = some (.int .i64 x.st) ∧ wr.cell? ⟨g1, o1 + k * 7 + 2, none⟩ = some (.int .i64 x.en) ∧ wr.cell? ⟨g1, o1 + k * 7 + 3, none⟩ = some (.int .i64 x.n) ∧ wr.cell? ⟨g1, o1 + k * 7 + 4, none⟩ = some (.int .i64 x.su) ∧ wr.cell? ⟨g1, o1 + k * 7 + 5, none⟩ = some (.int .i64 x.le) ∧ wr.cell? ⟨g1, o1 + k * 7 + 6, none⟩ = some (.int .i64 x.mo) ∧ wr.cell? ⟨g2, o2 + k * 7, none⟩ = some (.int .i64 x.ky) ∧ wr.cell? ⟨g2, o2 + k * 7 + 1, none⟩ = some (.int .i64 x.st) ∧ wr.cell? ⟨g2, o2 + k * 7 + 2, none⟩ = some (.int .i64 x.en) ∧ wr.cell? ⟨g2, o2 + k * 7 + 3, none⟩ = some (.int .i64 x.n) ∧ wr.cell? ⟨g2, o2 + k * 7 + 4, none⟩ = some (.int .i64 x.su) ∧ wr.cell? ⟨g2, o2 + k * 7 + 5, none⟩ = some (.int .i64 x.le) ∧ wr.cell? ⟨g2, o2 + k * 7 + 6, none⟩ = some (.int .i64 x.mo)) ∧ g1 < wr.heap.size ∧ g2 < wr.heap.size) := by
        obtain ⟨c0, c1, c2, c3, c4, c5, c6⟩ := (hr1 k _ hxk).below hbw hg1
        obtain ⟨d0, d1, d2, d3, d4, d5, d6⟩ := (hr2 k _ hxk).below hbw hg2
        exact ⟨⟨c0, c1, c2, c3, c4, c5, c6, d0, d1, d2, d3, d4, d5, d6⟩, hs1, hs2⟩
      clear hx1 hx2 hxk hr1 hr2
      go_wp2
      go_region_held3 (fun W => ((W.cell? ⟨g1, o1 + k * 7, none⟩ = some (.int .i64 x.ky) ∧ W.cell? ⟨g1, o1 + k * 7 + 1, none⟩ = some (.int .i64 x.st) ∧ W.cell? ⟨g1, o1 + k * 7 + 2, none⟩ = some (.int .i64 x.en) ∧ W.cell? ⟨g1, o1 + k * 7 + 3, none⟩ = some (.int .i64 x.n) ∧ W.cell? ⟨g1, o1 + k * 7 + 4, none⟩ = some (.int .i64 x.su) ∧ W.cell? ⟨g1, o1 + k * 7 + 5, none⟩ = some (.int .i64 x.le) ∧ W.cell? ⟨g1, o1 + k * 7 + 6, none⟩ = some (.int .i64 x.mo) ∧ W.cell? ⟨g2, o2 + k * 7, none⟩ = some (.int .i64 x.ky) ∧ W.cell? ⟨g2, o2 + k * 7 + 1, none⟩ = some (.int .i64 x.st) ∧ W.cell? ⟨g2, o2 + k * 7 + 2, none⟩ = some (.int .i64 x.en) ∧ W.cell? ⟨g2, o2 + k * 7 + 3, none⟩ = some (.int .i64 x.n) ∧ W.cell? ⟨g2, o2 + k * 7 + 4, none⟩ = some (.int .i64 x.su) ∧ W.cell? ⟨g2, o2 + k * 7 + 5, none⟩ = some (.int .i64 x.le) ∧ W.cell? ⟨g2, o2 + k * 7 + 6, none⟩ = some (.int .i64 x.mo)) ∧ g1 < W.heap.size ∧ g2 < W.heap.size)) ((first | ((repeat (first | (with_reducible assumption) | (with_reducible refine hd_7_7 ?_ (by with_reducible assumption)) | (with_reducible refine hd_7_7 ?_ (bel_drew (Below.refl _ _))) | (with_reducible exact hd_7_7_re (by with_reducible assumption) (sB) (sB)) | (with_reducible refine hd_7_7 ?_ (bel_one _ _)) | (with_reducible refine hd_7_7_set ?_ (sB) (sB) _))); done) | (refine ⟨⟨?_, ?_, ?_, ?_, ?_, ?_, ?_, ?_, ?_, ?_, ?_, ?_, ?_, ?_⟩, ?_, ?_⟩ <;> first | (go_keep; done) | (simp; done) | (simp; omega) | omega)))
        (first
        | (go_at_call 23; refine (eqTb_one _ _).mono ?_; rintro e w' ⟨rfl, hb⟩; obtain ⟨hc, hf, hs⟩ := bcell hb))
      go_wp2
      go_roundw
      case rel => exact ⟨k + 1, by omega, by go_num, (belB)⟩
      case measure => simp [intOf]; omega
    · go_wp2
      go_ret
      exact ⟨rfl, hbw⟩

set_option maxRecDepth 20000 in
set_option maxHeartbeats 1000000 in
theorem markTb_any (a : Option Addr) (n cap : Nat) (w : World) (h : WrTb w a n cap) (hn : n ≤ 1048576) : Calls Tryz.prog 12 #[.slice a n cap, .int .i64 1] w fun e w' => e = .returned (.int .i64 (1 + 7 * (n : Int))) ∧ MarkedTb w' a n ∧ w.grownBy w' (rowTb a n) := by
  by_cases h0 : n = 0
  · subst h0
    go_enter Tryz.func12, Tryz.ntmps12
    go_wp2
    go_loopw [1, 5] (fun kv i wr => kv = .int .i64 1 ∧ i = .int .i64 0 ∧ wr = w) (fun _ _ _ => 0)
    case atStart => exact ⟨rfl, rfl, rfl⟩
    case round =>
      obtain ⟨rfl, rfl, rfl⟩ := hrel
      go_wp2
      go_ret
      exact ⟨rfl, Or.inl rfl, grown0Tb (Below.refl _ _)⟩
  · obtain ⟨g, rfl, hB, hc⟩ := h.resolve_left h0
    rw [rowTb_pos h0]
    go_enter Tryz.func12, Tryz.ntmps12
    go_wp2
    go_loopw [1, 5] (fun kv i wr => ∃ j : Nat, j ≤ n ∧ kv = .int .i64 (1 + 7 * (j : Int)) ∧ i = .int .i64 j ∧ BlkTb wr g 53 cap ∧ (∀ i, i < j → TbRAt wr g (i * 7) (markTb i)) ∧ w.grownBy wr (some g)) (fun _ i _ => n - (intOf i).toNat)
    case atStart => exact ⟨0, Nat.zero_le _, rfl, rfl, hB, fun i hi => absurd hi (by omega), ⟨rfl, rfl, rfl, Nat.le_refl _, fun _ _ _ => rfl⟩⟩
    case round =>
      obtain ⟨j, hj, rfl, rfl, hBw, hM, hG⟩ := hrel
      have HM := hide hM
      clear hM
      by_cases hlt : j < n
      · obtain ⟨⟨u0, d0⟩, ⟨u1, d1⟩, ⟨u2, d2⟩, ⟨u3, d3⟩, ⟨u4, d4⟩, ⟨u5, d5⟩, ⟨u6, d6⟩⟩ := hBw.cells (k := j) (by omega)
        have f0 := hBw.frozen (i := j * 7)
        have f1 := hBw.frozen (i := j * 7 + 1)
        have f2 := hBw.frozen (i := j * 7 + 2)
        have f3 := hBw.frozen (i := j * 7 + 3)
        have f4 := hBw.frozen (i := j * 7 + 4)
        have f5 := hBw.frozen (i := j * 7 + 5)
        have f6 := hBw.frozen (i := j * 7 + 6)
        go_wp2
        go_roundw
        case rel =>
          obtain ⟨s1, s2, s3⟩ := markTb_step hBw (by omega) (unhide HM) hG
          exact ⟨j + 1, by omega, by go_num, by go_num, s1, s2, s3⟩
        case measure => simp [intOf]; omega
      · obtain rfl : j = n := by omega
        go_wp2
        go_ret
        exact ⟨rfl, Or.inr ⟨g, rfl, unhide HM⟩, hG⟩

set_option maxRecDepth 20000 in
set_option maxHeartbeats 1000000 in
theorem heldTb_any (a : Option Addr) (n cap : Nat) (w : World) (h : MarkedTb w a n) (hn : n ≤ 1048576) : Calls Tryz.prog 13 #[.slice a n cap, .int .i64 1] w fun e w' => e = .returned (.int .i64 (1 + 7 * (n : Int))) ∧ w' = w := by
  go_enter Tryz.func13, Tryz.ntmps13
  go_wp2
  go_loop [1, 5] (fun kv i => ∃ j : Nat, j ≤ n ∧ kv = .int .i64 (1 + 7 * (j : Int)) ∧ i = .int .i64 j) (fun _ i => n - (intOf i).toNat)
  case atStart => exact ⟨0, Nat.zero_le _, rfl, rfl⟩
  case round =>
    obtain ⟨j, hj, rfl, rfl⟩ := hrel
    by_cases hlt : j < n
    · obtain ⟨g, rfl, hM⟩ := h.resolve_left (by omega)
      obtain ⟨c0, c1, c2, c3, c4, c5, c6⟩ := (show w.cell? ⟨g, j * 7, none⟩ = some (.int .i64 (1 + 7 * (j : Int))) ∧ w.cell? ⟨g, j * 7 + 1, none⟩ = some (.int .i64 (1 + 7 * (j : Int) + 1)) ∧ w.cell? ⟨g, j * 7 + 2, none⟩ = some (.int .i64 (1 + 7 * (j : Int) + 1 + 1)) ∧ w.cell? ⟨g, j * 7 + 3, none⟩ = some (.int .i64 (1 + 7 * (j : Int) + 1 + 1 + 1)) ∧ w.cell? ⟨g, j * 7 + 4, none⟩ = some (.int .i64 (1 + 7 * (j : Int) + 1 + 1 + 1 + 1)) ∧ w.cell? ⟨g, j * 7 + 5, none⟩ = some (.int .i64 (1 + 7 * (j : Int) + 1 + 1 + 1 + 1 + 1)) ∧ w.cell? ⟨g, j * 7 + 6, none⟩ = some (.int .i64 (1 + 7 * (j : Int) + 1 + 1 + 1 + 1 + 1 + 1)) from hM j hlt)
      clear hM
      go_wp2
      go_round
      case rel => exact ⟨j + 1, by omega, by go_num, by go_num⟩
      case measure => simp [intOf]; omega
    · obtain rfl : j = n := by omega
      go_wp2
      go_ret
      exact ⟨rfl, rfl⟩
end Go.Proofs.YtikidpcgnmffcaaGreat
namespace Go.Proofs.YtikidpcgnmffcaaGreat
open Go.ChangeShapes Go.WideShapes Go.ChangeAt Go.RowKit
set_option linter.unusedVariables false

theorem within_any (n a b : Int) (w : World) : Calls Tryz.prog 53 #[.int .i64 n, .int .i64 a, .int .i64 b] w fun e w' => e = .returned (.bool (inB n a b)) ∧ w' = w := by
  by_cases h1 : a ≤ n
  · by_cases h2 : n ≤ b
    · have h3 := hide (inB_tt h1 h2)
      go_enter Tryz.func53, Tryz.ntmps53
      go_wp2
      go_ret
      exact ⟨ret_b (unhide h3).symm, rfl⟩
    · have h3 := hide (inB_ff (n := n) (a := a) (b := b) (by omega))
      go_enter Tryz.func53, Tryz.ntmps53
      go_wp2
      go_ret
      exact ⟨ret_b (unhide h3).symm, rfl⟩
  · have h3 := hide (inB_ff (n := n) (a := a) (b := b) (by omega))
    go_enter Tryz.func53, Tryz.ntmps53
    go_wp2
    go_ret
    exact ⟨ret_b (unhide h3).symm, rfl⟩

theorem l1In_any (n a b : Int) (w : World) : Calls Tryz.prog 41 #[.int .i64 n, .int .i64 a, .int .i64 b] w fun e w' => e = .returned (.bool (inB n a b)) ∧ w' = w := by
  by_cases h1 : a ≤ n
  · by_cases h2 : n ≤ b
    · have h3 := hide (inB_tt h1 h2)
      go_enter Tryz.func41, Tryz.ntmps41
      go_wp2
      go_ret
      exact ⟨ret_b (unhide h3).symm, rfl⟩
    · have h3 := hide (inB_ff (n := n) (a := a) (b := b) (by omega))
      go_enter Tryz.func41, Tryz.ntmps41
      go_wp2
      go_ret
      exact ⟨ret_b (unhide h3).symm, rfl⟩
  · have h3 := hide (inB_ff (n := n) (a := a) (b := b) (by omega))
    go_enter Tryz.func41, Tryz.ntmps41
    go_wp2
    go_ret
    exact ⟨ret_b (unhide h3).symm, rfl⟩
end Go.Proofs.YtikidpcgnmffcaaGreat
namespace Go.Proofs.YtikidpcgnmffcaaGreat
open Go.ChangeShapes Go.WideShapes Go.ChangeAt Go.RowKit Go.Deep
set_option linter.unusedVariables false

/-- Each number is an int. -/
def TbR.ok64 (x : TbR) : Prop := (-9223372036854775808 ≤ x.ky ∧ x.ky ≤ 9223372036854775807) ∧ (-9223372036854775808 ≤ x.st ∧ x.st ≤ 9223372036854775807) ∧ (-9223372036854775808 ≤ x.en ∧ x.en ≤ 9223372036854775807) ∧ (-9223372036854775808 ≤ x.n ∧ x.n ≤ 9223372036854775807) ∧ (-9223372036854775808 ≤ x.su ∧ x.su ≤ 9223372036854775807) ∧ (-9223372036854775808 ≤ x.le ∧ x.le ≤ 9223372036854775807) ∧ (-9223372036854775808 ≤ x.mo ∧ x.mo ≤ 9223372036854775807)


theorem Tryz.infoTb : (Tryz.prog.info? 53).map (fun i => (i.zero, i.size, i.bytes)) = some (some (.agg #[.int .i64 0, .int .i64 0, .int .i64 0, .int .i64 0, .int .i64 0, .int .i64 0, .int .i64 0]), 7, 56) := by kernel_rfl

/-- The slice that is being filled. -/
def FillTb (W : World) (g ty len : Nat) (ys : List TbR) : Prop := BlkTb W g ty len ∧ ∀ i x, ys[i]? = some x → TbRAt W g (i * 7) x

theorem FillTb.step {wr w' : World} {g ty len k : Nat} {xs : List TbR} {x : TbR} (h : FillTb wr g ty len (xs.take k)) (hb : Below wr.heap.size wr w') (hk : k < len) (hx : xs[k]? = some x) : FillTb (setTb w' g (k * 7) x) g ty len (xs.take (k + 1)) := by
  have hB := h.1.below hb h.1.lt
  refine ⟨hB.sets x, fun i y hy => ?_⟩
  have hik : i < k + 1 := by
    rcases Nat.lt_or_ge i (k + 1) with h' | h'
    · exact h'
    · rw [List.getElem?_eq_none (by simp; omega)] at hy; cases hy
  rw [List.getElem?_take_of_lt hik] at hy
  by_cases he : i = k
  · subst he
    rw [hx] at hy
    cases hy
    exact setTb_this hB hk x
  · refine setTb_ne ?_ he
    exact (h.2 i y (by rw [List.getElem?_take_of_lt (by omega)]; exact hy)).below hb h.1.lt

theorem FillTb.start {w : World} {ty len : Nat} {C : Array Value} (hC : C.size = len * 7) (xs : List TbR) : FillTb (w.alloc (.cells C ty)) w.heap.size ty len (xs.take 0) :=
  ⟨⟨C, by show (w.heap.push _)[w.heap.size]? = _; simp, hC⟩, fun i x h => by simp at h⟩

theorem FillTb.done {W : World} {g ty len k : Nat} {xs : List TbR} (h : FillTb W g ty len (xs.take k)) (hk : xs.length ≤ k) : TbRsAt W g 0 xs := by
  intro i x hx
  rw [List.take_of_length_le hk] at h
  simpa using h.2 i x hx
end Go.Proofs.YtikidpcgnmffcaaGreat
namespace Go.Proofs.YtikidpcgnmffcaaGreat
open Go.RowKit Go.Shelf
set_option linter.unusedVariables false
attribute [local go_sem] Oper.semAt_some

/-- What is known, as its four numbers. -/
abbrev Ag4 := Int × Int × Int × Int

def agV (a : Ag4) : Value := .agg #[.int .i64 a.1, .int .i64 a.2.1, .int .i64 a.2.2.1, .int .i64 a.2.2.2]

def ag0 : Ag4 := (0, 0, 0, 0)

theorem zeroAg (u : World) : (zeroValue 47).run Tryz.prog u = .ok (agV ag0) u := by kernel_rfl

def rowT (x : P3 × Ag4) : TbR := ⟨x.1.1, x.1.2.1, x.1.2.2, x.2.1, x.2.2.1, x.2.2.2.1, x.2.2.2.2⟩

def BxA (W : World) (q : Nat) (x : Ag4) : Prop := W.heap[q]? = some (.cells #[.int .i64 x.1, .int .i64 x.2.1, .int .i64 x.2.2.1, .int .i64 x.2.2.2] 47 (0, 0))

theorem BxA.new (W : World) (x : Ag4) : BxA (W.alloc (.cells #[.int .i64 x.1, .int .i64 x.2.1, .int .i64 x.2.2.1, .int .i64 x.2.2.2] 47)) W.heap.size x := World.alloc_heap_new W _

theorem BxA.cells {W : World} {q : Nat} {x : Ag4} (h : BxA W q x) : W.cell? ⟨q, 0, none⟩ = some (.int .i64 x.1) ∧ W.cell? ⟨q, 1, none⟩ = some (.int .i64 x.2.1) ∧ W.cell? ⟨q, 2, none⟩ = some (.int .i64 x.2.2.1) ∧ W.cell? ⟨q, 3, none⟩ = some (.int .i64 x.2.2.2) := ⟨(Joins.cell_of_block h 0), (Joins.cell_of_block h 1), (Joins.cell_of_block h 2), (Joins.cell_of_block h 3)⟩

theorem kpo_app {W w1 : World} {n₀ B : Nat} {v v' : Value} {q : Nat} {ys : List Value} {tmp : Obj} (hv : Boxed W B 26 v) (hrow : W.ownsRow n₀ 53 7 v q ys) (hgrow : (W.alloc tmp).grownBy w1 v.ownBlock) : KpO W (w1.setCell ⟨B, 0, none⟩ v') := by
  refine ⟨walks_app hrow hgrow, fun bl cs ty ht hbl => ?_⟩
  have hlt := (Array.getElem?_eq_some_iff.1 hbl).1
  have h1 : bl ≠ B := by
    rintro rfl
    have := hv
    unfold Boxed at this
    rw [hbl] at this
    simp only [Option.some.injEq, Obj.cells.injEq] at this
    rcases ht with rfl | rfl
    · exact absurd this.2.1 (by decide)
    · exact absurd this.2.1 (by decide)
  have h2 : some bl ≠ v.ownBlock := by
    rcases hrow.2 with ⟨rfl, _⟩ | ⟨g, cp, cur, rfl, _, hgb, _⟩
    · simp [Value.ownBlock]
    · intro e9
      simp [Value.ownBlock] at e9
      subst e9
      rw [hbl] at hgb
      simp only [Option.some.injEq, Obj.cells.injEq] at hgb
      rcases ht with rfl | rfl
      · exact absurd hgb.2.1 (by decide)
      · exact absurd hgb.2.1 (by decide)
  rw [Below.heap_setCell w1 _ v' bl h1, hgrow.block bl (by simp; omega) h2, Below.heap_alloc _ _ _ hlt]
  exact hbl

/-- The frame of a round. -/
def actR (w : World) (b : Nat) (x : P3 × Ag4) (q : Nat) : Act := { tmps := #[.map (some b), undef, .slice none 0 0, .pointer (some ⟨w.heap.size, 0, none⟩), .pointer (some ⟨q, 0, none⟩), .pointer (some ⟨q + 1, 0, none⟩), .map (some b), .func (.func 67) #[] #[.pointer (some ⟨w.heap.size + 1, 0, none⟩)], .agg #[.int .i64 x.1.1, .int .i64 x.1.2.1, .int .i64 x.1.2.2], .agg #[.int .i64 x.2.1, .int .i64 x.2.2.1, .int .i64 x.2.2.2.1, .int .i64 x.2.2.2.2], undef, undef, undef, undef, undef, undef, undef, undef, undef, undef], defers := [] }

set_option maxRecDepth 100000 in
set_option maxHeartbeats 4000000 in
theorem rowsof_any (b nn : Nat) (f : P3 → Option Ag4) (w : World) (hnn : nn ≤ 1048577) (hown : OwnsV w b nn (fun q => (f q).map agV)) :
    Calls Tryz.prog 38 #[.map (some b)] w fun e' w' => ∃ v' ys, e' = .returned v' ∧ InOrd ag0 f ys ∧ ys.length ≤ nn ∧ OwnTb w' w.heap.size v' (ys.map rowT) ∧ Below w.heap.size w w' := by
  obtain ⟨i0, hi, hz0', hz1', hz2'⟩ := info_parts Tryz.infoTb
  refine (callsIn_wide (n := 20)).1 ?_
  refine callsIn_of_wp_marks Tryz.func38 rfl trivial ?_ rfl
  simp only [Tryz.ntmps38, List.size_toArray, List.length_cons, List.length_nil, Nat.reduceAdd, Nat.reduceSub, Array.replicate_succ, Array.replicate_zero, List.push_toArray, List.append_toArray, List.nil_append, List.cons_append]
  have hB1 : Below w.heap.size w (w.alloc (.cells #[.slice none 0 0] 26)) := bel_one _ _
  have hB0 : Below w.heap.size w ((w.alloc (.cells #[.slice none 0 0] 26)).alloc (.cells #[.map (some b)] 74)) := bel_alloc hB1 _
  have bS : Boxed ((w.alloc (.cells #[.slice none 0 0] 26)).alloc (.cells #[.map (some b)] 74)) w.heap.size 26 (.slice none 0 0) := (Boxed.new w 26 (.slice none 0 0)).alloc _
  have hm : ((w.alloc (.cells #[.slice none 0 0] 26)).alloc (.cells #[.map (some b)] 74)).heap[w.heap.size + 1]? = some (.cells #[.map (some b)] 74 (0, 0)) := by
    have := World.alloc_heap_new (w.alloc (.cells #[.slice none 0 0] 26)) (.cells #[.map (some b)] 74)
    rw [World.size_alloc] at this
    exact this
  gi_wp2_with (refine ⟨trivial, ?_⟩; gi_at_call 57; refine (callsIn_wide.2 (inorder_any b _)).mono ?_; rintro e' w1 ⟨rfl, hw1⟩; subst hw1)
  refine wpIn_rangeFunc_ownH rfl (by omega) (gf := 67) (lb := #[.pointer (some ⟨w.heap.size + 1, 0, none⟩)]) (by simp [go_sem, Act.eval]) trivial (enters_of Tryz.func67 (by kernel_rfl) rfl)
    (inord_stops _ (by omega) (w.heap.size + 1) b nn agV f ag0 zeroAg _ hnn hm (hown.kp (KpO.of_bel hB0).1)) KpO.trans KpO.put (Below.refl _ _) (fun _ => rfl)
    (fun pre W => (∃ v, Boxed W w.heap.size 26 v ∧ W.ownsRow w.heap.size 53 7 v pre.length (flatTb (pre.map rowT)) ∧ pre.length ≤ nn) ∧ Below w.heap.size w W)
    (fun _ _ _ => False)
    (OwnFrom.and (Own.from (holdsRow_own w.heap.size w.heap.size 26 53 7 (fun pre : List (P3 × Ag4) => pre.length) (fun pre => flatTb (pre.map rowT)) (fun pre _ => pre.length ≤ nn)) _) (ownFrom_below (Nat.le_refl _) (by simp; omega)))
    (fun _ _ _ _ _ hs _ _ => hs)
    ⟨⟨_, bS, World.ownsRow_nil _ _ _ _, Nat.zero_le _⟩, hB0⟩
    (fun x a' W => ∃ q, a' = actR w b x q ∧ Bx3 W q x.1 ∧ BxA W (q + 1) x.2)
    (fun x a' _ W W' row hs hg hr => by
      obtain ⟨q, e1, hq, hq2⟩ := hs
      refine ⟨q, e1, (hg.block q (Array.getElem?_eq_some_iff.1 hq).1 (fun e9 => ?_)).trans hq, (hg.block (q + 1) (Array.getElem?_eq_some_iff.1 hq2).1 (fun e9 => ?_)).trans hq2⟩
      · obtain ⟨_, o, ho, hc⟩ := hr q e9.symm
        rw [hq] at ho
        cases ho
        cases hc
      · obtain ⟨_, o, ho, hc⟩ := hr (q + 1) e9.symm
        rw [hq2] at ho
        cases ho
        cases hc) ?assign ?body ?done ?stop
  case assign =>
    rintro lb0 pre x W K ⟨⟨rv, hv, hrow, hpN⟩, hB⟩ hK
    have hbA : Below W.heap.size W ((W.alloc (.cells #[.int .i64 x.1.1, .int .i64 x.1.2.1, .int .i64 x.1.2.2] 76)).alloc (.cells #[.int .i64 x.2.1, .int .i64 x.2.2.1, .int .i64 x.2.2.2.1, .int .i64 x.2.2.2.2] 47)) := bel_alloc (bel_one W _) _
    have HK := hK (actR w b x W.heap.size) ((W.alloc (.cells #[.int .i64 x.1.1, .int .i64 x.1.2.1, .int .i64 x.1.2.2] 76)).alloc (.cells #[.int .i64 x.2.1, .int .i64 x.2.2.1, .int .i64 x.2.2.2.1, .int .i64 x.2.2.2.2] 47)) ((KeepsOthers.of_grownBy (grown_of3 hbA) (fun _ _ e => by cases e)).from _) (KpO.of_bel hbA) ⟨⟨rv, (hv.alloc _).alloc _, (hrow.alloc _).alloc _, hpN⟩, bel_alloc (bel_alloc hB _) _⟩ ⟨_, rfl, (KpO.of_bel (bel_one _ _)).2 _ _ _ (Or.inl rfl) (Bx3.new W x.1), by have h9 := BxA.new (W.alloc (.cells #[.int .i64 x.1.1, .int .i64 x.1.2.1, .int .i64 x.1.2.2] 76)) x.2; rw [World.size_alloc] at h9; exact h9⟩
    clear hK hbA
    unfold actR at HK
    unfold agV
    gi_wp2
    exact HK
  case body =>
    rintro lb0 pre x a' W hlb _ ⟨⟨rv, hv, hrow, hpN⟩, hB⟩ ⟨q, rfl, hq, hq2⟩ hpl
    have hcv := hv.cell
    have hz1 := hv.lt
    have hfv := hv.frozen
    have HR := hide hrow
    have HV := hide hv
    obtain ⟨x0, x1, x2⟩ := hq.cells
    obtain ⟨y0, y1, y2, y3⟩ := hq2.cells
    have hlq := (Array.getElem?_eq_some_iff.1 hq).1
    have hlq2 := (Array.getElem?_eq_some_iff.1 hq2).1
    clear hB0 hB1 bS hrow hv hq hq2 hm hown
    unfold actR
    gi_wp2_with (gi_at_builtin; go_loud (refine wpListIn_append_own _ rfl _ _ 26 rfl w.heap.size 53 i0 _ 7 56 Tryz.underlying26 hi hz0' hz1' hz2' rfl (by decide) rv _ _ rfl (World.ownsRow.alloc (unhide HR) _) ⟨W.heap.size, 0, none⟩ 1 1 [.int .i64 x.1.1, .int .i64 x.1.2.1, .int .i64 x.1.2.2, .int .i64 x.2.1, .int .i64 x.2.2.1, .int .i64 x.2.2.2.1, .int .i64 x.2.2.2.2] rfl rfl (cells_newTb W x.1.1 x.1.2.1 x.1.2.2 x.2.1 x.2.2.1 x.2.2.2.1 x.2.2.2.2 _) (by simp [Value.oneCell']) (by unfold maxLen; omega) (by omega) (by simp; omega) ?_); intro v' w2 hown' hgrow _; obtain ⟨g', cap', rfl⟩ := ownsRow_succ hown'; obtain ⟨hv1, hv2, hr2, hk2, hb2⟩ := Boxed.appended (unhide HV) (by decide) (unhide HR) (by omega) (Nat.le_refl _) hown' hgrow; have hkp := kpo_app (v' := .slice (some ⟨g', 0, none⟩) (pre.length + 1) cap') (unhide HV) (unhide HR) hgrow; have hcc := hv1.cell; have hff := hv1.frozen; have HV3 := hide hv2; have HR3 := hide hr2; clear hv1 hv2 hr2 hown' hgrow)
    exact ⟨hk2.from _, hkp, ⟨_, unhide HV3, by rw [List.map_append, List.length_append]; simp only [List.map_cons, List.map_nil]; rw [flatTb_snoc]; exact unhide HR3, by rw [List.length_append]; simp; omega⟩, hB.trans hb2⟩
  case done =>
    rintro D ys W hD hys ⟨⟨rv, hv, hrow, hpN⟩, hB⟩ hK
    have hcv := hv.cell
    have HR := hide hrow
    clear hrow
    gi_wp2
    refine ⟨by simp, .inl ⟨_, _, rfl, run_takeDeferred hK, ?_⟩⟩
    exact ⟨_, results_tmp rfl _ _ _, rv, ys, rfl, hys, hpN, by unfold OwnTb; rw [List.length_map]; exact ownsRow_putObj (unhide HR) _ hK rfl, hB.trans (belowK_b (w := w) (Nat.le_refl _) W D _ _ (by simp at hD; omega) hK rfl rfl)⟩
  case stop =>
    rintro D c pre W _ _ hx _
    exact hx.elim
end Go.Proofs.YtikidpcgnmffcaaGreat
namespace Go.Proofs.YtikidpcgnmffcaaGreat
open Go.ChangeShapes Go.WideShapes Go.ChangeAt Go.RowKit
set_option linter.unusedVariables false

theorem take_snocT {α : Type} {xs : List α} {k : Nat} {x : α} (h : xs[k]? = some x) : xs.take (k + 1) = xs.take k ++ [x] := by
  obtain ⟨hk, he⟩ := List.getElem?_eq_some_iff.1 h
  rw [List.take_add_one, h]; rfl
end Go.Proofs.YtikidpcgnmffcaaGreat
namespace Go.Proofs.YtikidpcgnmffcaaGreat
open Go.ChangeShapes Go.WideShapes Go.ChangeAt Go.RowKit
set_option linter.unusedVariables false

/-- Whether a row is of a key's window; the first such row. -/
def TbR.isB (ky st en : Int) (x : TbR) : Bool := x.ky == ky && (x.st == st && x.en == en)

def findT (ky st en : Int) (xs : List TbR) : Option TbR := xs.find? (TbR.isB ky st en)

def foundV : Option TbR → Value
  | some x => .tuple #[.agg #[.int .i64 x.n, .int .i64 x.su, .int .i64 x.le, .int .i64 x.mo], .bool true]
  | none => .tuple #[.agg #[.int .i64 0, .int .i64 0, .int .i64 0, .int .i64 0], .bool false]

theorem isB_t {ky st en : Int} {x : TbR} (h1 : x.ky = ky) (h2 : x.st = st) (h3 : x.en = en) : x.isB ky st en = true := by simp [TbR.isB, h1, h2, h3]

theorem isB_1 {ky st en : Int} {x : TbR} (h1 : ¬ x.ky = ky) : x.isB ky st en = false := by simp [TbR.isB, h1]

theorem isB_2 {ky st en : Int} {x : TbR} (h1 : ¬ x.st = st) : x.isB ky st en = false := by simp [TbR.isB, h1]

theorem isB_3 {ky st en : Int} {x : TbR} (h1 : ¬ x.en = en) : x.isB ky st en = false := by simp [TbR.isB, h1]

theorem findT_hit {ky st en : Int} {xs : List TbR} {k : Nat} {x : TbR} (hx : xs[k]? = some x) (h0 : findT ky st en (xs.take k) = none) (hb : x.isB ky st en = true) : findT ky st en xs = some x := by
  have e : xs = xs.take k ++ x :: xs.drop (k + 1) := by
    obtain ⟨hk, he⟩ := List.getElem?_eq_some_iff.1 hx
    rw [← he, List.getElem_cons_drop, List.take_append_drop]
  rw [e]
  unfold findT at h0 ⊢
  rw [List.find?_append, h0]
  simp [hb]

theorem findT_no {ky st en : Int} {xs : List TbR} {k : Nat} {x : TbR} (hx : xs[k]? = some x) (h0 : findT ky st en (xs.take k) = none) (hb : x.isB ky st en = false) : findT ky st en (xs.take (k + 1)) = none := by
  rw [take_snocT hx]
  unfold findT at h0 ⊢
  rw [List.find?_append, h0]
  simp [hb]

theorem foundV_hit {ky st en : Int} {xs : List TbR} {k : Nat} {x : TbR} (hx : xs[k]? = some x) (h0 : findT ky st en (xs.take k) = none) (hb : x.isB ky st en = true) : foundV (findT ky st en xs) = .tuple #[.agg #[.int .i64 x.n, .int .i64 x.su, .int .i64 x.le, .int .i64 x.mo], .bool true] := by rw [findT_hit hx h0 hb]; rfl

theorem ret_v {a b : Value} (h : a = b) : Ending.returned a = .returned b := by rw [h]

set_option maxHeartbeats 1000000 in
theorem specfind_any (a : Option Addr) (len cap : Nat) (xs : List TbR) (ky st en : Int) (w : World) (h : TbRs w a len xs) : Calls Tryz.prog 16 #[.slice a len cap, .int .i64 ky, .agg #[.int .i64 st, .int .i64 en]] w fun e w' => e = .returned (foundV (findT ky st en xs)) ∧ Below w.heap.size w w' := by
  have hm := h.2.1
  unfold maxLen at hm
  go_enter Tryz.func16, Tryz.ntmps16
  go_wp2
  go_loopw [8] (fun i wr => ∃ k : Nat, k ≤ len ∧ i = .int .i64 k ∧ Hid (findT ky st en (xs.take k) = none) ∧ Below ((w.alloc (.cells #[.int .i64 st, .int .i64 en] 42)).alloc (.cells #[.int .i64 0, .int .i64 0, .int .i64 0, .int .i64 0] 47)).heap.size ((w.alloc (.cells #[.int .i64 st, .int .i64 en] 42)).alloc (.cells #[.int .i64 0, .int .i64 0, .int .i64 0, .int .i64 0] 47)) wr) (fun i _ => len - (intOf i).toNat)
  case atStart => exact ⟨0, Nat.zero_le _, rfl, hide rfl, Below.refl _ _⟩
  case round =>
    obtain ⟨k, hk, rfl, hN, hbw⟩ := hrel
    have hb0 : Below w.heap.size w wr := bel_trans (bel_alloc (bel_one _ _) _) hbw
    have c0 : wr.cell? ⟨w.heap.size, 0, none⟩ = some (.int .i64 st) := (hbw.cell (p := ⟨w.heap.size, 0, none⟩) (by simp; omega)).trans (by simp [go_sem])
    have c1 : wr.cell? ⟨w.heap.size, 1, none⟩ = some (.int .i64 en) := (hbw.cell (p := ⟨w.heap.size, 1, none⟩) (by simp; omega)).trans (by simp [go_sem])
    have e0 : wr.cell? ⟨w.heap.size + 1, 0, none⟩ = some (.int .i64 0) := (hbw.cell (p := ⟨w.heap.size + 1, 0, none⟩) (by simp)).trans (by simp [go_sem])
    have e1 : wr.cell? ⟨w.heap.size + 1, 1, none⟩ = some (.int .i64 0) := (hbw.cell (p := ⟨w.heap.size + 1, 1, none⟩) (by simp)).trans (by simp [go_sem])
    have e2 : wr.cell? ⟨w.heap.size + 1, 2, none⟩ = some (.int .i64 0) := (hbw.cell (p := ⟨w.heap.size + 1, 2, none⟩) (by simp)).trans (by simp [go_sem])
    have e3 : wr.cell? ⟨w.heap.size + 1, 3, none⟩ = some (.int .i64 0) := (hbw.cell (p := ⟨w.heap.size + 1, 3, none⟩) (by simp)).trans (by simp [go_sem])
    have z0 : wr.frozen? ⟨w.heap.size + 1, 0, none⟩ = false := (hbw.frozen (p := ⟨w.heap.size + 1, 0, none⟩) (by simp)).trans (by simp [go_sem])
    have z1 : wr.frozen? ⟨w.heap.size + 1, 1, none⟩ = false := (hbw.frozen (p := ⟨w.heap.size + 1, 1, none⟩) (by simp)).trans (by simp [go_sem])
    have z2 : wr.frozen? ⟨w.heap.size + 1, 2, none⟩ = false := (hbw.frozen (p := ⟨w.heap.size + 1, 2, none⟩) (by simp)).trans (by simp [go_sem])
    have z3 : wr.frozen? ⟨w.heap.size + 1, 3, none⟩ = false := (hbw.frozen (p := ⟨w.heap.size + 1, 3, none⟩) (by simp)).trans (by simp [go_sem])
    have hzb : w.heap.size + 1 < wr.heap.size := by have := hbw.size; simp at this; omega
    by_cases hlt : k < len
    · obtain ⟨hxl, _, hx⟩ := h
      obtain ⟨g, o, rfl, hr⟩ := hx.resolve_left (by omega)
      obtain ⟨x, hxk⟩ : ∃ x, xs[k]? = some x := ⟨_, List.getElem?_eq_getElem (by omega)⟩
      have hg : g < w.heap.size := hr.lt (by omega)
      have hX := hide hxk
      obtain ⟨d0, d1, d2, d3, d4, d5, d6⟩ := (hr k _ hxk).below hb0 hg
      clear hx hxk
      by_cases k1 : x.ky = ky
      · by_cases k2 : x.st = st
        · by_cases k3 : x.en = en
          · have hB := isB_t k1 k2 k3
            have hV := hide (foundV_hit (unhide hX) (unhide hN) hB)
            clear hB
            go_wp2
            go_quiet (fail)
            go_wp2
            show bodyPost _ _ _ _ _ _
            refine bodyPost_ret (v := .tuple #[.agg #[.int .i64 x.n, .int .i64 x.su, .int .i64 x.le, .int .i64 x.mo], .bool true]) (by simp (maxDischargeDepth := 9) [results, Tryz.results16, go_sem, *]) rfl ⟨ret_v (unhide hV).symm, ?_⟩
            exact (belB)
          · have hB := isB_3 (ky := ky) (st := st) k3
            have k3' : (x.en == en) = false := by simpa using k3
            have hN' := hide (findT_no (unhide hX) (unhide hN) hB)
            clear hB
            go_wp2
            go_quiet (fail)
            go_wp2
            go_roundw
            case rel => exact ⟨k + 1, by omega, by go_num, hN', (belB)⟩
            case measure => simp [intOf]; omega
        · have hB := isB_2 (ky := ky) (en := en) k2
          have k2' : (x.st == st) = false := by simpa using k2
          have hN' := hide (findT_no (unhide hX) (unhide hN) hB)
          clear hB
          go_wp2
          go_quiet (fail)
          go_wp2
          go_roundw
          case rel => exact ⟨k + 1, by omega, by go_num, hN', (belB)⟩
          case measure => simp [intOf]; omega
      · have hB := isB_1 (st := st) (en := en) k1
        have k1' : (x.ky == ky) = false := by simpa using k1
        have hN' := hide (findT_no (unhide hX) (unhide hN) hB)
        clear hB
        go_wp2
        go_quiet (fail)
        go_wp2
        go_roundw
        case rel => exact ⟨k + 1, by omega, by go_num, hN', (belB)⟩
        case measure => simp [intOf]; omega

    · have hV : Hid (foundV (findT ky st en xs) = .tuple #[.agg #[.int .i64 0, .int .i64 0, .int .i64 0, .int .i64 0], .bool false]) := hide (by have e := unhide hN; rw [List.take_of_length_le (by have := h.1; omega)] at e; rw [e]; rfl)
      go_wp2
      show bodyPost _ _ _ _ _ _
      refine bodyPost_ret (v := .tuple #[.agg #[.int .i64 0, .int .i64 0, .int .i64 0, .int .i64 0], .bool false]) (by simp (maxDischargeDepth := 9) [results, Tryz.results16, go_sem, *]) rfl ⟨ret_v (unhide hV).symm, ?_⟩
      exact (belB)

theorem rowplace_any (ky st en n su le mo : Int) (w : World) : Calls Tryz.prog 73 #[.agg #[.int .i64 ky, .int .i64 st, .int .i64 en, .int .i64 n, .int .i64 su, .int .i64 le, .int .i64 mo]] w fun e w' => e = .returned (.agg #[.int .i64 ky, .int .i64 st, .int .i64 en]) ∧ Below w.heap.size w w' := by
  go_enter Tryz.func73, Tryz.ntmps73
  go_wp2
  refine bodyPost_ret (v := .agg #[.int .i64 ky, .int .i64 st, .int .i64 en]) (by simp [results, Tryz.results73, go_sem]) rfl ⟨rfl, ?_⟩
  exact (belB)
end Go.Proofs.YtikidpcgnmffcaaGreat
namespace Go.Proofs.YtikidpcgnmffcaaGreat
open Go.ChangeShapes Go.WideShapes Go.ChangeAt Go.RowKit
set_option linter.unusedVariables false

/-- Whether a row stands ahead of another one. -/
def aheadR (r x : TbR) : Bool := decide (plCmp r.ky r.st r.en x.ky x.st x.en < 0)

set_option maxRecDepth 20000 in
set_option maxHeartbeats 2000000 in
theorem isahead_any (r x : TbR) (w : World) : Calls Tryz.prog 60 #[.agg #[.int .i64 r.ky, .int .i64 r.st, .int .i64 r.en, .int .i64 r.n, .int .i64 r.su, .int .i64 r.le, .int .i64 r.mo], .agg #[.int .i64 x.ky, .int .i64 x.st, .int .i64 x.en, .int .i64 x.n, .int .i64 x.su, .int .i64 x.le, .int .i64 x.mo]] w fun e w' => e = .returned (.bool (aheadR r x)) ∧ Below w.heap.size w w' := by
  go_enter Tryz.func60, Tryz.ntmps60
  go_wp2
  go_region_held3 (fun W => ((W.cell? ⟨w.heap.size, 0, none⟩ = some (.int .i64 r.ky) ∧ W.cell? ⟨w.heap.size, 1, none⟩ = some (.int .i64 r.st) ∧ W.cell? ⟨w.heap.size, 2, none⟩ = some (.int .i64 r.en) ∧ W.cell? ⟨w.heap.size, 3, none⟩ = some (.int .i64 r.n) ∧ W.cell? ⟨w.heap.size, 4, none⟩ = some (.int .i64 r.su) ∧ W.cell? ⟨w.heap.size, 5, none⟩ = some (.int .i64 r.le) ∧ W.cell? ⟨w.heap.size, 6, none⟩ = some (.int .i64 r.mo) ∧ W.cell? ⟨w.heap.size + 1, 0, none⟩ = some (.int .i64 x.ky) ∧ W.cell? ⟨w.heap.size + 1, 1, none⟩ = some (.int .i64 x.st) ∧ W.cell? ⟨w.heap.size + 1, 2, none⟩ = some (.int .i64 x.en) ∧ W.cell? ⟨w.heap.size + 1, 3, none⟩ = some (.int .i64 x.n) ∧ W.cell? ⟨w.heap.size + 1, 4, none⟩ = some (.int .i64 x.su) ∧ W.cell? ⟨w.heap.size + 1, 5, none⟩ = some (.int .i64 x.le) ∧ W.cell? ⟨w.heap.size + 1, 6, none⟩ = some (.int .i64 x.mo)) ∧ w.heap.size < W.heap.size ∧ w.heap.size + 1 < W.heap.size)) ((first | ((repeat (first | (with_reducible assumption) | (with_reducible refine hd_7_7 ?_ (by with_reducible assumption)) | (with_reducible refine hd_7_7 ?_ (bel_drew (Below.refl _ _))) | (with_reducible exact hd_7_7_re (by with_reducible assumption) (sB) (sB)) | (with_reducible refine hd_7_7 ?_ (bel_one _ _)) | (with_reducible refine hd_7_7_set ?_ (sB) (sB) _))); done) | (refine ⟨⟨?_, ?_, ?_, ?_, ?_, ?_, ?_, ?_, ?_, ?_, ?_, ?_, ?_, ?_⟩, ?_, ?_⟩ <;> first | (go_keep; done) | (simp; done) | (simp; omega) | omega)))
    (first
    | (go_at_call 73; refine (rowplace_any _ _ _ _ _ _ _ _).mono ?_; rintro e w' ⟨rfl, hb⟩)
    | (go_at_call 70; refine (compare_any _ _ _ _ _ _ _).mono ?_; rintro e w' ⟨rfl, hb⟩))
  all_goals
    go_wp2
    go_ret
    exact ⟨rfl, (belA)⟩

/-- The place of the first row that a row stands ahead of, or -1. -/
def idxR (r : TbR) (xs : List TbR) : Int := match xs.findIdx? (aheadR r) with
  | some i => (i : Int)
  | none => -1

theorem idxR_hit {r : TbR} {xs : List TbR} {j : Nat} {x : TbR} (hx : xs[j]? = some x) (h0 : ∀ i, i < j → ∀ y, xs[i]? = some y → aheadR r y = false) (hb : aheadR r x = true) : idxR r xs = (j : Int) := by
  have hj := (List.getElem?_eq_some_iff.1 hx)
  have hj1 := hj.1
  have : xs.findIdx? (aheadR r) = some j := by
    rw [List.findIdx?_eq_some_iff_getElem]
    refine ⟨hj.1, by rw [hj.2]; exact hb, fun i hi => ?_⟩
    have := h0 i hi _ (List.getElem?_eq_getElem (by omega))
    simp [this]
  unfold idxR
  rw [this]

theorem idxR_none {r : TbR} {xs : List TbR} (h0 : ∀ i, i < xs.length → ∀ y, xs[i]? = some y → aheadR r y = false) : idxR r xs = -1 := by
  have : xs.findIdx? (aheadR r) = none := by
    rw [List.findIdx?_eq_none_iff]
    intro x hx
    obtain ⟨i, hi, rfl⟩ := List.getElem_of_mem hx
    exact h0 i hi _ (List.getElem?_eq_getElem hi)
  unfold idxR
  rw [this]

theorem idx_step {r : TbR} {xs : List TbR} {j : Nat} {x : TbR} (hx : xs[j]? = some x) (h0 : ∀ i, i < j → ∀ y, xs[i]? = some y → aheadR r y = false) (hb : aheadR r x = false) : ∀ i, i < j + 1 → ∀ y, xs[i]? = some y → aheadR r y = false := by
  intro i hi y hy
  by_cases e : i = j
  · subst e; rw [hx] at hy; cases hy; exact hb
  · exact h0 i (by omega) y hy

set_option maxRecDepth 20000 in
set_option maxHeartbeats 1000000 in
theorem idx_any (r : TbR) (a : Option Addr) (len cap : Nat) (xs : List TbR) (w : World) (h : TbRs w a len xs) (hl : len ≤ 1048576) : Calls Tryz.prog 59 #[.slice a len cap, .func (.func 60) #[.agg #[.int .i64 r.ky, .int .i64 r.st, .int .i64 r.en, .int .i64 r.n, .int .i64 r.su, .int .i64 r.le, .int .i64 r.mo]] #[]] w fun e w' => e = .returned (.int .i64 (idxR r xs)) ∧ Below w.heap.size w w' := by
  go_enter Tryz.func59, Tryz.ntmps59
  go_wp2
  go_loopw [8] (fun i wr => ∃ j : Nat, j ≤ len ∧ i = .int .i64 j ∧ Hid (∀ i, i < j → ∀ y, xs[i]? = some y → aheadR r y = false) ∧ Below w.heap.size w wr) (fun i _ => len - (intOf i).toNat)
  case atStart => exact ⟨0, Nat.zero_le _, rfl, hide (fun i hi => absurd hi (by omega)), Below.refl _ _⟩
  case round =>
    obtain ⟨j, hj, rfl, HN, hbw⟩ := hrel
    by_cases hlt : j < len
    · obtain ⟨hxl, _, hx⟩ := h
      obtain ⟨g, o, rfl, hr⟩ := hx.resolve_left (by omega)
      obtain ⟨x, hxk⟩ : ∃ x, xs[j]? = some x := ⟨_, List.getElem?_eq_getElem (by omega)⟩
      have hg : g < w.heap.size := hr.lt (by omega)
      have hX := hide hxk
      obtain ⟨d0, d1, d2, d3, d4, d5, d6⟩ := (hr j _ hxk).below hbw hg
      clear hx hxk hr
      cases hB : aheadR r x
      · have HN2 := hide (idx_step (unhide hX) (unhide HN) hB)
        go_wp2_with (go_at_call 60; refine (isahead_any r x _).mono ?_; rintro e w' ⟨rfl, hb⟩)
        go_roundw
        case rel => exact ⟨j + 1, by omega, by go_num, HN2, (belA)⟩
        case measure => simp [intOf]; omega
      · have HQ := hide (idxR_hit (unhide hX) (unhide HN) hB)
        go_wp2_with (go_at_call 60; refine (isahead_any r x _).mono ?_; rintro e w' ⟨rfl, hb⟩)
        go_ret
        exact ⟨ret_i (unhide HQ).symm, (belA)⟩
    · have HQ := hide (idxR_none (r := r) (xs := xs) (fun i hi => unhide HN i (by have := h.1; omega)))
      go_wp2
      go_ret
      exact ⟨ret_i (unhide HQ).symm, hbw⟩
end Go.Proofs.YtikidpcgnmffcaaGreat
namespace Go.Proofs.YtikidpcgnmffcaaGreat
open Go.ChangeShapes Go.WideShapes Go.ChangeAt Go.RowKit
set_option linter.unusedVariables false

theorem ret_pb {a b : Bool} (h : b = a) : Ending.returned (.bool a) = .returned (.bool b) := by rw [h]

theorem aheadR_ky {r x : TbR} (h : ¬ r.ky = x.ky) : aheadR r x = decide (r.ky < x.ky) := by
  unfold aheadR plCmp orI cmpI
  by_cases h1 : r.ky < x.ky
  · simp [h1]
  · have h2 : x.ky < r.ky := by omega
    simp [h1, h2]

theorem aheadR_st {r x : TbR} (h : r.ky = x.ky) (h2 : ¬ r.st = x.st) : aheadR r x = decide (r.st < x.st) := by
  unfold aheadR plCmp orI cmpI
  by_cases h1 : r.st < x.st
  · simp [h, h1]
  · have h3 : x.st < r.st := by omega
    simp [h, h1, h3]

theorem aheadR_en {r x : TbR} (h : r.ky = x.ky) (h2 : r.st = x.st) : aheadR r x = decide (r.en < x.en) := by
  unfold aheadR plCmp orI cmpI
  by_cases h1 : r.en < x.en
  · simp [h, h2, h1]
  · by_cases h3 : x.en < r.en
    · simp [h, h2, h1, h3]
    · simp [h, h2, h1, h3]

/-- Whether a window is ahead of another one. -/
def lessW (st en st' en' : Int) : Bool := if st = st' then decide (en < en') else decide (st < st')

theorem l2less_any (st en st' en' : Int) (w : World) : Calls Tryz.prog 43 #[.agg #[.int .i64 st, .int .i64 en], .agg #[.int .i64 st', .int .i64 en']] w fun e w' => e = .returned (.bool (lessW st en st' en')) ∧ Below w.heap.size w w' := by
  by_cases h : st = st'
  · have hq : lessW st en st' en' = decide (en < en') := if_pos h
    have HQ := hide hq
    have h' : (st == st') = true := by simpa using h
    clear hq
    go_enter Tryz.func43, Tryz.ntmps43
    go_wp2
    go_ret
    exact ⟨ret_pb (unhide HQ), (belA)⟩
  · have hq : lessW st en st' en' = decide (st < st') := if_neg h
    have HQ := hide hq
    have h' : (st == st') = false := by simpa using h
    clear hq
    go_enter Tryz.func43, Tryz.ntmps43
    go_wp2
    go_ret
    exact ⟨ret_pb (unhide HQ), (belA)⟩

theorem ahead_k {r x : TbR} (h : r.ky = x.ky) : lessW r.st r.en x.st x.en = aheadR r x := by
  unfold lessW
  by_cases h2 : r.st = x.st
  · rw [if_pos h2, aheadR_en h h2]
  · rw [if_neg h2, aheadR_st h h2]

theorem l5ahead_any (r x : TbR) (w : World) : Calls Tryz.prog 32 #[.int .i64 r.ky, .agg #[.int .i64 r.st, .int .i64 r.en], .int .i64 x.ky, .agg #[.int .i64 x.st, .int .i64 x.en]] w fun e w' => e = .returned (.bool (aheadR r x)) ∧ Below w.heap.size w w' := by
  by_cases h : r.ky = x.ky
  · have HQ := hide (ahead_k h).symm
    have h' : (r.ky == x.ky) = true := by simpa using h
    go_enter Tryz.func32, Tryz.ntmps32
    go_wp2_with (go_at_call 43; refine (l2less_any _ _ _ _ _).mono ?_; rintro e w' ⟨rfl, hb⟩)
    go_ret
    exact ⟨ret_pb (unhide HQ), (belA)⟩
  · have HQ := hide (aheadR_ky h)
    have h' : (r.ky == x.ky) = false := by simpa using h
    go_enter Tryz.func32, Tryz.ntmps32
    go_wp2
    go_ret
    exact ⟨ret_pb (unhide HQ), (belA)⟩

/-- A row put in its place. -/
def insR (r : TbR) (xs : List TbR) : List TbR := match xs with
  | [] => [r]
  | x :: xs => if aheadR r x then r :: x :: xs else x :: insR r xs

theorem insR_len (r : TbR) (xs : List TbR) : (insR r xs).length = xs.length + 1 := by
  induction xs with
  | nil => rfl
  | cons x xs ih => unfold insR; split <;> simp [ih]

/-- How far one has come: what is laid out already. -/
def PutAt (r : TbR) (xs : List TbR) (k : Nat) (ys : List TbR) : Bool → Prop
  | true => ys ++ xs.drop k = insR r xs ∧ ys.length = k + 1
  | false => ys = xs.take k ∧ xs.take k ++ insR r (xs.drop k) = insR r xs ∧ ys.length = k

theorem putAt_start (r : TbR) (xs : List TbR) : PutAt r xs 0 [] false := ⟨rfl, by simp, rfl⟩

theorem drop_at {xs : List TbR} {k : Nat} {x : TbR} (h : xs[k]? = some x) : xs.drop k = x :: xs.drop (k + 1) := by
  obtain ⟨hk, he⟩ := List.getElem?_eq_some_iff.1 h
  rw [List.drop_eq_getElem_cons hk, he]

theorem putAt_done {r x : TbR} {xs ys : List TbR} {k : Nat} (hx : xs[k]? = some x) (h : PutAt r xs k ys true) : PutAt r xs (k + 1) (ys ++ [x]) true := by
  refine ⟨?_, by simp [h.2]⟩
  rw [← h.1, drop_at hx]; simp

theorem putAt_now {r x : TbR} {xs ys : List TbR} {k : Nat} (hx : xs[k]? = some x) (ha : aheadR r x = true) (h : PutAt r xs k ys false) : PutAt r xs (k + 1) ((ys ++ [r]) ++ [x]) true := by
  refine ⟨?_, by simp [h.2.2]⟩
  rw [← h.2.1, drop_at hx, h.1]
  simp [insR, ha]

theorem putAt_on {r x : TbR} {xs ys : List TbR} {k : Nat} (hx : xs[k]? = some x) (ha : aheadR r x = false) (h : PutAt r xs k ys false) : PutAt r xs (k + 1) (ys ++ [x]) false := by
  have e : xs.take (k + 1) = xs.take k ++ [x] := take_snocT hx
  refine ⟨by rw [e, h.1], ?_, by simp [h.2.2]⟩
  rw [e, ← h.2.1, drop_at hx]
  simp [insR, ha]

theorem putAt_end1 {r : TbR} {xs ys : List TbR} {k : Nat} (hk : xs.length ≤ k) (h : PutAt r xs k ys true) : ys = insR r xs := by
  rw [← h.1, List.drop_of_length_le hk, List.append_nil]

theorem putAt_end0 {r : TbR} {xs ys : List TbR} {k : Nat} (hk : xs.length ≤ k) (h : PutAt r xs k ys false) : ys ++ [r] = insR r xs := by
  rw [← h.2.1, List.drop_of_length_le hk, h.1]; rfl

theorem putAt_len {r : TbR} {xs ys : List TbR} {k : Nat} {d : Bool} (h : PutAt r xs k ys d) : ys.length ≤ k + 1 := by
  cases d
  · have := h.2.2; omega
  · have := h.2; omega
end Go.Proofs.YtikidpcgnmffcaaGreat
namespace Go.Proofs.YtikidpcgnmffcaaGreat
open Go.ChangeShapes Go.WideShapes Go.ChangeAt Go.RowKit
set_option linter.unusedVariables false

theorem ownBel {W W' : World} {B : Nat} {e : TypeId} {size n : Nat} {v : Value} {xs : List Value} (h : W.ownsRow B e size v n xs) (hb : Below W.heap.size W W') : W'.ownsRow B e size v n xs := by
  rcases h with ⟨hl, h | ⟨g, cap, cur, hv, hB, hblk, r⟩⟩
  · exact ⟨hl, Or.inl h⟩
  · exact ⟨hl, Or.inr ⟨g, cap, cur, hv, hB, (hb.block g (Array.getElem?_eq_some_iff.1 hblk).1).trans hblk, r⟩⟩

theorem belDrew {B : Nat} {W W' : World} (h : Below B W W') (n : Nat) : Below B W (W'.drewN n) := h.trans ⟨rfl, rfl, rfl, Nat.le_refl _, fun _ _ => rfl⟩

theorem ownLit {W : World} {B g : Nat} (ty k : Nat) (h : B ≤ W.heap.size) (hg : g = W.heap.size) : (W.alloc (.cells #[] ty)).ownsRow B ty k (.slice (some ⟨g, 0, none⟩) 0 0) 0 [] := by
  subst hg
  exact World.ownsRow_lit (base := B) (size := k) W #[] 0 h (Nat.zero_le _) (by simp)
end Go.Proofs.YtikidpcgnmffcaaGreat
namespace Go.Proofs.YtikidpcgnmffcaaGreat
open Go.ChangeShapes Go.WideShapes Go.ChangeAt Go.RowKit
set_option linter.unusedVariables false

theorem isTb_t {ky st en : Int} {x : TbR} (h1 : x.ky = ky) (h2 : x.st = st) (h3 : x.en = en) : x.isB ky st en = true := isB_t h1 h2 h3

theorem isTb_1 {ky st en : Int} {x : TbR} (h1 : ¬ x.ky = ky) : x.isB ky st en = false := isB_1 h1

theorem isTb_2 {ky st en : Int} {x : TbR} (h1 : ¬ x.st = st) : x.isB ky st en = false := isB_2 h1

theorem isTb_3 {ky st en : Int} {x : TbR} (h1 : ¬ x.en = en) : x.isB ky st en = false := isB_3 h1

theorem take_snocTb {α : Type} {xs : List α} {k : Nat} {x : α} (h : xs[k]? = some x) : xs.take (k + 1) = xs.take k ++ [x] := take_snocT h

/-- The rows that are kept. -/
def kpTb (ky st en : Int) (xs : List TbR) : List TbR := xs.filter fun x => !TbR.isB ky st en x

theorem kpTb_in {ky st en : Int} {xs : List TbR} {k : Nat} {x : TbR} (h : xs[k]? = some x) (hb : x.isB ky st en = false) : kpTb ky st en (xs.take (k + 1)) = kpTb ky st en (xs.take k) ++ [x] := by
  unfold kpTb
  rw [take_snocTb h, List.filter_append]
  simp [hb]

theorem kpTb_no {ky st en : Int} {xs : List TbR} {k : Nat} {x : TbR} (h : xs[k]? = some x) (hb : x.isB ky st en = true) : kpTb ky st en (xs.take (k + 1)) = kpTb ky st en (xs.take k) := by
  unfold kpTb
  rw [take_snocTb h, List.filter_append]
  simp [hb]

theorem kpTb_len (ky st en : Int) (xs : List TbR) (k : Nat) : (kpTb ky st en (xs.take k)).length ≤ k := Nat.le_trans (List.length_filter_le _ _) (List.length_take_le _ _)

theorem kpTb_le (ky st en : Int) (xs : List TbR) : (kpTb ky st en xs).length ≤ xs.length := List.length_filter_le _ _

theorem keepTb {ky st en : Int} {xs : List TbR} {k : Nat} {x : TbR} {w1 : World} {B : Nat} {v' : Value} (h : xs[k]? = some x) (hb : x.isB ky st en = false) (ho : w1.ownsRow B 53 7 v' ((kpTb ky st en (xs.take k)).length + 1) (flatTb (kpTb ky st en (xs.take k)) ++ x.cells)) : OwnTb w1 B v' (kpTb ky st en (xs.take (k + 1))) := by
  rw [kpTb_in h hb]
  exact ownTb_snoc ho

theorem skipTb {ky st en : Int} {xs : List TbR} {k : Nat} {x : TbR} {w1 : World} {B : Nat} {v' : Value} (h : xs[k]? = some x) (hb : x.isB ky st en = true) (ho : OwnTb w1 B v' (kpTb ky st en (xs.take k))) : OwnTb w1 B v' (kpTb ky st en (xs.take (k + 1))) := by
  rw [kpTb_no h hb]
  exact ho

set_option maxRecDepth 20000 in
set_option maxHeartbeats 1000000 in
theorem specTabOut_any (a : Option Addr) (len cap : Nat) (xs : List TbR) (ky st en : Int) (w : World) (h : TbRs w a len xs) (hl : len ≤ 1048576) : Calls Tryz.prog 31 #[.slice a len cap, .int .i64 ky, .agg #[.int .i64 st, .int .i64 en]] w fun e w' => ∃ v, e = .returned v ∧ OwnTb w' w.heap.size v (kpTb ky st en xs) ∧ Below w.heap.size w w' := by
  have hm := h.2.1
  unfold maxLen at hm
  obtain ⟨i0, hi, hz0, hz1, hz2⟩ := info_parts Tryz.infoTb
  go_enter Tryz.func31, Tryz.ntmps31
  go_wp2
  go_loopw [7, 8] (fun v' i wr => ∃ k : Nat, k ≤ len ∧ i = .int .i64 k ∧ OwnTb wr (w.heap.size + 1) v' (kpTb ky st en (xs.take k)) ∧ Below (w.heap.size + 1) (w.alloc (.cells #[.int .i64 st, .int .i64 en] 42)) wr) (fun _ i _ => len - (intOf i).toNat)
  case atStart => exact ⟨0, Nat.zero_le _, rfl, ownLit (W := (w.alloc (.cells #[.int .i64 st, .int .i64 en] 42))) (B := w.heap.size + 1) _ _ (by simp) (by simp), (Below.refl (w.heap.size + 1) (w.alloc (.cells #[.int .i64 st, .int .i64 en] 42))).alloc (by simp) _⟩
  case round =>
    obtain ⟨k, hk, rfl, hO, hbw⟩ := hrel
    have hb0 : Below w.heap.size w wr := bel_trans (bel_one _ _) (by simpa using hbw)
    have c0 : wr.cell? ⟨w.heap.size, 0, none⟩ = some (.int .i64 st) := (hbw.cell (p := ⟨w.heap.size, 0, none⟩) (by simp)).trans (by simp [go_sem])
    have c1 : wr.cell? ⟨w.heap.size, 1, none⟩ = some (.int .i64 en) := (hbw.cell (p := ⟨w.heap.size, 1, none⟩) (by simp)).trans (by simp [go_sem])
    have hkl := kpTb_len ky st en xs k
    have HO := hide hO
    have hge := hide (ownTb_ge hO)
    clear hO
    by_cases hlt : k < len
    · obtain ⟨hxl, _, hx⟩ := h
      obtain ⟨g, o, rfl, hr⟩ := hx.resolve_left (by omega)
      obtain ⟨x, hxk⟩ : ∃ x, xs[k]? = some x := ⟨_, List.getElem?_eq_getElem (by omega)⟩
      have hg : g < w.heap.size := hr.lt (by omega)
      have hX := hide hxk
      obtain ⟨d0, d1, d2, d3, d4, d5, d6⟩ := (hr k _ hxk).below hb0 hg
      have hgw : g < wr.heap.size := Nat.lt_of_lt_of_le hg hb0.size
      clear hx hxk hr
      by_cases k1 : x.ky = ky
      · by_cases k2 : x.st = st
        · by_cases k3 : x.en = en
          · have hB := isTb_t k1 k2 k3
            have HB := hide hB
            clear hB
            go_wp2
            go_quiet (fail)
            have hq1 := belDrew hbw nq
            have HO1 := hide (ownBel (unhide HO) (bel_drewN (Below.refl _ _) nq))
            have D0 : (wr.drewN nq).cell? ⟨g, o + k * 7, none⟩ = some (.int .i64 x.ky) := (bel_drewN (Below.refl _ wr) nq).cell (p := ⟨g, _, none⟩) hgw |>.trans d0
            have D1 : (wr.drewN nq).cell? ⟨g, o + k * 7 + 1, none⟩ = some (.int .i64 x.st) := (bel_drewN (Below.refl _ wr) nq).cell (p := ⟨g, _, none⟩) hgw |>.trans d1
            have D2 : (wr.drewN nq).cell? ⟨g, o + k * 7 + 2, none⟩ = some (.int .i64 x.en) := (bel_drewN (Below.refl _ wr) nq).cell (p := ⟨g, _, none⟩) hgw |>.trans d2
            have D3 : (wr.drewN nq).cell? ⟨g, o + k * 7 + 3, none⟩ = some (.int .i64 x.n) := (bel_drewN (Below.refl _ wr) nq).cell (p := ⟨g, _, none⟩) hgw |>.trans d3
            have D4 : (wr.drewN nq).cell? ⟨g, o + k * 7 + 4, none⟩ = some (.int .i64 x.su) := (bel_drewN (Below.refl _ wr) nq).cell (p := ⟨g, _, none⟩) hgw |>.trans d4
            have D5 : (wr.drewN nq).cell? ⟨g, o + k * 7 + 5, none⟩ = some (.int .i64 x.le) := (bel_drewN (Below.refl _ wr) nq).cell (p := ⟨g, _, none⟩) hgw |>.trans d5
            have D6 : (wr.drewN nq).cell? ⟨g, o + k * 7 + 6, none⟩ = some (.int .i64 x.mo) := (bel_drewN (Below.refl _ wr) nq).cell (p := ⟨g, _, none⟩) hgw |>.trans d6
            clear HO hbw hb0 c0 c1 d0 d1 d2 d3 d4 d5 d6
            try clear k1
            try clear k2
            try clear k3
            try clear k1'
            try clear k2'
            try clear k3'
            generalize wr.drewN nq = wq at hq1 HO1 D0 D1 D2 D3 D4 D5 D6 ⊢
            have hws : w.heap.size + 1 ≤ wq.heap.size := by have := hq1.size; simpa using this
            go_wp2
            go_roundw
            case rel => exact ⟨k + 1, by omega, by go_num, skipTb (unhide hX) (unhide HB) (unhide HO1), hq1⟩
            case measure => simp [intOf]; omega
          · have hB := isTb_3 (ky := ky) (st := st) k3
            have k3' : (x.en == en) = false := by simpa using k3
            have HB := hide hB
            clear hB
            go_wp2
            go_quiet (fail)
            have hq1 := belDrew hbw nq
            have HO1 := hide (ownBel (unhide HO) (bel_drewN (Below.refl _ _) nq))
            have D0 : (wr.drewN nq).cell? ⟨g, o + k * 7, none⟩ = some (.int .i64 x.ky) := (bel_drewN (Below.refl _ wr) nq).cell (p := ⟨g, _, none⟩) hgw |>.trans d0
            have D1 : (wr.drewN nq).cell? ⟨g, o + k * 7 + 1, none⟩ = some (.int .i64 x.st) := (bel_drewN (Below.refl _ wr) nq).cell (p := ⟨g, _, none⟩) hgw |>.trans d1
            have D2 : (wr.drewN nq).cell? ⟨g, o + k * 7 + 2, none⟩ = some (.int .i64 x.en) := (bel_drewN (Below.refl _ wr) nq).cell (p := ⟨g, _, none⟩) hgw |>.trans d2
            have D3 : (wr.drewN nq).cell? ⟨g, o + k * 7 + 3, none⟩ = some (.int .i64 x.n) := (bel_drewN (Below.refl _ wr) nq).cell (p := ⟨g, _, none⟩) hgw |>.trans d3
            have D4 : (wr.drewN nq).cell? ⟨g, o + k * 7 + 4, none⟩ = some (.int .i64 x.su) := (bel_drewN (Below.refl _ wr) nq).cell (p := ⟨g, _, none⟩) hgw |>.trans d4
            have D5 : (wr.drewN nq).cell? ⟨g, o + k * 7 + 5, none⟩ = some (.int .i64 x.le) := (bel_drewN (Below.refl _ wr) nq).cell (p := ⟨g, _, none⟩) hgw |>.trans d5
            have D6 : (wr.drewN nq).cell? ⟨g, o + k * 7 + 6, none⟩ = some (.int .i64 x.mo) := (bel_drewN (Below.refl _ wr) nq).cell (p := ⟨g, _, none⟩) hgw |>.trans d6
            clear HO hbw hb0 c0 c1 d0 d1 d2 d3 d4 d5 d6
            try clear k1
            try clear k2
            try clear k3
            try clear k1'
            try clear k2'
            try clear k3'
            generalize wr.drewN nq = wq at hq1 HO1 D0 D1 D2 D3 D4 D5 D6 ⊢
            have hws : w.heap.size + 1 ≤ wq.heap.size := by have := hq1.size; simpa using this
            go_wp2_with (at_builtin; go_loud (refine wpList_append_own _ rfl _ _ 26 rfl (w.heap.size + 1) 53 i0 _ 7 56 Tryz.underlying26 hi hz0 hz1 hz2 rfl (by decide) u7 _ _ rfl (World.ownsRow.alloc (unhide HO1) _) ⟨wq.heap.size, 0, none⟩ 1 1 [.int .i64 x.ky, .int .i64 x.st, .int .i64 x.en, .int .i64 x.n, .int .i64 x.su, .int .i64 x.le, .int .i64 x.mo] rfl rfl (cells_newTb wq x.ky x.st x.en x.n x.su x.le x.mo _) (by simp [Value.oneCell']) (by unfold maxLen; omega) (by omega) (by have := hq1.size; simp at this ⊢; omega) ?_); intro v' w1 hown' hgrow _)
            have hb1 := (hq1.alloc hws _).grown hgrow (by simp; omega) (unhide hge)
            go_roundw
            case rel => exact ⟨k + 1, by omega, by go_num, keepTb (unhide hX) (unhide HB) hown', hb1⟩
            case measure => simp [intOf]; omega
        · have hB := isTb_2 (ky := ky) (en := en) k2
          have k2' : (x.st == st) = false := by simpa using k2
          have HB := hide hB
          clear hB
          go_wp2
          go_quiet (fail)
          have hq1 := belDrew hbw nq
          have HO1 := hide (ownBel (unhide HO) (bel_drewN (Below.refl _ _) nq))
          have D0 : (wr.drewN nq).cell? ⟨g, o + k * 7, none⟩ = some (.int .i64 x.ky) := (bel_drewN (Below.refl _ wr) nq).cell (p := ⟨g, _, none⟩) hgw |>.trans d0
          have D1 : (wr.drewN nq).cell? ⟨g, o + k * 7 + 1, none⟩ = some (.int .i64 x.st) := (bel_drewN (Below.refl _ wr) nq).cell (p := ⟨g, _, none⟩) hgw |>.trans d1
          have D2 : (wr.drewN nq).cell? ⟨g, o + k * 7 + 2, none⟩ = some (.int .i64 x.en) := (bel_drewN (Below.refl _ wr) nq).cell (p := ⟨g, _, none⟩) hgw |>.trans d2
          have D3 : (wr.drewN nq).cell? ⟨g, o + k * 7 + 3, none⟩ = some (.int .i64 x.n) := (bel_drewN (Below.refl _ wr) nq).cell (p := ⟨g, _, none⟩) hgw |>.trans d3
          have D4 : (wr.drewN nq).cell? ⟨g, o + k * 7 + 4, none⟩ = some (.int .i64 x.su) := (bel_drewN (Below.refl _ wr) nq).cell (p := ⟨g, _, none⟩) hgw |>.trans d4
          have D5 : (wr.drewN nq).cell? ⟨g, o + k * 7 + 5, none⟩ = some (.int .i64 x.le) := (bel_drewN (Below.refl _ wr) nq).cell (p := ⟨g, _, none⟩) hgw |>.trans d5
          have D6 : (wr.drewN nq).cell? ⟨g, o + k * 7 + 6, none⟩ = some (.int .i64 x.mo) := (bel_drewN (Below.refl _ wr) nq).cell (p := ⟨g, _, none⟩) hgw |>.trans d6
          clear HO hbw hb0 c0 c1 d0 d1 d2 d3 d4 d5 d6
          try clear k1
          try clear k2
          try clear k3
          try clear k1'
          try clear k2'
          try clear k3'
          generalize wr.drewN nq = wq at hq1 HO1 D0 D1 D2 D3 D4 D5 D6 ⊢
          have hws : w.heap.size + 1 ≤ wq.heap.size := by have := hq1.size; simpa using this
          go_wp2_with (at_builtin; go_loud (refine wpList_append_own _ rfl _ _ 26 rfl (w.heap.size + 1) 53 i0 _ 7 56 Tryz.underlying26 hi hz0 hz1 hz2 rfl (by decide) u7 _ _ rfl (World.ownsRow.alloc (unhide HO1) _) ⟨wq.heap.size, 0, none⟩ 1 1 [.int .i64 x.ky, .int .i64 x.st, .int .i64 x.en, .int .i64 x.n, .int .i64 x.su, .int .i64 x.le, .int .i64 x.mo] rfl rfl (cells_newTb wq x.ky x.st x.en x.n x.su x.le x.mo _) (by simp [Value.oneCell']) (by unfold maxLen; omega) (by omega) (by have := hq1.size; simp at this ⊢; omega) ?_); intro v' w1 hown' hgrow _)
          have hb1 := (hq1.alloc hws _).grown hgrow (by simp; omega) (unhide hge)
          go_roundw
          case rel => exact ⟨k + 1, by omega, by go_num, keepTb (unhide hX) (unhide HB) hown', hb1⟩
          case measure => simp [intOf]; omega
      · have hB := isTb_1 (st := st) (en := en) k1
        have k1' : (x.ky == ky) = false := by simpa using k1
        have HB := hide hB
        clear hB
        go_wp2
        go_quiet (fail)
        have hq1 := belDrew hbw nq
        have HO1 := hide (ownBel (unhide HO) (bel_drewN (Below.refl _ _) nq))
        have D0 : (wr.drewN nq).cell? ⟨g, o + k * 7, none⟩ = some (.int .i64 x.ky) := (bel_drewN (Below.refl _ wr) nq).cell (p := ⟨g, _, none⟩) hgw |>.trans d0
        have D1 : (wr.drewN nq).cell? ⟨g, o + k * 7 + 1, none⟩ = some (.int .i64 x.st) := (bel_drewN (Below.refl _ wr) nq).cell (p := ⟨g, _, none⟩) hgw |>.trans d1
        have D2 : (wr.drewN nq).cell? ⟨g, o + k * 7 + 2, none⟩ = some (.int .i64 x.en) := (bel_drewN (Below.refl _ wr) nq).cell (p := ⟨g, _, none⟩) hgw |>.trans d2
        have D3 : (wr.drewN nq).cell? ⟨g, o + k * 7 + 3, none⟩ = some (.int .i64 x.n) := (bel_drewN (Below.refl _ wr) nq).cell (p := ⟨g, _, none⟩) hgw |>.trans d3
        have D4 : (wr.drewN nq).cell? ⟨g, o + k * 7 + 4, none⟩ = some (.int .i64 x.su) := (bel_drewN (Below.refl _ wr) nq).cell (p := ⟨g, _, none⟩) hgw |>.trans d4
        have D5 : (wr.drewN nq).cell? ⟨g, o + k * 7 + 5, none⟩ = some (.int .i64 x.le) := (bel_drewN (Below.refl _ wr) nq).cell (p := ⟨g, _, none⟩) hgw |>.trans d5
        have D6 : (wr.drewN nq).cell? ⟨g, o + k * 7 + 6, none⟩ = some (.int .i64 x.mo) := (bel_drewN (Below.refl _ wr) nq).cell (p := ⟨g, _, none⟩) hgw |>.trans d6
        clear HO hbw hb0 c0 c1 d0 d1 d2 d3 d4 d5 d6
        try clear k1
        try clear k2
        try clear k3
        try clear k1'
        try clear k2'
        try clear k3'
        generalize wr.drewN nq = wq at hq1 HO1 D0 D1 D2 D3 D4 D5 D6 ⊢
        have hws : w.heap.size + 1 ≤ wq.heap.size := by have := hq1.size; simpa using this
        go_wp2_with (at_builtin; go_loud (refine wpList_append_own _ rfl _ _ 26 rfl (w.heap.size + 1) 53 i0 _ 7 56 Tryz.underlying26 hi hz0 hz1 hz2 rfl (by decide) u7 _ _ rfl (World.ownsRow.alloc (unhide HO1) _) ⟨wq.heap.size, 0, none⟩ 1 1 [.int .i64 x.ky, .int .i64 x.st, .int .i64 x.en, .int .i64 x.n, .int .i64 x.su, .int .i64 x.le, .int .i64 x.mo] rfl rfl (cells_newTb wq x.ky x.st x.en x.n x.su x.le x.mo _) (by simp [Value.oneCell']) (by unfold maxLen; omega) (by omega) (by have := hq1.size; simp at this ⊢; omega) ?_); intro v' w1 hown' hgrow _)
        have hb1 := (hq1.alloc hws _).grown hgrow (by simp; omega) (unhide hge)
        go_roundw
        case rel => exact ⟨k + 1, by omega, by go_num, keepTb (unhide hX) (unhide HB) hown', hb1⟩
        case measure => simp [intOf]; omega

    · have HQ : Hid (kpTb ky st en (xs.take k) = kpTb ky st en xs) := hide (by rw [List.take_of_length_le (by have := h.1; omega)])
      go_wp2
      go_ret
      refine ⟨_, rfl, ?_, hb0⟩
      rw [← unhide HQ]
      exact World.ownsRow.mono (unhide HO) (by omega)
end Go.Proofs.YtikidpcgnmffcaaGreat
namespace Go.Proofs.YtikidpcgnmffcaaGreat
open Go.ChangeShapes Go.WideShapes Go.ChangeAt Go.RowKit
set_option linter.unusedVariables false

theorem step_append_at {P : Program} {ops : Array Oper} {o : Oper} {a : Act} {w : World} {K : Act → World → Prop} {Q : Exit → Act → World → Prop} {E : Prop}
    (hg : o.guard = none) (s x : Operand) (t : TypeId) (hop : o.op = Op.call { callee := Callee.builtin Builtin.append, args := #[s, x], argTypes := #[t, t] }) (base : Nat)
    (e : TypeId) (i : TypeInfo) (z : Value) (size bytes : Nat) (h1 : P.underlying t = some (.slice e)) (h2 : P.info? e = some i) (h3 : i.zero = some z) (h4 : i.size = size) (h5 : i.bytes = bytes) (h6 : z.cells.size = size) (h7 : 0 < size)
    (v : Value) (n : Nat) (xs : List Value) (hs : a.eval s = v) (hown : w.ownsRow base e size v n xs)
    (ad : Addr) (m c : Nat) (news : List Value) (hx : a.eval x = .slice (some ad) m c) (hn : news.length = m * size) (hc : ∀ j u, news[j]? = some u → w.cell? (ad.add j) = some u) (h1c : ∀ u ∈ news, u.oneCell' = true)
    (b1 : n + m ≤ maxLen) (b2 : (n + m) * bytes ≤ 140737488355328) (hbase : base ≤ w.heap.size)
    (hK : ∀ v' w', w'.ownsRow base e size v' (n + m) (xs ++ news) → w.grownBy w' v.ownBlock → (v'.ownBlock = v.ownBlock ∨ v'.ownBlock = some w.heap.size) → K (a.put o.dst v') w') :
    if Region.wanted o (yielded ops a.tmps) = true then Oper.wp P o a w K Q else E := by
  have hw : Region.wanted o (yielded ops a.tmps) = true := by simp [Region.wanted, hg]
  rw [if_pos hw]
  obtain ⟨v', w', hrun, r1, r2, _, r3⟩ := run_append_own_at (P := P) (w := w) base t o.type e i z size bytes h1 h2 h3 h4 h5 h6 h7 v n xs hown ad m c news hn hc h1c b1 b2 hbase
  unfold Oper.wp
  simp [execOp, hop, resolve, invoke, builtin, hs, hx, hrun, Result.andThen]
  exact hK v' w' r1 r2 r3

theorem own_lt {W : World} {B : Nat} {e : TypeId} {size n : Nat} {v : Value} {xs : List Value} (h : W.ownsRow B e size v n xs) : ∀ k, v.ownBlock = some k → k < W.heap.size := by
  intro k hk
  rcases h.2 with ⟨rfl, _⟩ | ⟨g, cap, cur, rfl, hg, hblk, _⟩
  · cases hk
  · simp [Value.ownBlock] at hk
    subst hk
    exact (Array.getElem?_eq_some_iff.1 hblk).1
end Go.Proofs.YtikidpcgnmffcaaGreat
namespace Go.Proofs.YtikidpcgnmffcaaGreat
open Go.ChangeShapes Go.WideShapes Go.ChangeAt Go.RowKit
set_option linter.unusedVariables false

/-- Rows that stay while another row grows. -/
def RestAt (W : World) (al : Option Addr) (v : Value) (zs : List TbR) : Prop := ∀ g o, 0 < zs.length → al = some ⟨g, o, none⟩ → TbRsAt W g o zs ∧ g < W.heap.size ∧ ∀ q, v.ownBlock = some q → q ≠ g

theorem put_carry {W0 wl w1 : World} {B g o : Nat} {u v' : Value} {zs : List TbR} {ob : Obj} (hq : Below B W0 wl) (hge : ∀ k, u.ownBlock = some k → B ≤ k) (hB : B ≤ wl.heap.size) (hr : TbRsAt wl g o zs) (hg : g < wl.heap.size) (hne : ∀ q, u.ownBlock = some q → q ≠ g) (hgrow : (wl.alloc ob).grownBy w1 u.ownBlock) (hblk : v'.ownBlock = u.ownBlock ∨ v'.ownBlock = some (wl.alloc ob).heap.size) : Below B W0 w1 ∧ TbRsAt w1 g o zs ∧ g < w1.heap.size ∧ (∀ q, v'.ownBlock = some q → q ≠ g) := by
  have hsz : wl.heap.size + 1 ≤ w1.heap.size := by have := hgrow.size; simpa using this
  refine ⟨(hq.alloc hB _).grown hgrow (by simp; omega) hge, fun i x hx => ((hr i x hx).below (bel_alloc (Below.refl _ _) _) hg).grown hgrow (fun e => hne g e.symm rfl), by omega, fun q hq' => ?_⟩
  rcases hblk with e | e
  · exact hne q (by rw [← e]; exact hq')
  · rw [e] at hq'
    simp at hq'
    omega

theorem put_size {W0 wl : World} {B : Nat} (h : Below B W0 wl) (hB : B ≤ W0.heap.size) : B ≤ wl.heap.size := Nat.le_trans hB h.size

theorem put_none {W0 wl w1 : World} {B : Nat} {u : Value} {ob : Obj} (hq : Below B W0 wl) (hge : ∀ k, u.ownBlock = some k → B ≤ k) (hB : B ≤ wl.heap.size) (hgrow : (wl.alloc ob).grownBy w1 u.ownBlock) : Below B W0 w1 := (hq.alloc hB _).grown hgrow (by simp; omega) hge

theorem rest_mk {W : World} {g o : Nat} {v : Value} {zs : List TbR} (h1 : TbRsAt W g o zs) (h2 : g < W.heap.size) (h3 : ∀ q, v.ownBlock = some q → q ≠ g) : RestAt W (some ⟨g, o, none⟩) v zs := fun g' o' _ e => by cases e; exact ⟨h1, h2, h3⟩

set_option maxRecDepth 20000 in
set_option maxHeartbeats 2000000 in
theorem specput_any (r : TbR) (a : Option Addr) (len cap : Nat) (xs : List TbR) (w : World) (h : TbRs w a len xs) (hl : len ≤ 1048576) : Calls Tryz.prog 17 #[.slice a len cap, .agg #[.int .i64 r.ky, .int .i64 r.st, .int .i64 r.en, .int .i64 r.n, .int .i64 r.su, .int .i64 r.le, .int .i64 r.mo]] w fun e w' => ∃ v, e = .returned v ∧ OwnTb w' w.heap.size v (insR r (kpTb r.ky r.st r.en xs)) ∧ Below w.heap.size w w' := by
  have hkl := Nat.le_trans (kpTb_le r.ky r.st r.en xs) (Nat.le_of_eq h.1)
  obtain ⟨i0, hi, hz0, hz1, hz2⟩ := info_parts Tryz.infoTb
  go_enter Tryz.func17, Tryz.ntmps17
  go_wp2_with fail
  refine (specTabOut_any a len cap xs r.ky r.st r.en _ (h.below (bel_one _ _)) (by omega)).mono ?_
  rintro e' wa ⟨va, rfl, hOa, hba⟩
  generalize hZ : kpTb r.ky r.st r.en xs = zs at hkl hOa
  have HZ := hide hZ
  clear hZ
  have hbA : Below (w.heap.size + 1) (w.alloc (.cells #[.int .i64 r.ky, .int .i64 r.st, .int .i64 r.en, .int .i64 r.n, .int .i64 r.su, .int .i64 r.le, .int .i64 r.mo] 53)) wa := by simpa using hba
  obtain ⟨al, capl, rfl, HL0, _, gel⟩ := holdTb hOa (by omega)
  have hsh : 0 < zs.length → ∃ g o, al = some ⟨g, o, none⟩ := fun hp => by
    obtain ⟨_, _, hx⟩ := HL0
    obtain ⟨g, o, e, _⟩ := hx.resolve_left (by omega)
    exact ⟨g, o, e⟩
  have hsa : w.heap.size + 1 ≤ wa.heap.size := by have := hbA.size; simpa using this
  have HR0 : RestAt (wa.alloc (.cells #[] 53)) al (.slice (some ⟨wa.heap.size, 0, none⟩) 0 0) zs := fun g o hp e => by
    subst e
    obtain ⟨_, _, hx⟩ := HL0
    obtain ⟨g', o', e, hr⟩ := hx.resolve_left (by omega)
    cases e
    have hg := hr.lt hp
    exact ⟨hr.below (bel_one _ _) (fun _ => hg), by simp; omega, fun q hq => by simp [Value.ownBlock] at hq; omega⟩
  clear HL0 gel hOa
  go_wp2
  go_loopw [6, 7, 8] (fun v' dv iv wr => ∃ (d : Bool) (k : Nat) (ys : List TbR), k ≤ zs.length ∧ dv = .bool d ∧ iv = .int .i64 k ∧ OwnTb wr (w.heap.size + 1) v' ys ∧ Hid (PutAt r zs k ys d) ∧ Hid (RestAt wr al v' zs) ∧ Below (w.heap.size + 1) (w.alloc (.cells #[.int .i64 r.ky, .int .i64 r.st, .int .i64 r.en, .int .i64 r.n, .int .i64 r.su, .int .i64 r.le, .int .i64 r.mo] 53)) wr) (fun _ _ iv _ => zs.length - (intOf iv).toNat)
  case atStart => exact ⟨false, 0, [], Nat.zero_le _, rfl, rfl, ownLit (W := wa) (B := w.heap.size + 1) _ _ (by first | omega | simp) (by first | omega | simp), hide (putAt_start _ _), hide HR0, hbA.alloc hsa _⟩
  case round =>
    obtain ⟨d, k, ys, hk, rfl, rfl, hO, HP, HR, hbw⟩ := hrel
    have hb0 : Below w.heap.size w wr := bel_trans (bel_one _ _) (by simpa using hbw)
    have hwr : w.heap.size + 1 ≤ wr.heap.size := by have := hbw.size; simpa using this
    have hyl := putAt_len (unhide HP)
    have HO := hide hO
    have hge := hide (ownTb_ge hO)
    clear hO
    by_cases hlt : k < zs.length
    · obtain ⟨g, o, rfl⟩ := hsh (by omega)
      obtain ⟨hr, hg, hne⟩ := unhide HR g o (by omega) rfl
      have HRr := hide hr
      have HNE := hide hne
      obtain ⟨x, hxk⟩ : ∃ x, zs[k]? = some x := ⟨_, List.getElem?_eq_getElem hlt⟩
      have hX := hide hxk
      have HS : ((wr.cell? ⟨w.heap.size, 0, none⟩ = some (.int .i64 r.ky) ∧ wr.cell? ⟨w.heap.size, 1, none⟩ = some (.int .i64 r.st) ∧ wr.cell? ⟨w.heap.size, 2, none⟩ = some (.int .i64 r.en) ∧ wr.cell? ⟨w.heap.size, 3, none⟩ = some (.int .i64 r.n) ∧ wr.cell? ⟨w.heap.size, 4, none⟩ = some (.int .i64 r.su) ∧ wr.cell? ⟨w.heap.size, 5, none⟩ = some (.int .i64 r.le) ∧ wr.cell? ⟨w.heap.size, 6, none⟩ = some (.int .i64 r.mo) ∧ wr.cell? ⟨g, o + k * 7, none⟩ = some (.int .i64 x.ky) ∧ wr.cell? ⟨g, o + k * 7 + 1, none⟩ = some (.int .i64 x.st) ∧ wr.cell? ⟨g, o + k * 7 + 2, none⟩ = some (.int .i64 x.en) ∧ wr.cell? ⟨g, o + k * 7 + 3, none⟩ = some (.int .i64 x.n) ∧ wr.cell? ⟨g, o + k * 7 + 4, none⟩ = some (.int .i64 x.su) ∧ wr.cell? ⟨g, o + k * 7 + 5, none⟩ = some (.int .i64 x.le) ∧ wr.cell? ⟨g, o + k * 7 + 6, none⟩ = some (.int .i64 x.mo)) ∧ w.heap.size < wr.heap.size ∧ g < wr.heap.size) := by
        obtain ⟨d0, d1, d2, d3, d4, d5, d6⟩ := hr k _ hxk
        exact ⟨⟨(hbw.cell (p := ⟨w.heap.size, 0, none⟩) (by simp)).trans (by simp [go_sem]), (hbw.cell (p := ⟨w.heap.size, 1, none⟩) (by simp)).trans (by simp [go_sem]), (hbw.cell (p := ⟨w.heap.size, 2, none⟩) (by simp)).trans (by simp [go_sem]), (hbw.cell (p := ⟨w.heap.size, 3, none⟩) (by simp)).trans (by simp [go_sem]), (hbw.cell (p := ⟨w.heap.size, 4, none⟩) (by simp)).trans (by simp [go_sem]), (hbw.cell (p := ⟨w.heap.size, 5, none⟩) (by simp)).trans (by simp [go_sem]), (hbw.cell (p := ⟨w.heap.size, 6, none⟩) (by simp)).trans (by simp [go_sem]), d0, d1, d2, d3, d4, d5, d6⟩, by omega, hg⟩
      clear hr hne hxk HR
      cases d
      · cases hA : aheadR r x
        · go_wp2
          go_region_held3 (fun W => ((W.cell? ⟨w.heap.size, 0, none⟩ = some (.int .i64 r.ky) ∧ W.cell? ⟨w.heap.size, 1, none⟩ = some (.int .i64 r.st) ∧ W.cell? ⟨w.heap.size, 2, none⟩ = some (.int .i64 r.en) ∧ W.cell? ⟨w.heap.size, 3, none⟩ = some (.int .i64 r.n) ∧ W.cell? ⟨w.heap.size, 4, none⟩ = some (.int .i64 r.su) ∧ W.cell? ⟨w.heap.size, 5, none⟩ = some (.int .i64 r.le) ∧ W.cell? ⟨w.heap.size, 6, none⟩ = some (.int .i64 r.mo) ∧ W.cell? ⟨g, o + k * 7, none⟩ = some (.int .i64 x.ky) ∧ W.cell? ⟨g, o + k * 7 + 1, none⟩ = some (.int .i64 x.st) ∧ W.cell? ⟨g, o + k * 7 + 2, none⟩ = some (.int .i64 x.en) ∧ W.cell? ⟨g, o + k * 7 + 3, none⟩ = some (.int .i64 x.n) ∧ W.cell? ⟨g, o + k * 7 + 4, none⟩ = some (.int .i64 x.su) ∧ W.cell? ⟨g, o + k * 7 + 5, none⟩ = some (.int .i64 x.le) ∧ W.cell? ⟨g, o + k * 7 + 6, none⟩ = some (.int .i64 x.mo)) ∧ w.heap.size < W.heap.size ∧ g < W.heap.size)) ((first | ((repeat (first | (with_reducible assumption) | (with_reducible refine hd_7_7 ?_ (by with_reducible assumption)) | (with_reducible refine hd_7_7 ?_ (bel_drew (Below.refl _ _))) | (with_reducible exact hd_7_7_re (by with_reducible assumption) (sB) (sB)) | (with_reducible refine hd_7_7 ?_ (bel_one _ _)) | (with_reducible refine hd_7_7_set ?_ (sB) (sB) _))); done) | (refine ⟨⟨?_, ?_, ?_, ?_, ?_, ?_, ?_, ?_, ?_, ?_, ?_, ?_, ?_, ?_⟩, ?_, ?_⟩ <;> first | (go_keep; done) | (simp; done) | (simp; omega) | omega)))
            (first
            | (go_at_call 32; refine (l5ahead_any r x _).mono ?_; rintro e wl ⟨rfl, hbl⟩; rw [hA]))
          all_goals
            have hbl' : Below wr.heap.size wr wl := (belA)
            have hq1 : Below (w.heap.size + 1) (w.alloc (.cells #[.int .i64 r.ky, .int .i64 r.st, .int .i64 r.en, .int .i64 r.n, .int .i64 r.su, .int .i64 r.le, .int .i64 r.mo] 53)) wl := hbw.trans (hbl'.mono hwr)
            have HO1 := hide (ownBel (unhide HO) hbl')
            have HR1 := hide ((unhide HRr).below hbl' (fun _ => hg))
            have hgl : g < wl.heap.size := Nat.lt_of_lt_of_le hg hbl'.size
            have hws : w.heap.size + 1 ≤ wl.heap.size := Nat.le_trans hwr hbl'.size
            obtain ⟨⟨C0, C1, C2, C3, C4, C5, C6, D0, D1, D2, D3, D4, D5, D6⟩, _, _⟩ := hd_7_7 HS hbl'
            clear HS
            go_wp2_with (at_builtin; go_loud (refine wpList_append_own_at _ rfl _ _ 26 rfl (w.heap.size + 1) 53 i0 _ 7 56 Tryz.underlying26 hi hz0 hz1 hz2 rfl (by decide) u6 _ _ rfl (World.ownsRow.alloc (unhide HO1) _) ⟨wl.heap.size, 0, none⟩ 1 1 [.int .i64 x.ky, .int .i64 x.st, .int .i64 x.en, .int .i64 x.n, .int .i64 x.su, .int .i64 x.le, .int .i64 x.mo] rfl rfl (cells_newTb wl x.ky x.st x.en x.n x.su x.le x.mo _) (by simp [Value.oneCell']) (by unfold maxLen; omega) (by omega) (by simp; omega) ?_); intro v' w1 hown' hgrow _ hblk)
            obtain ⟨hb1, hr1, hg1, hne1⟩ := put_carry hq1 (unhide hge) hws (unhide HR1) hgl (unhide HNE) hgrow hblk
            go_roundw
            case rel => exact ⟨false, k + 1, ys ++ [x], by omega, rfl, by go_num, ownTb_snoc hown', hide (putAt_on (unhide hX) hA (unhide HP)), hide (rest_mk hr1 hg1 hne1), hb1⟩
            case measure => simp [intOf]; omega
        · go_wp2
          go_region_held3 (fun W => ((W.cell? ⟨w.heap.size, 0, none⟩ = some (.int .i64 r.ky) ∧ W.cell? ⟨w.heap.size, 1, none⟩ = some (.int .i64 r.st) ∧ W.cell? ⟨w.heap.size, 2, none⟩ = some (.int .i64 r.en) ∧ W.cell? ⟨w.heap.size, 3, none⟩ = some (.int .i64 r.n) ∧ W.cell? ⟨w.heap.size, 4, none⟩ = some (.int .i64 r.su) ∧ W.cell? ⟨w.heap.size, 5, none⟩ = some (.int .i64 r.le) ∧ W.cell? ⟨w.heap.size, 6, none⟩ = some (.int .i64 r.mo) ∧ W.cell? ⟨g, o + k * 7, none⟩ = some (.int .i64 x.ky) ∧ W.cell? ⟨g, o + k * 7 + 1, none⟩ = some (.int .i64 x.st) ∧ W.cell? ⟨g, o + k * 7 + 2, none⟩ = some (.int .i64 x.en) ∧ W.cell? ⟨g, o + k * 7 + 3, none⟩ = some (.int .i64 x.n) ∧ W.cell? ⟨g, o + k * 7 + 4, none⟩ = some (.int .i64 x.su) ∧ W.cell? ⟨g, o + k * 7 + 5, none⟩ = some (.int .i64 x.le) ∧ W.cell? ⟨g, o + k * 7 + 6, none⟩ = some (.int .i64 x.mo)) ∧ w.heap.size < W.heap.size ∧ g < W.heap.size)) ((first | ((repeat (first | (with_reducible assumption) | (with_reducible refine hd_7_7 ?_ (by with_reducible assumption)) | (with_reducible refine hd_7_7 ?_ (bel_drew (Below.refl _ _))) | (with_reducible exact hd_7_7_re (by with_reducible assumption) (sB) (sB)) | (with_reducible refine hd_7_7 ?_ (bel_one _ _)) | (with_reducible refine hd_7_7_set ?_ (sB) (sB) _))); done) | (refine ⟨⟨?_, ?_, ?_, ?_, ?_, ?_, ?_, ?_, ?_, ?_, ?_, ?_, ?_, ?_⟩, ?_, ?_⟩ <;> first | (go_keep; done) | (simp; done) | (simp; omega) | omega)))
            (first
            | (go_at_call 32; refine (l5ahead_any r x _).mono ?_; rintro e wl ⟨rfl, hbl⟩; rw [hA]))
          all_goals
            have hbl' : Below wr.heap.size wr wl := (belA)
            have hq1 : Below (w.heap.size + 1) (w.alloc (.cells #[.int .i64 r.ky, .int .i64 r.st, .int .i64 r.en, .int .i64 r.n, .int .i64 r.su, .int .i64 r.le, .int .i64 r.mo] 53)) wl := hbw.trans (hbl'.mono hwr)
            have HO1 := hide (ownBel (unhide HO) hbl')
            have HR1 := hide ((unhide HRr).below hbl' (fun _ => hg))
            have hgl : g < wl.heap.size := Nat.lt_of_lt_of_le hg hbl'.size
            have hws : w.heap.size + 1 ≤ wl.heap.size := Nat.le_trans hwr hbl'.size
            obtain ⟨⟨C0, C1, C2, C3, C4, C5, C6, D0, D1, D2, D3, D4, D5, D6⟩, _, _⟩ := hd_7_7 HS hbl'
            clear HS
            have hylv : (ys ++ [r]).length ≤ k + 2 := by rw [List.length_append]; simp; omega
            go_wp2_with (first
              | (at_builtin; go_loud (refine wpList_append_own_at _ rfl _ _ 26 rfl (w.heap.size + 1) 53 i0 _ 7 56 Tryz.underlying26 hi hz0 hz1 hz2 rfl (by decide) u6 _ _ rfl (World.ownsRow.alloc (unhide HO1) _) ⟨wl.heap.size, 0, none⟩ 1 1 [.int .i64 r.ky, .int .i64 r.st, .int .i64 r.en, .int .i64 r.n, .int .i64 r.su, .int .i64 r.le, .int .i64 r.mo] rfl rfl (cells_newTb wl r.ky r.st r.en r.n r.su r.le r.mo _) (by simp [Value.oneCell']) (by unfold maxLen; omega) (by omega) (by simp; omega) ?_); intro vv ww hownv hgrowv _ hblkv; obtain ⟨hbv, hrv, hgv, hnev⟩ := put_carry hq1 (unhide hge) hws (unhide HR1) hgl (unhide HNE) hgrowv hblkv; have hwv : w.heap.size + 1 ≤ ww.heap.size := put_size hbv (by simp); have HOv : Hid (OwnTb ww (w.heap.size + 1) vv (ys ++ [r])) := hide (ownTb_snoc hownv); have hgev := hide (ownTb_ge (unhide HOv)); have HRv := hide hrv; have HNEv := hide hnev; obtain ⟨E0, E1, E2, E3, E4, E5, E6⟩ := hrv k _ (unhide hX); clear hownv hgrowv hblkv hrv hnev)
              | (at_builtin; go_loud (refine wpList_append_own_at _ rfl _ _ 26 rfl (w.heap.size + 1) 53 i0 _ 7 56 Tryz.underlying26 hi hz0 hz1 hz2 rfl (by decide) vv _ _ rfl (World.ownsRow.alloc (unhide HOv) _) ⟨ww.heap.size, 0, none⟩ 1 1 [.int .i64 x.ky, .int .i64 x.st, .int .i64 x.en, .int .i64 x.n, .int .i64 x.su, .int .i64 x.le, .int .i64 x.mo] rfl rfl (cells_newTb ww x.ky x.st x.en x.n x.su x.le x.mo _) (by simp [Value.oneCell']) (by unfold maxLen; omega) (by omega) (by simp; omega) ?_); intro v' w1 hown' hgrow _ hblk))
            obtain ⟨hb1, hr1, hg1, hne1⟩ := put_carry hbv (unhide hgev) hwv (unhide HRv) hgv (unhide HNEv) hgrow hblk
            go_roundw
            case rel => exact ⟨true, k + 1, (ys ++ [r]) ++ [x], by omega, rfl, by go_num, ownTb_snoc hown', hide (putAt_now (unhide hX) hA (unhide HP)), hide (rest_mk hr1 hg1 hne1), hb1⟩
            case measure => simp [intOf]; omega
      · go_wp2
        go_quiet (fail)
        have hbl' : Below wr.heap.size wr (wr.drewN nq) := bel_drewN (Below.refl _ wr) nq
        generalize wr.drewN nq = wl at hbl' ⊢
        have hq1 : Below (w.heap.size + 1) (w.alloc (.cells #[.int .i64 r.ky, .int .i64 r.st, .int .i64 r.en, .int .i64 r.n, .int .i64 r.su, .int .i64 r.le, .int .i64 r.mo] 53)) wl := hbw.trans (hbl'.mono hwr)
        have HO1 := hide (ownBel (unhide HO) hbl')
        have HR1 := hide ((unhide HRr).below hbl' (fun _ => hg))
        have hgl : g < wl.heap.size := Nat.lt_of_lt_of_le hg hbl'.size
        have hws : w.heap.size + 1 ≤ wl.heap.size := Nat.le_trans hwr hbl'.size
        obtain ⟨⟨C0, C1, C2, C3, C4, C5, C6, D0, D1, D2, D3, D4, D5, D6⟩, _, _⟩ := hd_7_7 HS hbl'
        clear HS
        go_wp2_with (at_builtin; go_loud (refine wpList_append_own_at _ rfl _ _ 26 rfl (w.heap.size + 1) 53 i0 _ 7 56 Tryz.underlying26 hi hz0 hz1 hz2 rfl (by decide) u6 _ _ rfl (World.ownsRow.alloc (unhide HO1) _) ⟨wl.heap.size, 0, none⟩ 1 1 [.int .i64 x.ky, .int .i64 x.st, .int .i64 x.en, .int .i64 x.n, .int .i64 x.su, .int .i64 x.le, .int .i64 x.mo] rfl rfl (cells_newTb wl x.ky x.st x.en x.n x.su x.le x.mo _) (by simp [Value.oneCell']) (by unfold maxLen; omega) (by omega) (by simp; omega) ?_); intro v' w1 hown' hgrow _ hblk)
        obtain ⟨hb1, hr1, hg1, hne1⟩ := put_carry hq1 (unhide hge) hws (unhide HR1) hgl (unhide HNE) hgrow hblk
        go_roundw
        case rel => exact ⟨true, k + 1, ys ++ [x], by omega, rfl, by go_num, ownTb_snoc hown', hide (putAt_done (unhide hX) (unhide HP)), hide (rest_mk hr1 hg1 hne1), hb1⟩
        case measure => simp [intOf]; omega
    · cases d
      · have HQ := hide (putAt_end0 (by omega) (unhide HP))
        have C0 : wr.cell? ⟨w.heap.size, 0, none⟩ = some (.int .i64 r.ky) := (hbw.cell (p := ⟨w.heap.size, 0, none⟩) (by simp)).trans (by simp [go_sem])
        have C1 : wr.cell? ⟨w.heap.size, 1, none⟩ = some (.int .i64 r.st) := (hbw.cell (p := ⟨w.heap.size, 1, none⟩) (by simp)).trans (by simp [go_sem])
        have C2 : wr.cell? ⟨w.heap.size, 2, none⟩ = some (.int .i64 r.en) := (hbw.cell (p := ⟨w.heap.size, 2, none⟩) (by simp)).trans (by simp [go_sem])
        have C3 : wr.cell? ⟨w.heap.size, 3, none⟩ = some (.int .i64 r.n) := (hbw.cell (p := ⟨w.heap.size, 3, none⟩) (by simp)).trans (by simp [go_sem])
        have C4 : wr.cell? ⟨w.heap.size, 4, none⟩ = some (.int .i64 r.su) := (hbw.cell (p := ⟨w.heap.size, 4, none⟩) (by simp)).trans (by simp [go_sem])
        have C5 : wr.cell? ⟨w.heap.size, 5, none⟩ = some (.int .i64 r.le) := (hbw.cell (p := ⟨w.heap.size, 5, none⟩) (by simp)).trans (by simp [go_sem])
        have C6 : wr.cell? ⟨w.heap.size, 6, none⟩ = some (.int .i64 r.mo) := (hbw.cell (p := ⟨w.heap.size, 6, none⟩) (by simp)).trans (by simp [go_sem])
        go_wp2_with (at_builtin; go_loud (refine wpList_append_own_at _ rfl _ _ 26 rfl (w.heap.size + 1) 53 i0 _ 7 56 Tryz.underlying26 hi hz0 hz1 hz2 rfl (by decide) u6 _ _ rfl (World.ownsRow.alloc (unhide HO) _) ⟨wr.heap.size, 0, none⟩ 1 1 [.int .i64 r.ky, .int .i64 r.st, .int .i64 r.en, .int .i64 r.n, .int .i64 r.su, .int .i64 r.le, .int .i64 r.mo] rfl rfl (cells_newTb wr r.ky r.st r.en r.n r.su r.le r.mo _) (by simp [Value.oneCell']) (by unfold maxLen; omega) (by omega) (by simp; omega) ?_); intro v' w1 hown' hgrow _ hblk)
        have hb1 := put_none hbw (unhide hge) hwr hgrow
        go_ret
        refine ⟨_, rfl, ?_, bel_trans (bel_one _ _) (by simpa using hb1)⟩
        rw [unhide HZ, ← unhide HQ]
        exact World.ownsRow.mono (ownTb_snoc hown') (by omega)
      · have HQ := hide (putAt_end1 (by omega) (unhide HP))
        go_wp2
        go_ret
        refine ⟨_, rfl, ?_, hb0⟩
        rw [unhide HZ, ← unhide HQ]
        exact World.ownsRow.mono (unhide HO) (by omega)
end Go.Proofs.YtikidpcgnmffcaaGreat
namespace Go.Proofs.YtikidpcgnmffcaaGreat
open Go.ChangeShapes Go.WideShapes Go.ChangeAt Go.RowKit
set_option linter.unusedVariables false

/-- One number of what is known of both. -/
def bo (n n' x x' c : Int) : Int := if n = 0 then x' else if n' = 0 then x else c

theorem bo_1 (n' x x' c : Int) : bo 0 n' x x' c = x' := rfl

theorem bo_2 {n : Int} (h : n ≠ 0) (x x' c : Int) : bo n 0 x x' c = x := by unfold bo; rw [if_neg h]; rfl

theorem bo_3 {n n' : Int} (h : n ≠ 0) (h' : n' ≠ 0) (x x' c : Int) : bo n n' x x' c = c := by unfold bo; rw [if_neg h, if_neg h']

theorem ret_agg4 {a b c d a' b' c' d' : Int} (h1 : a' = a) (h2 : b' = b) (h3 : c' = c) (h4 : d' = d) : Ending.returned (.agg #[.int .i64 a, .int .i64 b, .int .i64 c, .int .i64 d]) = .returned (.agg #[.int .i64 a', .int .i64 b', .int .i64 c', .int .i64 d']) := by rw [h1, h2, h3, h4]

set_option maxHeartbeats 1000000 in
theorem both_any (n s l m n' s' l' m' : Int) (w : World) : Calls Tryz.prog 46 #[.agg #[.int .i64 n, .int .i64 s, .int .i64 l, .int .i64 m], .agg #[.int .i64 n', .int .i64 s', .int .i64 l', .int .i64 m']] w fun e w' => e = .returned (.agg #[.int .i64 (bo n n' n n' (wrap64 (n + n'))), .int .i64 (bo n n' s s' (wrap64 (s + s'))), .int .i64 (bo n n' l l' (loI l l')), .int .i64 (bo n n' m m' (hiI m m'))]) ∧ Below w.heap.size w w' := by
  by_cases h1 : n = 0
  · subst h1
    have hq := hide (bo_1 n')
    go_enter Tryz.func46, Tryz.ntmps46
    go_wp2
    refine bodyPost_ret (v := .agg #[.int .i64 n', .int .i64 s', .int .i64 l', .int .i64 m']) (by simp [results, Tryz.results46, go_sem] <;> omega) rfl ⟨ret_agg4 (unhide hq _ _ _) (unhide hq _ _ _) (unhide hq _ _ _) (unhide hq _ _ _), ?_⟩
    exact (belC)
  have g1 : (n == 0) = false := by simpa using h1
  by_cases h2 : n' = 0
  · subst h2
    have hq := hide (bo_2 h1)
    clear h1
    go_enter Tryz.func46, Tryz.ntmps46
    go_wp2
    refine bodyPost_ret (v := .agg #[.int .i64 n, .int .i64 s, .int .i64 l, .int .i64 m]) (by simp [results, Tryz.results46, go_sem] <;> omega) rfl ⟨ret_agg4 (unhide hq _ _ _) (unhide hq _ _ _) (unhide hq _ _ _) (unhide hq _ _ _), ?_⟩
    exact (belC)
  have g2 : (n' == 0) = false := by simpa using h2
  have hq := hide (bo_3 h1 h2)
  clear h1 h2
  by_cases h3 : l' < l <;> by_cases h4 : m < m'
  · have k3 := hide (loI_c h3)
    have k4 := hide (hiI_d h4)
    go_enter Tryz.func46, Tryz.ntmps46
    go_wp2
    all_goals first
      | (exfalso; omega)
      | (refine bodyPost_ret (v := .agg #[.int .i64 (wrap64 (n + n')), .int .i64 (wrap64 (s + s')), .int .i64 l', .int .i64 m']) (by simp [results, Tryz.results46, go_sem] <;> omega) rfl ⟨ret_agg4 (unhide hq _ _ _) (unhide hq _ _ _) ((unhide hq _ _ _).trans (unhide k3)) ((unhide hq _ _ _).trans (unhide k4)), ?_⟩; exact (belC))
  · have k3 := hide (loI_c h3)
    have k4 := hide (hiI_b h4)
    go_enter Tryz.func46, Tryz.ntmps46
    go_wp2
    all_goals first
      | (exfalso; omega)
      | (refine bodyPost_ret (v := .agg #[.int .i64 (wrap64 (n + n')), .int .i64 (wrap64 (s + s')), .int .i64 l', .int .i64 m]) (by simp [results, Tryz.results46, go_sem] <;> omega) rfl ⟨ret_agg4 (unhide hq _ _ _) (unhide hq _ _ _) ((unhide hq _ _ _).trans (unhide k3)) ((unhide hq _ _ _).trans (unhide k4)), ?_⟩; exact (belC))
  · have k3 := hide (loI_a h3)
    have k4 := hide (hiI_d h4)
    go_enter Tryz.func46, Tryz.ntmps46
    go_wp2
    all_goals first
      | (exfalso; omega)
      | (refine bodyPost_ret (v := .agg #[.int .i64 (wrap64 (n + n')), .int .i64 (wrap64 (s + s')), .int .i64 l, .int .i64 m']) (by simp [results, Tryz.results46, go_sem] <;> omega) rfl ⟨ret_agg4 (unhide hq _ _ _) (unhide hq _ _ _) ((unhide hq _ _ _).trans (unhide k3)) ((unhide hq _ _ _).trans (unhide k4)), ?_⟩; exact (belC))
  · have k3 := hide (loI_a h3)
    have k4 := hide (hiI_b h4)
    go_enter Tryz.func46, Tryz.ntmps46
    go_wp2
    all_goals first
      | (exfalso; omega)
      | (refine bodyPost_ret (v := .agg #[.int .i64 (wrap64 (n + n')), .int .i64 (wrap64 (s + s')), .int .i64 l, .int .i64 m]) (by simp [results, Tryz.results46, go_sem] <;> omega) rfl ⟨ret_agg4 (unhide hq _ _ _) (unhide hq _ _ _) ((unhide hq _ _ _).trans (unhide k3)) ((unhide hq _ _ _).trans (unhide k4)), ?_⟩; exact (belC))

set_option maxHeartbeats 1000000 in
theorem specboth_any (n s l m n' s' l' m' : Int) (w : World) : Calls Tryz.prog 30 #[.agg #[.int .i64 n, .int .i64 s, .int .i64 l, .int .i64 m], .agg #[.int .i64 n', .int .i64 s', .int .i64 l', .int .i64 m']] w fun e w' => e = .returned (.agg #[.int .i64 (bo n n' n n' (wrap64 (n + n'))), .int .i64 (bo n n' s s' (wrap64 (s + s'))), .int .i64 (bo n n' l l' (loI l l')), .int .i64 (bo n n' m m' (hiI m m'))]) ∧ Below w.heap.size w w' := by
  by_cases h1 : n = 0
  · subst h1
    have hq := hide (bo_1 n')
    go_enter Tryz.func30, Tryz.ntmps30
    go_wp2
    refine bodyPost_ret (v := .agg #[.int .i64 n', .int .i64 s', .int .i64 l', .int .i64 m']) (by simp [results, Tryz.results30, go_sem] <;> omega) rfl ⟨ret_agg4 (unhide hq _ _ _) (unhide hq _ _ _) (unhide hq _ _ _) (unhide hq _ _ _), ?_⟩
    exact (belC)
  have g1 : (n == 0) = false := by simpa using h1
  by_cases h2 : n' = 0
  · subst h2
    have hq := hide (bo_2 h1)
    clear h1
    go_enter Tryz.func30, Tryz.ntmps30
    go_wp2
    refine bodyPost_ret (v := .agg #[.int .i64 n, .int .i64 s, .int .i64 l, .int .i64 m]) (by simp [results, Tryz.results30, go_sem] <;> omega) rfl ⟨ret_agg4 (unhide hq _ _ _) (unhide hq _ _ _) (unhide hq _ _ _) (unhide hq _ _ _), ?_⟩
    exact (belC)
  have g2 : (n' == 0) = false := by simpa using h2
  have hq := hide (bo_3 h1 h2)
  clear h1 h2
  by_cases h3 : l' < l <;> by_cases h4 : m < m'
  · have k3 := hide (loI_c h3)
    have k4 := hide (hiI_d h4)
    go_enter Tryz.func30, Tryz.ntmps30
    go_wp2
    all_goals first
      | (exfalso; omega)
      | (refine bodyPost_ret (v := .agg #[.int .i64 (wrap64 (n + n')), .int .i64 (wrap64 (s + s')), .int .i64 l', .int .i64 m']) (by simp [results, Tryz.results30, go_sem] <;> omega) rfl ⟨ret_agg4 (unhide hq _ _ _) (unhide hq _ _ _) ((unhide hq _ _ _).trans (unhide k3)) ((unhide hq _ _ _).trans (unhide k4)), ?_⟩; exact (belC))
  · have k3 := hide (loI_c h3)
    have k4 := hide (hiI_b h4)
    go_enter Tryz.func30, Tryz.ntmps30
    go_wp2
    all_goals first
      | (exfalso; omega)
      | (refine bodyPost_ret (v := .agg #[.int .i64 (wrap64 (n + n')), .int .i64 (wrap64 (s + s')), .int .i64 l', .int .i64 m]) (by simp [results, Tryz.results30, go_sem] <;> omega) rfl ⟨ret_agg4 (unhide hq _ _ _) (unhide hq _ _ _) ((unhide hq _ _ _).trans (unhide k3)) ((unhide hq _ _ _).trans (unhide k4)), ?_⟩; exact (belC))
  · have k3 := hide (loI_a h3)
    have k4 := hide (hiI_d h4)
    go_enter Tryz.func30, Tryz.ntmps30
    go_wp2
    all_goals first
      | (exfalso; omega)
      | (refine bodyPost_ret (v := .agg #[.int .i64 (wrap64 (n + n')), .int .i64 (wrap64 (s + s')), .int .i64 l, .int .i64 m']) (by simp [results, Tryz.results30, go_sem] <;> omega) rfl ⟨ret_agg4 (unhide hq _ _ _) (unhide hq _ _ _) ((unhide hq _ _ _).trans (unhide k3)) ((unhide hq _ _ _).trans (unhide k4)), ?_⟩; exact (belC))
  · have k3 := hide (loI_a h3)
    have k4 := hide (hiI_b h4)
    go_enter Tryz.func30, Tryz.ntmps30
    go_wp2
    all_goals first
      | (exfalso; omega)
      | (refine bodyPost_ret (v := .agg #[.int .i64 (wrap64 (n + n')), .int .i64 (wrap64 (s + s')), .int .i64 l, .int .i64 m]) (by simp [results, Tryz.results30, go_sem] <;> omega) rfl ⟨ret_agg4 (unhide hq _ _ _) (unhide hq _ _ _) ((unhide hq _ _ _).trans (unhide k3)) ((unhide hq _ _ _).trans (unhide k4)), ?_⟩; exact (belC))

theorem with_any (n s l m v : Int) (w : World) : Calls Tryz.prog 49 #[.agg #[.int .i64 n, .int .i64 s, .int .i64 l, .int .i64 m], .int .i64 v] w fun e w' => e = .returned (.agg #[.int .i64 (bo n 1 n 1 (wrap64 (n + 1))), .int .i64 (bo n 1 s v (wrap64 (s + v))), .int .i64 (bo n 1 l v (loI l v)), .int .i64 (bo n 1 m v (hiI m v))]) ∧ Below w.heap.size w w' := by
  go_enter Tryz.func49, Tryz.ntmps49
  go_wp2_with (first
    | (go_at_call 46; refine (both_any _ _ _ _ _ _ _ _ _).mono ?_; rintro e w' ⟨rfl, hb⟩; obtain ⟨hc, hf, hs⟩ := bcell hb; (try have hz0 : w.heap.size < w'.heap.size := (by have h9 := hb.size; (try simp at h9); omega)); (try have hz1 : w.heap.size + 1 < w'.heap.size := (by have h9 := hb.size; (try simp at h9); omega)); (try have hz2 : w.heap.size + 2 < w'.heap.size := (by have h9 := hb.size; (try simp at h9); omega))))
  refine bodyPost_ret (v := .agg #[.int .i64 (bo n 1 n 1 (wrap64 (n + 1))), .int .i64 (bo n 1 s v (wrap64 (s + v))), .int .i64 (bo n 1 l v (loI l v)), .int .i64 (bo n 1 m v (hiI m v))]) (by simp [results, Tryz.results49, go_sem, hc]) rfl ⟨rfl, ?_⟩
  exact (belC)

theorem specadd_any (n s l m v : Int) (w : World) : Calls Tryz.prog 18 #[.agg #[.int .i64 n, .int .i64 s, .int .i64 l, .int .i64 m], .int .i64 v] w fun e w' => e = .returned (.agg #[.int .i64 (bo n 1 n 1 (wrap64 (n + 1))), .int .i64 (bo n 1 s v (wrap64 (s + v))), .int .i64 (bo n 1 l v (loI l v)), .int .i64 (bo n 1 m v (hiI m v))]) ∧ Below w.heap.size w w' := by
  go_enter Tryz.func18, Tryz.ntmps18
  go_wp2_with (first
    | (go_at_call 30; refine (specboth_any _ _ _ _ _ _ _ _ _).mono ?_; rintro e w' ⟨rfl, hb⟩; obtain ⟨hc, hf, hs⟩ := bcell hb; (try have hz0 : w.heap.size < w'.heap.size := (by have h9 := hb.size; (try simp at h9); omega)); (try have hz1 : w.heap.size + 1 < w'.heap.size := (by have h9 := hb.size; (try simp at h9); omega)); (try have hz2 : w.heap.size + 2 < w'.heap.size := (by have h9 := hb.size; (try simp at h9); omega))))
  refine bodyPost_ret (v := .agg #[.int .i64 (bo n 1 n 1 (wrap64 (n + 1))), .int .i64 (bo n 1 s v (wrap64 (s + v))), .int .i64 (bo n 1 l v (loI l v)), .int .i64 (bo n 1 m v (hiI m v))]) (by simp [results, Tryz.results18, go_sem, hc]) rfl ⟨rfl, ?_⟩
  exact (belC)
end Go.Proofs.YtikidpcgnmffcaaGreat
