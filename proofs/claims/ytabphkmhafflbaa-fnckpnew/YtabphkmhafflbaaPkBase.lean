/- Laid together: what the claim needs of the texts that were built one by one. -/
import Derived.Below
import Derived.BigQuiet
import Derived.Carry
import Derived.ChangeOld
import Derived.Deep.DeepCutAuto
import Derived.Deep.Fields
import Derived.Deep.QuietTactic
import Derived.Deep.RegionHeld3
import Derived.Deep.Slices
import Derived.Lib.SmallJoins
import Derived.OpenShut
import Derived.OwnWalk
import Derived.ProofKit
import Derived.ShutString
import Derived.Test.YtabphkmhafflbaaRows
import Derived.WalkKit
import Derived.WalkSpells
namespace Go.Proofs.Ytabphkmhafflbaa
/- Short names for library rows. -/
theorem tA {α : Type _} {l : List α} {i : Nat} {a : α} : l.toArray.setIfInBounds i a = (l.set i a).toArray := List.setIfInBounds_toArray l i a
theorem tZ {α : Type _} {x a : α} {l : List α} : (x :: l).set 0 a = a :: l := rfl
theorem tS {α : Type _} {x a : α} {l : List α} {i : Nat} : (x :: l).set (i + 1) a = x :: l.set i a := rfl
theorem gA {α : Type _} {l : List α} {i : Nat} : l.toArray[i]? = l[i]? := List.getElem?_toArray
theorem gZ {α : Type _} {x : α} {l : List α} : (x :: l)[0]? = some x := rfl
theorem gS {α : Type _} {x : α} {l : List α} {i : Nat} : (x :: l)[i + 1]? = l[i]? := rfl
open Go.ChangeShapes Go.WideShapes Go.ChangeAt Go.RowKit
theorem kT {P : Program} {ops : Array Oper} {Q : Exit → Act → World → Prop} {md : Region.Mode} {S : World → Prop} (i : Nat) {oi : Oper} {fuel : Nat} {listed : Array Bool} {a : Act} {w : World} (v : Value) (y : ∀ w, S w → (execOp a.eval oi).run P w = .ok (.value v) w) (h : wpAnyH P md ops Q S fuel (listed.setIfInBounds i true) (a.put oi.dst v) w) (h1 : ops[i]? = some oi := by simp only [gA, gZ, gS]; rfl) (h2 : Region.noSelect ops = true := by kernel_rfl) (h3 : Region.free md ops listed i = true := by kernel_rfl) (h4 : (Region.ready md ops listed).contains i = true := by kernel_rfl) (h5 : ∀ c a w, Q (.panic c) (a.put oi.dst v) w → Q (.panic c) a w := by intro _ _ _ h; exact h) (h6 : Region.wanted oi (yielded ops a.tmps) = true := by rfl) (h7 : S w := by assumption) : wpAnyH P md ops Q S (fuel + 1) listed a w := wpAnyH_take h1 h2 h3 h4 h5 (Or.inl ⟨h6, y⟩) h7 h
theorem kU {P : Program} {ops : Array Oper} {Q : Exit → Act → World → Prop} {md : Region.Mode} {S : World → Prop} (i : Nat) {oi : Oper} {fuel : Nat} {listed : Array Bool} {a : Act} {w : World} (h : wpAnyH P md ops Q S fuel (listed.setIfInBounds i true) (a.put oi.dst undef) w) (h1 : ops[i]? = some oi := by simp only [gA, gZ, gS]; rfl) (h2 : Region.noSelect ops = true := by kernel_rfl) (h3 : Region.free md ops listed i = true := by kernel_rfl) (h4 : (Region.ready md ops listed).contains i = true := by kernel_rfl) (h5 : ∀ c a w, Q (.panic c) (a.put oi.dst undef) w → Q (.panic c) a w := by intro _ _ _ h; exact h) (h6 : Region.wanted oi (yielded ops a.tmps) = false := by rfl) (h7 : S w := by assumption) : wpAnyH P md ops Q S (fuel + 1) listed a w := wpAnyH_take (v := undef) h1 h2 h3 h4 h5 (Or.inr ⟨h6, rfl⟩) h7 h
theorem belA {B : Nat} {w W : World} (h : Below B w W := by repeat (first | (with_reducible exact Below.refl _ _) | (with_reducible assumption) | (with_reducible refine bel_set ?_ (by first | (simp; done) | (simp; omega)) _) | (with_reducible refine bel_alloc ?_ _) | (with_reducible refine bel_drew ?_) | (with_reducible refine bel_drewN ?_ _) | (with_reducible refine bel_trans ?_ (by with_reducible assumption)))) : Below B w W := h
theorem belB {B : Nat} {w W : World} (h : Below B w W := by repeat (first | (with_reducible refine bel_set ?_ (by first | (simp; done) | (simp; omega)) _) | (with_reducible refine bel_alloc ?_ _) | (with_reducible exact Below.refl _ _) | (with_reducible assumption) | (with_reducible refine bel_drew ?_) | (with_reducible refine bel_drewN ?_ _) | (with_reducible refine bel_trans ?_ (by with_reducible assumption)))) : Below B w W := h
theorem belC {B : Nat} {w W : World} (h : Below B w W := by repeat (first | exact Below.refl _ _ | exact bel_one _ _ | assumption | refine bel_alloc ?_ _ | refine bel_set ?_ (by first | (simp; done) | (simp; omega)) _ | refine bel_drew ?_ | refine bel_drewN ?_ _ | refine bel_trans ?_ (by assumption))) : Below B w W := h
theorem sA {p : Prop} (h : p := by first | (simp; done) | (simp; omega)) : p := h
theorem sB {p : Prop} (h : p := by first | omega | (simp; done) | (simp; omega)) : p := h
theorem sC {p : Prop} (h : p := by first | (simp; done) | (simp; omega) | omega) : p := h
end Go.Proofs.Ytabphkmhafflbaa
namespace Go.Proofs.Ytabphkmhafflbaa
open Go.ChangeShapes Go.WideShapes Go.ChangeAt Go.RowKit Go.Deep
set_option linter.unusedVariables false

theorem bel_trans {w w1 w2 : World} (h : Below w.heap.size w w1) (k : Below w1.heap.size w1 w2) : Below w.heap.size w w2 := h.trans (k.mono h.size)

theorem bel_alloc {w w1 : World} (h : Below w.heap.size w w1) (o : Obj) : Below w.heap.size w (w1.alloc o) := h.alloc h.size o

theorem bel_drew {w w1 : World} (h : Below w.heap.size w w1) : Below w.heap.size w w1.drew := h.drew

theorem bel_drewN {w w1 : World} (h : Below w.heap.size w w1) (n : Nat) : Below w.heap.size w (w1.drewN n) := h.trans ⟨rfl, rfl, rfl, Nat.le_refl _, fun _ _ => rfl⟩

theorem bel_set {w w1 : World} {p : Addr} (h : Below w.heap.size w w1) (hp : w.heap.size ≤ p.block) (u : Value) : Below w.heap.size w (w1.setCell p u) := h.setCell hp u

theorem bel_re (W : World) (o o' : Obj) : Below W.heap.size (W.alloc o) (W.alloc o') := ⟨rfl, rfl, rfl, by simp, fun k hk => by rw [Below.heap_alloc _ _ _ hk, Below.heap_alloc _ _ _ hk]⟩

theorem cell_set_ne {W : World} {p : Addr} {u : Value} {b o : Nat} (h : p.block ≠ b) : (W.setCell p u).cell? ⟨b, o, none⟩ = W.cell? ⟨b, o, none⟩ := World.cell?_of_block (w := W) (Below.heap_setCell _ _ _ _ (fun e => h e.symm))

theorem bel_one (w : World) (o : Obj) : Below w.heap.size w (w.alloc o) := bel_alloc (Below.refl _ _) o

theorem bcell {W w1 : World} (hb : Below W.heap.size W w1) : (∀ b o, b < W.heap.size → w1.cell? ⟨b, o, none⟩ = W.cell? ⟨b, o, none⟩) ∧ (∀ b o, b < W.heap.size → w1.frozen? ⟨b, o, none⟩ = W.frozen? ⟨b, o, none⟩) ∧ (∀ b, b < W.heap.size → b < w1.heap.size) :=
  ⟨fun b o h => hb.cell (p := ⟨b, o, none⟩) h, fun b o h => hb.frozen (p := ⟨b, o, none⟩) h, fun b h => Nat.lt_of_lt_of_le h hb.size⟩

theorem hide {p : Prop} (h : p) : Hid p := h

theorem unhide {p : Prop} (h : Hid p) : p := h

theorem ret_i {a b : Int} (h : a = b) : Ending.returned (.int .i64 a) = .returned (.int .i64 b) := by rw [h]

theorem ret_b {a b : Bool} (h : a = b) : Ending.returned (.bool a) = .returned (.bool b) := by rw [h]

/-- The lesser and the greater of two. -/
def loI (a c : Int) : Int := if c < a then c else a

theorem loI_a {a c : Int} (h : ¬ c < a) : loI a c = a := if_neg h

theorem loI_c {a c : Int} (h : c < a) : loI a c = c := if_pos h

/-- Whether a number is from least to most. -/
def inB (n a b : Int) : Bool := decide (a ≤ n ∧ n ≤ b)

theorem inB_tt {n a b : Int} (h1 : a ≤ n) (h2 : n ≤ b) : inB n a b = true := decide_eq_true ⟨h1, h2⟩

theorem inB_ff {n a b : Int} (h : n < a ∨ b < n) : inB n a b = false := decide_eq_false (by omega)

theorem inB_iff {n a b : Int} : inB n a b = true ↔ a ≤ n ∧ n ≤ b := by simp [inB]
end Go.Proofs.Ytabphkmhafflbaa
namespace Go.Proofs.Ytabphkmhafflbaa
open Go.ChangeShapes Go.WideShapes Go.ChangeAt Go.RowKit Go.Deep
set_option linter.unusedVariables false

/-- Cells that are ints and bools, as asked. -/
def Fits : List Value → List Bool → Prop
  | [], [] => True
  | v :: vs, b :: bs => (if b = true then ∃ x, v = .bool x else ∃ z, v = .int .i64 z ∧ (Lit.int .i64 z).wf = true) ∧ Fits vs bs
  | _, _ => False

theorem Fits.len {vs : List Value} {bs : List Bool} (h : Fits vs bs) : vs.length = bs.length := by
  induction vs generalizing bs with
  | nil => cases bs with
    | nil => rfl
    | cons b bs => exact h.elim
  | cons v vs ih => cases bs with
    | nil => exact h.elim
    | cons b bs => simp [ih h.2]
end Go.Proofs.Ytabphkmhafflbaa
namespace Go.Proofs.Ytabphkmhafflbaa
open Go.ChangeShapes Go.WideShapes Go.ChangeAt Go.RowKit
set_option linter.unusedVariables false

/-- Bytes that lie behind a slice. -/
def BytesAt (w : World) (a : Option Addr) (len : Nat) : Prop := len = 0 ∨ ∃ g o, a = some ⟨g, o, none⟩ ∧ ∀ i, i < len → ∃ z : Int, w.cell? ⟨g, o + i, none⟩ = some (.int .u8 z) ∧ 0 ≤ z ∧ z ≤ 255

/-- The reader at block R: the code's bytes, and the place p. -/
structure Rd (R : Nat) (w : World) (a : Option Addr) (len cap p : Nat) : Prop where
  cb : w.cell? ⟨R, 0, none⟩ = some (.slice a len cap)
  cp : w.cell? ⟨R, 1, none⟩ = some (.int .i64 (p : Int))
  fr : w.frozen? ⟨R, 1, none⟩ = false
  small : p ≤ 1000000
  short : len ≤ 2000
  bytes : BytesAt w a len
  apart : ∀ g o, a = some ⟨g, o, none⟩ → 0 < len → g < R

/-- All but the reader's block stays. -/
structure Kp (R : Nat) (w w' : World) : Prop where
  low : Below R w w'
  all : ∀ b, b < w.heap.size → b ≠ R → w'.heap[b]? = w.heap[b]?

theorem Kp.refl (R : Nat) (w : World) : Kp R w w := ⟨Below.refl _ _, fun _ _ _ => rfl⟩

theorem Kp.trans {R : Nat} {w w1 w2 : World} (h : Kp R w w1) (k : Kp R w1 w2) : Kp R w w2 := ⟨h.low.trans k.low, fun b hb hn => (k.all b (Nat.lt_of_lt_of_le hb h.low.size) hn).trans (h.all b hb hn)⟩

theorem Kp.of_bel {R : Nat} {w w' : World} (hR : R ≤ w.heap.size) (h : Below w.heap.size w w') : Kp R w w' := ⟨h.mono hR, fun b hb _ => h.block b hb⟩

theorem Kp.set {R o : Nat} {w : World} (v : Value) : Kp R w (w.setCell ⟨R, o, none⟩ v) := ⟨(Below.refl R w).setCell (p := ⟨R, o, none⟩) (Nat.le_refl _) v, fun b hb hn => Below.heap_setCell _ _ _ _ hn⟩

theorem Kp.cell {R b o : Nat} {w w' : World} (h : Kp R w w') (hb : b < w.heap.size) (hn : b ≠ R) : w'.cell? ⟨b, o, none⟩ = w.cell? ⟨b, o, none⟩ := World.cell?_of_block (h.all b hb hn)

theorem rem_lt (x : Int) {n : Int} (hn : 1 ≤ n) : 0 ≤ x % n ∧ x % n < n := ⟨Int.emod_nonneg _ (by omega), Int.emod_lt_of_pos _ (by omega)⟩

theorem dec_ff {n : Int} (hn : 1 ≤ n) : decide (n < 1) = false := by simp; omega

theorem len_ff {len : Nat} (h : ¬ len = 0) : ((len : Int) == 0) = false := by rw [beq_eq_false_iff_ne]; omega

theorem tmod_lt {x n : Int} (h0 : 0 ≤ x) (hn : 1 ≤ n) : 0 ≤ x.tmod n ∧ x.tmod n < n := by
  rw [Int.tmod_eq_emod_of_nonneg h0]
  exact rem_lt x hn

theorem xor_nn {X : Int} (h0 : 0 ≤ X) (h1 : X < 4611686018427387904) : 0 ≤ bits .xor .i64 X (X / 64) := by
  obtain ⟨a, rfl⟩ := Int.eq_ofNat_of_zero_le h0
  have d : ((a : Int) / 64) = ((a / 64 : Nat) : Int) := by simp
  rw [d]
  have ha : a < 4611686018427387904 := by omega
  have hb : a / 64 < 4611686018427387904 := Nat.lt_of_le_of_lt (Nat.div_le_self _ _) ha
  have hx : a ^^^ (a / 64) < 2 ^ 62 := Nat.xor_lt_two_pow (by omega) (by omega)
  have k1 : (BitVec.ofInt 64 (a : Int)).toNat = a := by
    rw [BitVec.ofInt_natCast, BitVec.toNat_ofNat]; exact Nat.mod_eq_of_lt (by omega)
  have k2 : (BitVec.ofInt 64 ((a / 64 : Nat) : Int)).toNat = a / 64 := by
    rw [BitVec.ofInt_natCast, BitVec.toNat_ofNat]; exact Nat.mod_eq_of_lt (by omega)
  show 0 ≤ IntKind.i64.wrap ((BitVec.ofInt 64 (a : Int) ^^^ BitVec.ofInt 64 ((a / 64 : Nat) : Int)).toNat : Int)
  rw [BitVec.toNat_xor, k1, k2, IntKind.wrap_i64]
  omega

theorem Kp.draws (R : Nat) (w : World) (n : Nat) : Kp R w (w.drewN n) := ⟨⟨rfl, rfl, rfl, Nat.le_refl _, fun _ _ => rfl⟩, fun _ _ _ => rfl⟩

theorem Rd.draws {R : Nat} {w : World} {a : Option Addr} {len cap p : Nat} (h : Rd R w a len cap p) (n : Nat) : Rd R (w.drewN n) a len cap p := ⟨h.1, h.2, h.3, h.4, h.5, h.6, h.7⟩

theorem mod_nat (p : Nat) {len : Nat} (h : ¬ len = 0) : ∃ i : Nat, (p : Int) % (len : Int) = (i : Int) ∧ i < len := ⟨p % len, by simp, Nat.mod_lt _ (by omega)⟩

theorem div_nat (p len : Nat) : ∃ q : Nat, (p : Int) / (len : Int) = (q : Int) ∧ q ≤ p := ⟨p / len, by simp, Nat.div_le_self _ _⟩

theorem Rd.step {R : Nat} {w : World} {a : Option Addr} {len cap p : Nat} (h : Rd R w a len cap p) (hp : p < 1000000) : Rd R (w.setCell ⟨R, 1, none⟩ (.int .i64 ((p : Int) + 1))) a len cap (p + 1) := by
  obtain ⟨h1, h2, h3, h4, h5, h6, h7⟩ := h
  refine ⟨?_, ?_, ?_, by omega, h5, ?_, h7⟩
  · rw [World.cell?_setCell_other _ _ _ _ (by simp)]; exact h1
  · exact World.cell?_setCell_same' _ _ _ (by rw [h2]; rfl)
  · rw [← h3]; simp [go_sem]
  · rcases h6 with h6 | ⟨g, o, ha, h6⟩
    · exact Or.inl h6
    · refine Or.inr ⟨g, o, ha, fun i hi => ?_⟩
      obtain ⟨z, hz, hb⟩ := h6 i hi
      have := h7 g o ha (by omega)
      exact ⟨z, (cell_set_ne (by simp; omega)).trans hz, hb⟩

def PickP (R : Nat) (w : World) (a : Option Addr) (len cap p : Nat) (n : Int) (e : Ending) (w' : World) : Prop := ∃ x : Int, e = .returned (.int .i64 x) ∧ 0 ≤ x ∧ x < n ∧ Kp R w w' ∧ (p < 1000000 → Rd R w' a len cap (p + 1))

set_option maxRecDepth 20000 in
set_option maxHeartbeats 1000000 in
theorem pick_any (R : Nat) (a : Option Addr) (len cap p : Nat) (n : Int) (w : World) (hn : 1 ≤ n) (hn2 : n ≤ 100000) (h : Rd R w a len cap p) : Calls Try.prog 28 #[.pointer (some ⟨R, 0, none⟩), .int .i64 n] w fun e w' => PickP R w a len cap p n e w' := by
  have hst := hide (fun q => h.step q)
  obtain ⟨hb, hp, hf, hs1, hs2, hby, hap⟩ := h
  by_cases hz : len = 0
  · subst hz
    clear hby hap
    go_enter Try.func28, Try.ntmps28
    go_wp2
    go_ret
    exact ⟨0, rfl, by omega, by omega, Kp.set _, unhide hst⟩
  · obtain ⟨g, o, rfl, hby'⟩ := hby.resolve_left hz
    have hgR := hap g o rfl (by omega)
    have HB := hide hby'
    clear hby hby' hap
    by_cases hk : (p : Int) < (len : Int)
    · obtain ⟨z, hc, z0, z1⟩ := unhide HB p (by omega)
      have hc' : (w.setCell ⟨R, 1, none⟩ (.int .i64 ((p : Int) + 1))).cell? ⟨g, o + p, none⟩ = some (.int .u8 z) := (cell_set_ne (by simp; omega)).trans hc
      have hr := hide (rem_lt z hn)
      have q1 := dec_ff hn
      have q2 := len_ff hz
      go_enter Try.func28, Try.ntmps28
      go_wp2
      go_ret
      exact ⟨_, rfl, (unhide hr).1, (unhide hr).2, Kp.set _, unhide hst⟩
    · obtain ⟨i1, e1, l1⟩ := mod_nat p hz
      obtain ⟨i2, e2, l2⟩ := mod_nat (p * 7 + 3) hz
      obtain ⟨q, e3, l3⟩ := div_nat p len
      obtain ⟨z1, c1, z10, z11⟩ := unhide HB i1 l1
      obtain ⟨z2, c2, z20, z21⟩ := unhide HB i2 l2
      have c1' : (w.setCell ⟨R, 1, none⟩ (.int .i64 ((p : Int) + 1))).cell? ⟨g, o + i1, none⟩ = some (.int .u8 z1) := (cell_set_ne (by simp; omega)).trans c1
      have c2' : (w.setCell ⟨R, 1, none⟩ (.int .i64 ((p : Int) + 1))).cell? ⟨g, o + i2, none⟩ = some (.int .u8 z2) := (cell_set_ne (by simp; omega)).trans c2
      have e2' : ((p : Int) * 7 + 3) % (len : Int) = (i2 : Int) := by rw [← e2]; simp
      have q1 := dec_ff hn
      have q2 := len_ff hz
      have hk' : decide ((p : Int) < (len : Int)) = false := by simp; omega
      clear e2 c1 c2 HB
      go_enter Try.func28, Try.ntmps28
      go_wp2
      go_quiet (fail)
      go_wp2
      have hr := tmod_lt (xor_nn (X := z1 * 131 + z2 * 1117 + (p : Int) * 29 + (q : Int) * 53) (by omega) (by omega)) hn
      go_ret
      exact ⟨_, rfl, hr.1, hr.2, (Kp.set _).trans (Kp.draws _ _ _), fun hq => (unhide hst hq).draws _⟩
end Go.Proofs.Ytabphkmhafflbaa
namespace Go.Proofs.Ytabphkmhafflbaa
open Go.ChangeShapes Go.WideShapes Go.ChangeAt Go.RowKit
set_option linter.unusedVariables false

def OpenP (w : World) (a : Option Addr) (e : Ending) (w' : World) : Prop := ∃ R len cap, e = .returned (.pointer (some ⟨R, 0, none⟩)) ∧ w.heap.size ≤ R ∧ R < w'.heap.size ∧ Below w.heap.size w w' ∧ Rd R w' a len cap 0

theorem BytesAt.bel {w w' : World} {a : Option Addr} {len : Nat} (h : BytesAt w a len) (hl : ∀ g o, a = some ⟨g, o, none⟩ → 0 < len → g < w.heap.size) (hb : Below w.heap.size w w') : BytesAt w' a len := by
  rcases h with h | ⟨g, o, ha, h⟩
  · exact Or.inl h
  · refine Or.inr ⟨g, o, ha, fun i hi => ?_⟩
    obtain ⟨z, hz, q⟩ := h i hi
    exact ⟨z, (hb.cell (p := ⟨g, o + i, none⟩) (hl g o ha (by omega))).trans hz, q⟩

theorem BytesAt.less {w : World} {a : Option Addr} {len l : Nat} (h : BytesAt w a len) (hl : l ≤ len) : BytesAt w a l := by
  rcases h with h | ⟨g, o, ha, h⟩
  · exact Or.inl (by omega)
  · exact Or.inr ⟨g, o, ha, fun i hi => h i (by omega)⟩

theorem open_rd {w : World} {a : Option Addr} {len cap ty : Nat} (hs : len ≤ 2000) (hb : BytesAt w a len) (hl : ∀ g o, a = some ⟨g, o, none⟩ → 0 < len → g < w.heap.size) : Rd w.heap.size (w.alloc (.cells #[.slice a len cap, .int .i64 0] ty)) a len cap 0 :=
  ⟨by simp [go_sem], by simp [go_sem], by simp [go_sem], by omega, hs, hb.bel hl (bel_one _ _), hl⟩

set_option maxRecDepth 20000 in
theorem open_any (a : Option Addr) (len cap : Nat) (w : World) (hlc : len ≤ cap) (hlm : len ≤ 1048576) (hb : BytesAt w a len) (hl : ∀ g o, a = some ⟨g, o, none⟩ → 0 < len → g < w.heap.size) (hn : a = none → cap = 0) : Calls Try.prog 14 #[.slice a len cap] w fun e w' => OpenP w a e w' := by
  have HB := hide hb
  have HL := hide hl
  clear hb hl
  by_cases hz : (2000 : Int) < (len : Int)
  · obtain ⟨ad, rfl⟩ : ∃ ad, a = some ad := by
      cases a
      · have := hn rfl
        omega
      · exact ⟨_, rfl⟩
    go_enter Try.func14, Try.ntmps14
    go_wp2
    go_ret
    exact ⟨_, 2000, cap, rfl, Nat.le_refl _, by simp, bel_one _ _, open_rd (by omega) ((unhide HB).less (by omega)) (fun g o e h => unhide HL g o e (by omega))⟩
  · go_enter Try.func14, Try.ntmps14
    go_wp2
    go_ret
    exact ⟨_, len, cap, rfl, Nat.le_refl _, by simp, bel_one _ _, open_rd (by omega) (unhide HB) (unhide HL)⟩

theorem Rd.kp {R : Nat} {w w' : World} {a : Option Addr} {len cap p : Nat} (h : Rd R w a len cap p) (hR : R < w.heap.size) (hb : Below w.heap.size w w') : Rd R w' a len cap p := by
  obtain ⟨h1, h2, h3, h4, h5, h6, h7⟩ := h
  exact ⟨(hb.cell (p := ⟨R, 0, none⟩) hR).trans h1, (hb.cell (p := ⟨R, 1, none⟩) hR).trans h2, (hb.frozen (p := ⟨R, 1, none⟩) hR).trans h3, h4, h5, h6.bel (fun g o e h => Nat.lt_trans (h7 g o e h) hR) hb, h7⟩
end Go.Proofs.Ytabphkmhafflbaa
namespace Go.Proofs.Ytabphkmhafflbaa
open Go.ChangeShapes Go.WideShapes Go.ChangeAt Go.RowKit Go.Deep
set_option linter.unusedVariables false

section
variable {H : Type} {enc : TypeId × Value → H} {P : Program} {w : World} {base : Nat} {spare : Nat → Bool} {held : Bool}
theorem open_bytes {t e : TypeId} {a : Option Addr} {len cap : Nat} {d : DataW H} {p : List MemPlace} (ht : P.underlying t = some (.slice e)) (he : P.underlying e = some (.int .u8)) (hC : P.cellsOf e = 1)
    (h : DataW.Trod enc P w base spare held t (.slice a len cap) d p) : len ≤ cap ∧ len ≤ maxLen ∧ BytesAt w a len ∧ (∀ g o, a = some ⟨g, o, none⟩ → 0 < len → g < w.heap.size) ∧ (a = none → cap = 0) := by
  obtain ⟨fuel, hf⟩ := h
  rcases open_slice ht hf with ⟨hcs, _⟩ | ⟨a', len', cap', m, n, D, Pl, hcs, _, hl, hm, hmm, _, hx⟩
  · simp [Value.cells] at hcs
    obtain ⟨rfl, rfl, rfl⟩ := hcs
    exact ⟨Nat.le_refl _, Nat.zero_le _, Or.inl rfl, fun _ _ hne => (by simp at hne), fun _ => rfl⟩
  · simp [Value.cells] at hcs
    obtain ⟨rfl, rfl, rfl⟩ := hcs
    have hlm : len ≤ m := by rw [hmm]; split <;> omega
    have hall : ∀ i, i < len → ∃ z : Int, (i = 0 → a'.spot = none) ∧ w.cell? ⟨a'.block, a'.off + i, none⟩ = some (.int .u8 z) ∧ 0 ≤ z ∧ z ≤ 255 := by
      intro i hi
      obtain ⟨cs', h1, h2⟩ := hx i (by omega)
      rw [hC] at h1
      obtain ⟨z, rfl, _, hw⟩ := DataW.trod_int he h2
      obtain ⟨_, _, hc⟩ := World.cells?_some h1
      have c0 := hc 0 (by omega)
      have hsp : (a'.add (i * 1)).spot = none := World.cell?_spot (w := w) (a := a'.add (i * 1)) (v := .int .u8 z) (by simpa [Addr.add] using c0)
      have hb : 0 ≤ z ∧ z ≤ 255 := by
        have := bounds_u8 hw
        omega
      have ha : a'.add (i * 1) = ⟨a'.block, a'.off + i, none⟩ := by
        cases a' with
        | mk g o sp =>
          simp only [Addr.add] at hsp ⊢
          split at hsp <;> simp_all
      refine ⟨z, fun h0 => ?_, ?_, hb⟩
      · subst h0
        simpa [Addr.add] using hsp
      · rw [← ha]
        simpa [Addr.add] using c0
    by_cases h0 : len = 0
    · subst h0
      exact ⟨by omega, by omega, Or.inl rfl, fun _ _ _ h => by omega, fun hne => (by simp at hne)⟩
    obtain ⟨z0, s0, c0, _⟩ := hall 0 (by omega)
    have hs := s0 rfl
    refine ⟨hl, by omega, Or.inr ⟨a'.block, a'.off, by cases a'; simp_all, fun i hi => ?_⟩, fun g o e _ => ?_, fun hne => (by simp at hne)⟩
    · obtain ⟨z, _, hz, hb⟩ := hall i hi
      exact ⟨z, hz, hb⟩
    · have e1 : a' = ⟨g, o, none⟩ := by simpa using e
      rw [e1] at c0
      rcases Nat.lt_or_ge g w.heap.size with hh | hh
      · exact hh
      · simp [World.cell?, Array.getElem?_eq_none hh] at c0
end
end Go.Proofs.Ytabphkmhafflbaa
namespace Go.Proofs.Ytabphkmhafflbaa
open Go.ChangeShapes Go.WideShapes Go.ChangeAt Go.RowKit
set_option linter.unusedVariables false

theorem hd_13_13 {b0 b1 o0x0 o0x1 o0x2 o0x3 o0x4 o0x5 o0x6 o0x7 o0x8 o0x9 o0x10 o0x11 o0x12 o1x0 o1x1 o1x2 o1x3 o1x4 o1x5 o1x6 o1x7 o1x8 o1x9 o1x10 o1x11 o1x12 : Nat} {v0x0 v0x1 v0x2 v0x3 v0x4 v0x5 v0x6 v0x7 v0x8 v0x9 v0x10 v0x11 v0x12 v1x0 v1x1 v1x2 v1x3 v1x4 v1x5 v1x6 v1x7 v1x8 v1x9 v1x10 v1x11 v1x12 : Value} {W W' : World} (h : ((W.cell? ⟨b0, o0x0, none⟩ = some (v0x0) ∧ W.cell? ⟨b0, o0x1, none⟩ = some (v0x1) ∧ W.cell? ⟨b0, o0x2, none⟩ = some (v0x2) ∧ W.cell? ⟨b0, o0x3, none⟩ = some (v0x3) ∧ W.cell? ⟨b0, o0x4, none⟩ = some (v0x4) ∧ W.cell? ⟨b0, o0x5, none⟩ = some (v0x5) ∧ W.cell? ⟨b0, o0x6, none⟩ = some (v0x6) ∧ W.cell? ⟨b0, o0x7, none⟩ = some (v0x7) ∧ W.cell? ⟨b0, o0x8, none⟩ = some (v0x8) ∧ W.cell? ⟨b0, o0x9, none⟩ = some (v0x9) ∧ W.cell? ⟨b0, o0x10, none⟩ = some (v0x10) ∧ W.cell? ⟨b0, o0x11, none⟩ = some (v0x11) ∧ W.cell? ⟨b0, o0x12, none⟩ = some (v0x12) ∧ W.cell? ⟨b1, o1x0, none⟩ = some (v1x0) ∧ W.cell? ⟨b1, o1x1, none⟩ = some (v1x1) ∧ W.cell? ⟨b1, o1x2, none⟩ = some (v1x2) ∧ W.cell? ⟨b1, o1x3, none⟩ = some (v1x3) ∧ W.cell? ⟨b1, o1x4, none⟩ = some (v1x4) ∧ W.cell? ⟨b1, o1x5, none⟩ = some (v1x5) ∧ W.cell? ⟨b1, o1x6, none⟩ = some (v1x6) ∧ W.cell? ⟨b1, o1x7, none⟩ = some (v1x7) ∧ W.cell? ⟨b1, o1x8, none⟩ = some (v1x8) ∧ W.cell? ⟨b1, o1x9, none⟩ = some (v1x9) ∧ W.cell? ⟨b1, o1x10, none⟩ = some (v1x10) ∧ W.cell? ⟨b1, o1x11, none⟩ = some (v1x11) ∧ W.cell? ⟨b1, o1x12, none⟩ = some (v1x12)) ∧ b0 < W.heap.size ∧ b1 < W.heap.size)) (hb : Below W.heap.size W W') : ((W'.cell? ⟨b0, o0x0, none⟩ = some (v0x0) ∧ W'.cell? ⟨b0, o0x1, none⟩ = some (v0x1) ∧ W'.cell? ⟨b0, o0x2, none⟩ = some (v0x2) ∧ W'.cell? ⟨b0, o0x3, none⟩ = some (v0x3) ∧ W'.cell? ⟨b0, o0x4, none⟩ = some (v0x4) ∧ W'.cell? ⟨b0, o0x5, none⟩ = some (v0x5) ∧ W'.cell? ⟨b0, o0x6, none⟩ = some (v0x6) ∧ W'.cell? ⟨b0, o0x7, none⟩ = some (v0x7) ∧ W'.cell? ⟨b0, o0x8, none⟩ = some (v0x8) ∧ W'.cell? ⟨b0, o0x9, none⟩ = some (v0x9) ∧ W'.cell? ⟨b0, o0x10, none⟩ = some (v0x10) ∧ W'.cell? ⟨b0, o0x11, none⟩ = some (v0x11) ∧ W'.cell? ⟨b0, o0x12, none⟩ = some (v0x12) ∧ W'.cell? ⟨b1, o1x0, none⟩ = some (v1x0) ∧ W'.cell? ⟨b1, o1x1, none⟩ = some (v1x1) ∧ W'.cell? ⟨b1, o1x2, none⟩ = some (v1x2) ∧ W'.cell? ⟨b1, o1x3, none⟩ = some (v1x3) ∧ W'.cell? ⟨b1, o1x4, none⟩ = some (v1x4) ∧ W'.cell? ⟨b1, o1x5, none⟩ = some (v1x5) ∧ W'.cell? ⟨b1, o1x6, none⟩ = some (v1x6) ∧ W'.cell? ⟨b1, o1x7, none⟩ = some (v1x7) ∧ W'.cell? ⟨b1, o1x8, none⟩ = some (v1x8) ∧ W'.cell? ⟨b1, o1x9, none⟩ = some (v1x9) ∧ W'.cell? ⟨b1, o1x10, none⟩ = some (v1x10) ∧ W'.cell? ⟨b1, o1x11, none⟩ = some (v1x11) ∧ W'.cell? ⟨b1, o1x12, none⟩ = some (v1x12)) ∧ b0 < W'.heap.size ∧ b1 < W'.heap.size) := by
  obtain ⟨⟨h0, h1, h2, h3, h4, h5, h6, h7, h8, h9, h10, h11, h12, h13, h14, h15, h16, h17, h18, h19, h20, h21, h22, h23, h24, h25⟩, s0, s1⟩ := h
  refine ⟨⟨?_, ?_, ?_, ?_, ?_, ?_, ?_, ?_, ?_, ?_, ?_, ?_, ?_, ?_, ?_, ?_, ?_, ?_, ?_, ?_, ?_, ?_, ?_, ?_, ?_, ?_⟩, Nat.lt_of_lt_of_le s0 hb.size, Nat.lt_of_lt_of_le s1 hb.size⟩
  · rw [hb.cell s0]; exact h0
  · rw [hb.cell s0]; exact h1
  · rw [hb.cell s0]; exact h2
  · rw [hb.cell s0]; exact h3
  · rw [hb.cell s0]; exact h4
  · rw [hb.cell s0]; exact h5
  · rw [hb.cell s0]; exact h6
  · rw [hb.cell s0]; exact h7
  · rw [hb.cell s0]; exact h8
  · rw [hb.cell s0]; exact h9
  · rw [hb.cell s0]; exact h10
  · rw [hb.cell s0]; exact h11
  · rw [hb.cell s0]; exact h12
  · rw [hb.cell s1]; exact h13
  · rw [hb.cell s1]; exact h14
  · rw [hb.cell s1]; exact h15
  · rw [hb.cell s1]; exact h16
  · rw [hb.cell s1]; exact h17
  · rw [hb.cell s1]; exact h18
  · rw [hb.cell s1]; exact h19
  · rw [hb.cell s1]; exact h20
  · rw [hb.cell s1]; exact h21
  · rw [hb.cell s1]; exact h22
  · rw [hb.cell s1]; exact h23
  · rw [hb.cell s1]; exact h24
  · rw [hb.cell s1]; exact h25

theorem hd_13_13_set {b0 b1 o0x0 o0x1 o0x2 o0x3 o0x4 o0x5 o0x6 o0x7 o0x8 o0x9 o0x10 o0x11 o0x12 o1x0 o1x1 o1x2 o1x3 o1x4 o1x5 o1x6 o1x7 o1x8 o1x9 o1x10 o1x11 o1x12 : Nat} {v0x0 v0x1 v0x2 v0x3 v0x4 v0x5 v0x6 v0x7 v0x8 v0x9 v0x10 v0x11 v0x12 v1x0 v1x1 v1x2 v1x3 v1x4 v1x5 v1x6 v1x7 v1x8 v1x9 v1x10 v1x11 v1x12 : Value} {W : World} {p : Addr} (h : ((W.cell? ⟨b0, o0x0, none⟩ = some (v0x0) ∧ W.cell? ⟨b0, o0x1, none⟩ = some (v0x1) ∧ W.cell? ⟨b0, o0x2, none⟩ = some (v0x2) ∧ W.cell? ⟨b0, o0x3, none⟩ = some (v0x3) ∧ W.cell? ⟨b0, o0x4, none⟩ = some (v0x4) ∧ W.cell? ⟨b0, o0x5, none⟩ = some (v0x5) ∧ W.cell? ⟨b0, o0x6, none⟩ = some (v0x6) ∧ W.cell? ⟨b0, o0x7, none⟩ = some (v0x7) ∧ W.cell? ⟨b0, o0x8, none⟩ = some (v0x8) ∧ W.cell? ⟨b0, o0x9, none⟩ = some (v0x9) ∧ W.cell? ⟨b0, o0x10, none⟩ = some (v0x10) ∧ W.cell? ⟨b0, o0x11, none⟩ = some (v0x11) ∧ W.cell? ⟨b0, o0x12, none⟩ = some (v0x12) ∧ W.cell? ⟨b1, o1x0, none⟩ = some (v1x0) ∧ W.cell? ⟨b1, o1x1, none⟩ = some (v1x1) ∧ W.cell? ⟨b1, o1x2, none⟩ = some (v1x2) ∧ W.cell? ⟨b1, o1x3, none⟩ = some (v1x3) ∧ W.cell? ⟨b1, o1x4, none⟩ = some (v1x4) ∧ W.cell? ⟨b1, o1x5, none⟩ = some (v1x5) ∧ W.cell? ⟨b1, o1x6, none⟩ = some (v1x6) ∧ W.cell? ⟨b1, o1x7, none⟩ = some (v1x7) ∧ W.cell? ⟨b1, o1x8, none⟩ = some (v1x8) ∧ W.cell? ⟨b1, o1x9, none⟩ = some (v1x9) ∧ W.cell? ⟨b1, o1x10, none⟩ = some (v1x10) ∧ W.cell? ⟨b1, o1x11, none⟩ = some (v1x11) ∧ W.cell? ⟨b1, o1x12, none⟩ = some (v1x12)) ∧ b0 < W.heap.size ∧ b1 < W.heap.size)) (p0 : p.block ≠ b0) (p1 : p.block ≠ b1) (u : Value) : (((W.setCell p u).cell? ⟨b0, o0x0, none⟩ = some (v0x0) ∧ (W.setCell p u).cell? ⟨b0, o0x1, none⟩ = some (v0x1) ∧ (W.setCell p u).cell? ⟨b0, o0x2, none⟩ = some (v0x2) ∧ (W.setCell p u).cell? ⟨b0, o0x3, none⟩ = some (v0x3) ∧ (W.setCell p u).cell? ⟨b0, o0x4, none⟩ = some (v0x4) ∧ (W.setCell p u).cell? ⟨b0, o0x5, none⟩ = some (v0x5) ∧ (W.setCell p u).cell? ⟨b0, o0x6, none⟩ = some (v0x6) ∧ (W.setCell p u).cell? ⟨b0, o0x7, none⟩ = some (v0x7) ∧ (W.setCell p u).cell? ⟨b0, o0x8, none⟩ = some (v0x8) ∧ (W.setCell p u).cell? ⟨b0, o0x9, none⟩ = some (v0x9) ∧ (W.setCell p u).cell? ⟨b0, o0x10, none⟩ = some (v0x10) ∧ (W.setCell p u).cell? ⟨b0, o0x11, none⟩ = some (v0x11) ∧ (W.setCell p u).cell? ⟨b0, o0x12, none⟩ = some (v0x12) ∧ (W.setCell p u).cell? ⟨b1, o1x0, none⟩ = some (v1x0) ∧ (W.setCell p u).cell? ⟨b1, o1x1, none⟩ = some (v1x1) ∧ (W.setCell p u).cell? ⟨b1, o1x2, none⟩ = some (v1x2) ∧ (W.setCell p u).cell? ⟨b1, o1x3, none⟩ = some (v1x3) ∧ (W.setCell p u).cell? ⟨b1, o1x4, none⟩ = some (v1x4) ∧ (W.setCell p u).cell? ⟨b1, o1x5, none⟩ = some (v1x5) ∧ (W.setCell p u).cell? ⟨b1, o1x6, none⟩ = some (v1x6) ∧ (W.setCell p u).cell? ⟨b1, o1x7, none⟩ = some (v1x7) ∧ (W.setCell p u).cell? ⟨b1, o1x8, none⟩ = some (v1x8) ∧ (W.setCell p u).cell? ⟨b1, o1x9, none⟩ = some (v1x9) ∧ (W.setCell p u).cell? ⟨b1, o1x10, none⟩ = some (v1x10) ∧ (W.setCell p u).cell? ⟨b1, o1x11, none⟩ = some (v1x11) ∧ (W.setCell p u).cell? ⟨b1, o1x12, none⟩ = some (v1x12)) ∧ b0 < (W.setCell p u).heap.size ∧ b1 < (W.setCell p u).heap.size) := by
  obtain ⟨⟨h0, h1, h2, h3, h4, h5, h6, h7, h8, h9, h10, h11, h12, h13, h14, h15, h16, h17, h18, h19, h20, h21, h22, h23, h24, h25⟩, s0, s1⟩ := h
  have hb : W.heap.size ≤ (W.setCell p u).heap.size := by simp [World.setCell]
  refine ⟨⟨?_, ?_, ?_, ?_, ?_, ?_, ?_, ?_, ?_, ?_, ?_, ?_, ?_, ?_, ?_, ?_, ?_, ?_, ?_, ?_, ?_, ?_, ?_, ?_, ?_, ?_⟩, Nat.lt_of_lt_of_le s0 hb, Nat.lt_of_lt_of_le s1 hb⟩
  · rw [cell_set_ne p0]; exact h0
  · rw [cell_set_ne p0]; exact h1
  · rw [cell_set_ne p0]; exact h2
  · rw [cell_set_ne p0]; exact h3
  · rw [cell_set_ne p0]; exact h4
  · rw [cell_set_ne p0]; exact h5
  · rw [cell_set_ne p0]; exact h6
  · rw [cell_set_ne p0]; exact h7
  · rw [cell_set_ne p0]; exact h8
  · rw [cell_set_ne p0]; exact h9
  · rw [cell_set_ne p0]; exact h10
  · rw [cell_set_ne p0]; exact h11
  · rw [cell_set_ne p0]; exact h12
  · rw [cell_set_ne p1]; exact h13
  · rw [cell_set_ne p1]; exact h14
  · rw [cell_set_ne p1]; exact h15
  · rw [cell_set_ne p1]; exact h16
  · rw [cell_set_ne p1]; exact h17
  · rw [cell_set_ne p1]; exact h18
  · rw [cell_set_ne p1]; exact h19
  · rw [cell_set_ne p1]; exact h20
  · rw [cell_set_ne p1]; exact h21
  · rw [cell_set_ne p1]; exact h22
  · rw [cell_set_ne p1]; exact h23
  · rw [cell_set_ne p1]; exact h24
  · rw [cell_set_ne p1]; exact h25

theorem hd_13_13_re {b0 b1 o0x0 o0x1 o0x2 o0x3 o0x4 o0x5 o0x6 o0x7 o0x8 o0x9 o0x10 o0x11 o0x12 o1x0 o1x1 o1x2 o1x3 o1x4 o1x5 o1x6 o1x7 o1x8 o1x9 o1x10 o1x11 o1x12 : Nat} {v0x0 v0x1 v0x2 v0x3 v0x4 v0x5 v0x6 v0x7 v0x8 v0x9 v0x10 v0x11 v0x12 v1x0 v1x1 v1x2 v1x3 v1x4 v1x5 v1x6 v1x7 v1x8 v1x9 v1x10 v1x11 v1x12 : Value} {W : World} {o o' : Obj} (h : (((W.alloc o).cell? ⟨b0, o0x0, none⟩ = some (v0x0) ∧ (W.alloc o).cell? ⟨b0, o0x1, none⟩ = some (v0x1) ∧ (W.alloc o).cell? ⟨b0, o0x2, none⟩ = some (v0x2) ∧ (W.alloc o).cell? ⟨b0, o0x3, none⟩ = some (v0x3) ∧ (W.alloc o).cell? ⟨b0, o0x4, none⟩ = some (v0x4) ∧ (W.alloc o).cell? ⟨b0, o0x5, none⟩ = some (v0x5) ∧ (W.alloc o).cell? ⟨b0, o0x6, none⟩ = some (v0x6) ∧ (W.alloc o).cell? ⟨b0, o0x7, none⟩ = some (v0x7) ∧ (W.alloc o).cell? ⟨b0, o0x8, none⟩ = some (v0x8) ∧ (W.alloc o).cell? ⟨b0, o0x9, none⟩ = some (v0x9) ∧ (W.alloc o).cell? ⟨b0, o0x10, none⟩ = some (v0x10) ∧ (W.alloc o).cell? ⟨b0, o0x11, none⟩ = some (v0x11) ∧ (W.alloc o).cell? ⟨b0, o0x12, none⟩ = some (v0x12) ∧ (W.alloc o).cell? ⟨b1, o1x0, none⟩ = some (v1x0) ∧ (W.alloc o).cell? ⟨b1, o1x1, none⟩ = some (v1x1) ∧ (W.alloc o).cell? ⟨b1, o1x2, none⟩ = some (v1x2) ∧ (W.alloc o).cell? ⟨b1, o1x3, none⟩ = some (v1x3) ∧ (W.alloc o).cell? ⟨b1, o1x4, none⟩ = some (v1x4) ∧ (W.alloc o).cell? ⟨b1, o1x5, none⟩ = some (v1x5) ∧ (W.alloc o).cell? ⟨b1, o1x6, none⟩ = some (v1x6) ∧ (W.alloc o).cell? ⟨b1, o1x7, none⟩ = some (v1x7) ∧ (W.alloc o).cell? ⟨b1, o1x8, none⟩ = some (v1x8) ∧ (W.alloc o).cell? ⟨b1, o1x9, none⟩ = some (v1x9) ∧ (W.alloc o).cell? ⟨b1, o1x10, none⟩ = some (v1x10) ∧ (W.alloc o).cell? ⟨b1, o1x11, none⟩ = some (v1x11) ∧ (W.alloc o).cell? ⟨b1, o1x12, none⟩ = some (v1x12)) ∧ b0 < (W.alloc o).heap.size ∧ b1 < (W.alloc o).heap.size)) (p0 : b0 < W.heap.size) (p1 : b1 < W.heap.size) : (((W.alloc o').cell? ⟨b0, o0x0, none⟩ = some (v0x0) ∧ (W.alloc o').cell? ⟨b0, o0x1, none⟩ = some (v0x1) ∧ (W.alloc o').cell? ⟨b0, o0x2, none⟩ = some (v0x2) ∧ (W.alloc o').cell? ⟨b0, o0x3, none⟩ = some (v0x3) ∧ (W.alloc o').cell? ⟨b0, o0x4, none⟩ = some (v0x4) ∧ (W.alloc o').cell? ⟨b0, o0x5, none⟩ = some (v0x5) ∧ (W.alloc o').cell? ⟨b0, o0x6, none⟩ = some (v0x6) ∧ (W.alloc o').cell? ⟨b0, o0x7, none⟩ = some (v0x7) ∧ (W.alloc o').cell? ⟨b0, o0x8, none⟩ = some (v0x8) ∧ (W.alloc o').cell? ⟨b0, o0x9, none⟩ = some (v0x9) ∧ (W.alloc o').cell? ⟨b0, o0x10, none⟩ = some (v0x10) ∧ (W.alloc o').cell? ⟨b0, o0x11, none⟩ = some (v0x11) ∧ (W.alloc o').cell? ⟨b0, o0x12, none⟩ = some (v0x12) ∧ (W.alloc o').cell? ⟨b1, o1x0, none⟩ = some (v1x0) ∧ (W.alloc o').cell? ⟨b1, o1x1, none⟩ = some (v1x1) ∧ (W.alloc o').cell? ⟨b1, o1x2, none⟩ = some (v1x2) ∧ (W.alloc o').cell? ⟨b1, o1x3, none⟩ = some (v1x3) ∧ (W.alloc o').cell? ⟨b1, o1x4, none⟩ = some (v1x4) ∧ (W.alloc o').cell? ⟨b1, o1x5, none⟩ = some (v1x5) ∧ (W.alloc o').cell? ⟨b1, o1x6, none⟩ = some (v1x6) ∧ (W.alloc o').cell? ⟨b1, o1x7, none⟩ = some (v1x7) ∧ (W.alloc o').cell? ⟨b1, o1x8, none⟩ = some (v1x8) ∧ (W.alloc o').cell? ⟨b1, o1x9, none⟩ = some (v1x9) ∧ (W.alloc o').cell? ⟨b1, o1x10, none⟩ = some (v1x10) ∧ (W.alloc o').cell? ⟨b1, o1x11, none⟩ = some (v1x11) ∧ (W.alloc o').cell? ⟨b1, o1x12, none⟩ = some (v1x12)) ∧ b0 < (W.alloc o').heap.size ∧ b1 < (W.alloc o').heap.size) := by
  obtain ⟨⟨h0, h1, h2, h3, h4, h5, h6, h7, h8, h9, h10, h11, h12, h13, h14, h15, h16, h17, h18, h19, h20, h21, h22, h23, h24, h25⟩, s0, s1⟩ := h
  have hb : Below W.heap.size (W.alloc o) (W.alloc o') := bel_re W o o'
  refine ⟨⟨?_, ?_, ?_, ?_, ?_, ?_, ?_, ?_, ?_, ?_, ?_, ?_, ?_, ?_, ?_, ?_, ?_, ?_, ?_, ?_, ?_, ?_, ?_, ?_, ?_, ?_⟩, Nat.lt_of_lt_of_le s0 hb.size, Nat.lt_of_lt_of_le s1 hb.size⟩
  · rw [hb.cell p0]; exact h0
  · rw [hb.cell p0]; exact h1
  · rw [hb.cell p0]; exact h2
  · rw [hb.cell p0]; exact h3
  · rw [hb.cell p0]; exact h4
  · rw [hb.cell p0]; exact h5
  · rw [hb.cell p0]; exact h6
  · rw [hb.cell p0]; exact h7
  · rw [hb.cell p0]; exact h8
  · rw [hb.cell p0]; exact h9
  · rw [hb.cell p0]; exact h10
  · rw [hb.cell p0]; exact h11
  · rw [hb.cell p0]; exact h12
  · rw [hb.cell p1]; exact h13
  · rw [hb.cell p1]; exact h14
  · rw [hb.cell p1]; exact h15
  · rw [hb.cell p1]; exact h16
  · rw [hb.cell p1]; exact h17
  · rw [hb.cell p1]; exact h18
  · rw [hb.cell p1]; exact h19
  · rw [hb.cell p1]; exact h20
  · rw [hb.cell p1]; exact h21
  · rw [hb.cell p1]; exact h22
  · rw [hb.cell p1]; exact h23
  · rw [hb.cell p1]; exact h24
  · rw [hb.cell p1]; exact h25
end Go.Proofs.Ytabphkmhafflbaa
namespace Go.Proofs.Ytabphkmhafflbaa
open Go.ChangeShapes Go.WideShapes Go.ChangeAt Go.RowKit
set_option linter.unusedVariables false

/-- A row of 13 numbers. -/
structure OrR where
  ky : Int
  st : Int
  en : Int
  an : Int
  asu : Int
  ale : Int
  amo : Int
  fn : Int
  fsu : Int
  fle : Int
  fmo : Int
  td : Int
  tm : Bool

/-- A row lies in its cells; rows lie one behind the other; a slice's value holds rows. -/
def OrRAt (W : World) (g o : Nat) (x : OrR) : Prop := W.cell? ⟨g, o, none⟩ = some (.int .i64 x.ky) ∧ W.cell? ⟨g, o + 1, none⟩ = some (.int .i64 x.st) ∧ W.cell? ⟨g, o + 2, none⟩ = some (.int .i64 x.en) ∧ W.cell? ⟨g, o + 3, none⟩ = some (.int .i64 x.an) ∧ W.cell? ⟨g, o + 4, none⟩ = some (.int .i64 x.asu) ∧ W.cell? ⟨g, o + 5, none⟩ = some (.int .i64 x.ale) ∧ W.cell? ⟨g, o + 6, none⟩ = some (.int .i64 x.amo) ∧ W.cell? ⟨g, o + 7, none⟩ = some (.int .i64 x.fn) ∧ W.cell? ⟨g, o + 8, none⟩ = some (.int .i64 x.fsu) ∧ W.cell? ⟨g, o + 9, none⟩ = some (.int .i64 x.fle) ∧ W.cell? ⟨g, o + 10, none⟩ = some (.int .i64 x.fmo) ∧ W.cell? ⟨g, o + 11, none⟩ = some (.int .i64 x.td) ∧ W.cell? ⟨g, o + 12, none⟩ = some (.bool x.tm)

def OrRsAt (W : World) (g o : Nat) (xs : List OrR) : Prop := ∀ i x, xs[i]? = some x → OrRAt W g (o + i * 13) x

def OrRs (W : World) (a : Option Addr) (len : Nat) (xs : List OrR) : Prop := xs.length = len ∧ len ≤ maxLen ∧ (len = 0 ∨ ∃ g o, a = some ⟨g, o, none⟩ ∧ OrRsAt W g o xs)

theorem OrRAt.lt {W : World} {g o : Nat} {x : OrR} (h : OrRAt W g o x) : g < W.heap.size := by
  obtain ⟨h0, _⟩ := h
  rcases Nat.lt_or_ge g W.heap.size with hl | hg
  · exact hl
  · simp [World.cell?, Array.getElem?_eq_none hg] at h0

theorem OrRsAt.lt {W : World} {g o : Nat} {xs : List OrR} (h : OrRsAt W g o xs) (hp : 0 < xs.length) : g < W.heap.size := (h 0 xs[0] (List.getElem?_eq_getElem hp)).lt

theorem OrRAt.below {W W' : World} {B g o : Nat} {x : OrR} (h : OrRAt W g o x) (hb : Below B W W') (hg : g < B) : OrRAt W' g o x := by
  obtain ⟨h0, h1, h2, h3, h4, h5, h6, h7, h8, h9, h10, h11, h12⟩ := h
  exact ⟨(hb.cell (p := ⟨g, _, none⟩) hg).trans h0, (hb.cell (p := ⟨g, _, none⟩) hg).trans h1, (hb.cell (p := ⟨g, _, none⟩) hg).trans h2, (hb.cell (p := ⟨g, _, none⟩) hg).trans h3, (hb.cell (p := ⟨g, _, none⟩) hg).trans h4, (hb.cell (p := ⟨g, _, none⟩) hg).trans h5, (hb.cell (p := ⟨g, _, none⟩) hg).trans h6, (hb.cell (p := ⟨g, _, none⟩) hg).trans h7, (hb.cell (p := ⟨g, _, none⟩) hg).trans h8, (hb.cell (p := ⟨g, _, none⟩) hg).trans h9, (hb.cell (p := ⟨g, _, none⟩) hg).trans h10, (hb.cell (p := ⟨g, _, none⟩) hg).trans h11, (hb.cell (p := ⟨g, _, none⟩) hg).trans h12⟩

theorem OrRsAt.below {W W' : World} {B g o : Nat} {xs : List OrR} (h : OrRsAt W g o xs) (hb : Below B W W') (hg : 0 < xs.length → g < B) : OrRsAt W' g o xs := by
  intro i x hx
  have hlt : i < xs.length := (List.getElem?_eq_some_iff.1 hx).1
  exact (h i x hx).below hb (hg (by omega))

theorem OrRs.below {W W' : World} {a : Option Addr} {len : Nat} {xs : List OrR} (h : OrRs W a len xs) (hb : Below W.heap.size W W') : OrRs W' a len xs := by
  obtain ⟨h1, h2, h3⟩ := h
  refine ⟨h1, h2, ?_⟩
  rcases h3 with h3 | ⟨g, o, ha, hr⟩
  · exact Or.inl h3
  · exact Or.inr ⟨g, o, ha, hr.below hb (fun hp => hr.lt hp)⟩

theorem OrRAt.grown {W W' : World} {row : Option Nat} {g o : Nat} {x : OrR} (h : OrRAt W g o x) (hg : W.grownBy W' row) (hne : some g ≠ row) : OrRAt W' g o x := by
  have hbk := hg.block g h.lt hne
  obtain ⟨h0, h1, h2, h3, h4, h5, h6, h7, h8, h9, h10, h11, h12⟩ := h
  exact ⟨(World.cell?_of_block (w := W) hbk).trans h0, (World.cell?_of_block (w := W) hbk).trans h1, (World.cell?_of_block (w := W) hbk).trans h2, (World.cell?_of_block (w := W) hbk).trans h3, (World.cell?_of_block (w := W) hbk).trans h4, (World.cell?_of_block (w := W) hbk).trans h5, (World.cell?_of_block (w := W) hbk).trans h6, (World.cell?_of_block (w := W) hbk).trans h7, (World.cell?_of_block (w := W) hbk).trans h8, (World.cell?_of_block (w := W) hbk).trans h9, (World.cell?_of_block (w := W) hbk).trans h10, (World.cell?_of_block (w := W) hbk).trans h11, (World.cell?_of_block (w := W) hbk).trans h12⟩

theorem OrRs.grown {W W' : World} {row : Option Nat} {a : Option Addr} {n : Nat} {xs : List OrR} (h : OrRs W a n xs) (hg : W.grownBy W' row) (hne : ∀ g o, 0 < n → a = some ⟨g, o, none⟩ → some g ≠ row) : OrRs W' a n xs := by
  obtain ⟨h1, h2, h3⟩ := h
  refine ⟨h1, h2, ?_⟩
  rcases h3 with h3 | ⟨g, o, ha, hr⟩
  · exact Or.inl h3
  · refine Or.inr ⟨g, o, ha, fun i x hx => (hr i x hx).grown hg (hne g o ?_ ha)⟩
    have hlt : i < xs.length := (List.getElem?_eq_some_iff.1 hx).1
    omega

theorem OrRs.lt {W : World} {g o n : Nat} {xs : List OrR} (h : OrRs W (some ⟨g, o, none⟩) n xs) (hp : 0 < n) : g < W.heap.size := by
  obtain ⟨h1, h2, h3⟩ := h
  obtain ⟨g', o', ha, hr⟩ := h3.resolve_left (by omega)
  simp at ha
  have := hr.lt (by omega)
  omega

/-- A row is stored; a block of rows, known whole. -/
def setOr (W : World) (g o : Nat) (x : OrR) : World := (((((((((((((W.setCell ⟨g, o, none⟩ (.int .i64 x.ky)).setCell ⟨g, o + 1, none⟩ (.int .i64 x.st)).setCell ⟨g, o + 2, none⟩ (.int .i64 x.en)).setCell ⟨g, o + 3, none⟩ (.int .i64 x.an)).setCell ⟨g, o + 4, none⟩ (.int .i64 x.asu)).setCell ⟨g, o + 5, none⟩ (.int .i64 x.ale)).setCell ⟨g, o + 6, none⟩ (.int .i64 x.amo)).setCell ⟨g, o + 7, none⟩ (.int .i64 x.fn)).setCell ⟨g, o + 8, none⟩ (.int .i64 x.fsu)).setCell ⟨g, o + 9, none⟩ (.int .i64 x.fle)).setCell ⟨g, o + 10, none⟩ (.int .i64 x.fmo)).setCell ⟨g, o + 11, none⟩ (.int .i64 x.td)).setCell ⟨g, o + 12, none⟩ (.bool x.tm))

def BlkOr (W : World) (g ty len : Nat) : Prop := ∃ cur, W.heap[g]? = some (.cells cur ty (0, 0)) ∧ cur.size = len * 13

theorem BlkOr.set {W : World} {g ty len i : Nat} (h : BlkOr W g ty len) (v : Value) : BlkOr (W.setCell ⟨g, i, none⟩ v) g ty len := by
  obtain ⟨cur, h1, h2⟩ := h
  exact ⟨_, Joins.block_setCell h1 v, by simp [h2]⟩

theorem BlkOr.below {W W' : World} {g ty len B : Nat} (h : BlkOr W g ty len) (hb : Below B W W') (hg : g < B) : BlkOr W' g ty len := by
  obtain ⟨cur, h1, h2⟩ := h
  exact ⟨cur, (hb.block g hg).trans h1, h2⟩

theorem BlkOr.lt {W : World} {g ty len : Nat} (h : BlkOr W g ty len) : g < W.heap.size := by
  obtain ⟨cur, h1, h2⟩ := h
  exact (Array.getElem?_eq_some_iff.1 h1).1

theorem BlkOr.cell {W : World} {g ty len i : Nat} (h : BlkOr W g ty len) (hi : i < len * 13) : ∃ u, W.cell? ⟨g, i, none⟩ = some u := by
  obtain ⟨cur, h1, h2⟩ := h
  exact ⟨_, (Joins.cell_of_block h1 i).trans (Array.getElem?_eq_getElem (by omega))⟩

theorem BlkOr.frozen {W : World} {g ty len i : Nat} (h : BlkOr W g ty len) : W.frozen? ⟨g, i, none⟩ = false := by
  obtain ⟨cur, h1, h2⟩ := h
  exact Joins.unfrozen_of_block h1 i

theorem BlkOr.cells {W : World} {g ty len k : Nat} (h : BlkOr W g ty len) (hk : k < len) : (∃ u, W.cell? ⟨g, k * 13, none⟩ = some u) ∧ (∃ u, W.cell? ⟨g, k * 13 + 1, none⟩ = some u) ∧ (∃ u, W.cell? ⟨g, k * 13 + 2, none⟩ = some u) ∧ (∃ u, W.cell? ⟨g, k * 13 + 3, none⟩ = some u) ∧ (∃ u, W.cell? ⟨g, k * 13 + 4, none⟩ = some u) ∧ (∃ u, W.cell? ⟨g, k * 13 + 5, none⟩ = some u) ∧ (∃ u, W.cell? ⟨g, k * 13 + 6, none⟩ = some u) ∧ (∃ u, W.cell? ⟨g, k * 13 + 7, none⟩ = some u) ∧ (∃ u, W.cell? ⟨g, k * 13 + 8, none⟩ = some u) ∧ (∃ u, W.cell? ⟨g, k * 13 + 9, none⟩ = some u) ∧ (∃ u, W.cell? ⟨g, k * 13 + 10, none⟩ = some u) ∧ (∃ u, W.cell? ⟨g, k * 13 + 11, none⟩ = some u) ∧ (∃ u, W.cell? ⟨g, k * 13 + 12, none⟩ = some u) := ⟨h.cell (by omega), h.cell (by omega), h.cell (by omega), h.cell (by omega), h.cell (by omega), h.cell (by omega), h.cell (by omega), h.cell (by omega), h.cell (by omega), h.cell (by omega), h.cell (by omega), h.cell (by omega), h.cell (by omega)⟩

theorem BlkOr.sets {W : World} {g ty len o : Nat} (h : BlkOr W g ty len) (x : OrR) : BlkOr (setOr W g o x) g ty len := (((((((((((((h.set _).set _).set _).set _).set _).set _).set _).set _).set _).set _).set _).set _).set _)

theorem Or_other {W : World} {g i j : Nat} {v : Value} (h : i ≠ j) : (W.setCell ⟨g, i, none⟩ v).cell? ⟨g, j, none⟩ = W.cell? ⟨g, j, none⟩ := World.cell?_setCell_other _ _ _ _ (by intro e; injection e with e1 e2; exact h e2)

theorem Or_this {W : World} {g ty len i : Nat} {v : Value} (h : BlkOr W g ty len) (hi : i < len * 13) : (W.setCell ⟨g, i, none⟩ v).cell? ⟨g, i, none⟩ = some v := by
  obtain ⟨u, hu⟩ := h.cell hi
  exact World.cell?_setCell_same _ _ _ hu

theorem setOr_this {W : World} {g ty len k : Nat} (h : BlkOr W g ty len) (hk : k < len) (x : OrR) : OrRAt (setOr W g (k * 13) x) g (k * 13) x := by
  unfold setOr
  refine ⟨?_, ?_, ?_, ?_, ?_, ?_, ?_, ?_, ?_, ?_, ?_, ?_, ?_⟩
  · rw [Or_other (by omega), Or_other (by omega), Or_other (by omega), Or_other (by omega), Or_other (by omega), Or_other (by omega), Or_other (by omega), Or_other (by omega), Or_other (by omega), Or_other (by omega), Or_other (by omega), Or_other (by omega), Or_this h (by omega)]
  · rw [Or_other (by omega), Or_other (by omega), Or_other (by omega), Or_other (by omega), Or_other (by omega), Or_other (by omega), Or_other (by omega), Or_other (by omega), Or_other (by omega), Or_other (by omega), Or_other (by omega), Or_this (h.set _) (by omega)]
  · rw [Or_other (by omega), Or_other (by omega), Or_other (by omega), Or_other (by omega), Or_other (by omega), Or_other (by omega), Or_other (by omega), Or_other (by omega), Or_other (by omega), Or_other (by omega), Or_this ((h.set _).set _) (by omega)]
  · rw [Or_other (by omega), Or_other (by omega), Or_other (by omega), Or_other (by omega), Or_other (by omega), Or_other (by omega), Or_other (by omega), Or_other (by omega), Or_other (by omega), Or_this (((h.set _).set _).set _) (by omega)]
  · rw [Or_other (by omega), Or_other (by omega), Or_other (by omega), Or_other (by omega), Or_other (by omega), Or_other (by omega), Or_other (by omega), Or_other (by omega), Or_this ((((h.set _).set _).set _).set _) (by omega)]
  · rw [Or_other (by omega), Or_other (by omega), Or_other (by omega), Or_other (by omega), Or_other (by omega), Or_other (by omega), Or_other (by omega), Or_this (((((h.set _).set _).set _).set _).set _) (by omega)]
  · rw [Or_other (by omega), Or_other (by omega), Or_other (by omega), Or_other (by omega), Or_other (by omega), Or_other (by omega), Or_this ((((((h.set _).set _).set _).set _).set _).set _) (by omega)]
  · rw [Or_other (by omega), Or_other (by omega), Or_other (by omega), Or_other (by omega), Or_other (by omega), Or_this (((((((h.set _).set _).set _).set _).set _).set _).set _) (by omega)]
  · rw [Or_other (by omega), Or_other (by omega), Or_other (by omega), Or_other (by omega), Or_this ((((((((h.set _).set _).set _).set _).set _).set _).set _).set _) (by omega)]
  · rw [Or_other (by omega), Or_other (by omega), Or_other (by omega), Or_this (((((((((h.set _).set _).set _).set _).set _).set _).set _).set _).set _) (by omega)]
  · rw [Or_other (by omega), Or_other (by omega), Or_this ((((((((((h.set _).set _).set _).set _).set _).set _).set _).set _).set _).set _) (by omega)]
  · rw [Or_other (by omega), Or_this (((((((((((h.set _).set _).set _).set _).set _).set _).set _).set _).set _).set _).set _) (by omega)]
  · rw [Or_this ((((((((((((h.set _).set _).set _).set _).set _).set _).set _).set _).set _).set _).set _).set _) (by omega)]

theorem setOr_ne {W : World} {g i k : Nat} {x y : OrR} (h : OrRAt W g (i * 13) y) (hk : i ≠ k) : OrRAt (setOr W g (k * 13) x) g (i * 13) y := by
  unfold setOr
  obtain ⟨h0, h1, h2, h3, h4, h5, h6, h7, h8, h9, h10, h11, h12⟩ := h
  refine ⟨?_, ?_, ?_, ?_, ?_, ?_, ?_, ?_, ?_, ?_, ?_, ?_, ?_⟩
  · rw [Or_other (by omega), Or_other (by omega), Or_other (by omega), Or_other (by omega), Or_other (by omega), Or_other (by omega), Or_other (by omega), Or_other (by omega), Or_other (by omega), Or_other (by omega), Or_other (by omega), Or_other (by omega), Or_other (by omega)]; exact h0
  · rw [Or_other (by omega), Or_other (by omega), Or_other (by omega), Or_other (by omega), Or_other (by omega), Or_other (by omega), Or_other (by omega), Or_other (by omega), Or_other (by omega), Or_other (by omega), Or_other (by omega), Or_other (by omega), Or_other (by omega)]; exact h1
  · rw [Or_other (by omega), Or_other (by omega), Or_other (by omega), Or_other (by omega), Or_other (by omega), Or_other (by omega), Or_other (by omega), Or_other (by omega), Or_other (by omega), Or_other (by omega), Or_other (by omega), Or_other (by omega), Or_other (by omega)]; exact h2
  · rw [Or_other (by omega), Or_other (by omega), Or_other (by omega), Or_other (by omega), Or_other (by omega), Or_other (by omega), Or_other (by omega), Or_other (by omega), Or_other (by omega), Or_other (by omega), Or_other (by omega), Or_other (by omega), Or_other (by omega)]; exact h3
  · rw [Or_other (by omega), Or_other (by omega), Or_other (by omega), Or_other (by omega), Or_other (by omega), Or_other (by omega), Or_other (by omega), Or_other (by omega), Or_other (by omega), Or_other (by omega), Or_other (by omega), Or_other (by omega), Or_other (by omega)]; exact h4
  · rw [Or_other (by omega), Or_other (by omega), Or_other (by omega), Or_other (by omega), Or_other (by omega), Or_other (by omega), Or_other (by omega), Or_other (by omega), Or_other (by omega), Or_other (by omega), Or_other (by omega), Or_other (by omega), Or_other (by omega)]; exact h5
  · rw [Or_other (by omega), Or_other (by omega), Or_other (by omega), Or_other (by omega), Or_other (by omega), Or_other (by omega), Or_other (by omega), Or_other (by omega), Or_other (by omega), Or_other (by omega), Or_other (by omega), Or_other (by omega), Or_other (by omega)]; exact h6
  · rw [Or_other (by omega), Or_other (by omega), Or_other (by omega), Or_other (by omega), Or_other (by omega), Or_other (by omega), Or_other (by omega), Or_other (by omega), Or_other (by omega), Or_other (by omega), Or_other (by omega), Or_other (by omega), Or_other (by omega)]; exact h7
  · rw [Or_other (by omega), Or_other (by omega), Or_other (by omega), Or_other (by omega), Or_other (by omega), Or_other (by omega), Or_other (by omega), Or_other (by omega), Or_other (by omega), Or_other (by omega), Or_other (by omega), Or_other (by omega), Or_other (by omega)]; exact h8
  · rw [Or_other (by omega), Or_other (by omega), Or_other (by omega), Or_other (by omega), Or_other (by omega), Or_other (by omega), Or_other (by omega), Or_other (by omega), Or_other (by omega), Or_other (by omega), Or_other (by omega), Or_other (by omega), Or_other (by omega)]; exact h9
  · rw [Or_other (by omega), Or_other (by omega), Or_other (by omega), Or_other (by omega), Or_other (by omega), Or_other (by omega), Or_other (by omega), Or_other (by omega), Or_other (by omega), Or_other (by omega), Or_other (by omega), Or_other (by omega), Or_other (by omega)]; exact h10
  · rw [Or_other (by omega), Or_other (by omega), Or_other (by omega), Or_other (by omega), Or_other (by omega), Or_other (by omega), Or_other (by omega), Or_other (by omega), Or_other (by omega), Or_other (by omega), Or_other (by omega), Or_other (by omega), Or_other (by omega)]; exact h11
  · rw [Or_other (by omega), Or_other (by omega), Or_other (by omega), Or_other (by omega), Or_other (by omega), Or_other (by omega), Or_other (by omega), Or_other (by omega), Or_other (by omega), Or_other (by omega), Or_other (by omega), Or_other (by omega), Or_other (by omega)]; exact h12

/-- The cells of rows; a slice of the call's own that holds rows. -/
def OrR.cells (x : OrR) : List Value := [.int .i64 x.ky, .int .i64 x.st, .int .i64 x.en, .int .i64 x.an, .int .i64 x.asu, .int .i64 x.ale, .int .i64 x.amo, .int .i64 x.fn, .int .i64 x.fsu, .int .i64 x.fle, .int .i64 x.fmo, .int .i64 x.td, .bool x.tm]

def flatOr (xs : List OrR) : List Value := xs.flatMap OrR.cells

theorem flatOr_len (xs : List OrR) : (flatOr xs).length = xs.length * 13 := by
  induction xs with
  | nil => rfl
  | cons x r ih => show (x.cells ++ flatOr r).length = _; rw [List.length_append, ih]; simp [OrR.cells]; omega

theorem flatOr_get {xs : List OrR} {i : Nat} {x : OrR} (h : xs[i]? = some x) : (flatOr xs)[i * 13]? = some (.int .i64 x.ky) ∧ (flatOr xs)[i * 13 + 1]? = some (.int .i64 x.st) ∧ (flatOr xs)[i * 13 + 2]? = some (.int .i64 x.en) ∧ (flatOr xs)[i * 13 + 3]? = some (.int .i64 x.an) ∧ (flatOr xs)[i * 13 + 4]? = some (.int .i64 x.asu) ∧ (flatOr xs)[i * 13 + 5]? = some (.int .i64 x.ale) ∧ (flatOr xs)[i * 13 + 6]? = some (.int .i64 x.amo) ∧ (flatOr xs)[i * 13 + 7]? = some (.int .i64 x.fn) ∧ (flatOr xs)[i * 13 + 8]? = some (.int .i64 x.fsu) ∧ (flatOr xs)[i * 13 + 9]? = some (.int .i64 x.fle) ∧ (flatOr xs)[i * 13 + 10]? = some (.int .i64 x.fmo) ∧ (flatOr xs)[i * 13 + 11]? = some (.int .i64 x.td) ∧ (flatOr xs)[i * 13 + 12]? = some (.bool x.tm) := by
  induction xs generalizing i with
  | nil => simp at h
  | cons y r ih =>
    have hf : flatOr (y :: r) = y.cells ++ flatOr r := rfl
    cases i with
    | zero =>
      simp at h
      subst h
      rw [hf]
      exact ⟨rfl, rfl, rfl, rfl, rfl, rfl, rfl, rfl, rfl, rfl, rfl, rfl, rfl⟩
    | succ i =>
      simp at h
      obtain ⟨h0, h1, h2, h3, h4, h5, h6, h7, h8, h9, h10, h11, h12⟩ := ih h
      have hl : y.cells.length = 13 := rfl
      rw [hf]
      refine ⟨?_, ?_, ?_, ?_, ?_, ?_, ?_, ?_, ?_, ?_, ?_, ?_, ?_⟩
      · rw [List.getElem?_append_right (by omega), hl, show (i + 1) * 13 - 13 = i * 13 by omega]; exact h0
      · rw [List.getElem?_append_right (by omega), hl, show (i + 1) * 13 + 1 - 13 = i * 13 + 1 by omega]; exact h1
      · rw [List.getElem?_append_right (by omega), hl, show (i + 1) * 13 + 2 - 13 = i * 13 + 2 by omega]; exact h2
      · rw [List.getElem?_append_right (by omega), hl, show (i + 1) * 13 + 3 - 13 = i * 13 + 3 by omega]; exact h3
      · rw [List.getElem?_append_right (by omega), hl, show (i + 1) * 13 + 4 - 13 = i * 13 + 4 by omega]; exact h4
      · rw [List.getElem?_append_right (by omega), hl, show (i + 1) * 13 + 5 - 13 = i * 13 + 5 by omega]; exact h5
      · rw [List.getElem?_append_right (by omega), hl, show (i + 1) * 13 + 6 - 13 = i * 13 + 6 by omega]; exact h6
      · rw [List.getElem?_append_right (by omega), hl, show (i + 1) * 13 + 7 - 13 = i * 13 + 7 by omega]; exact h7
      · rw [List.getElem?_append_right (by omega), hl, show (i + 1) * 13 + 8 - 13 = i * 13 + 8 by omega]; exact h8
      · rw [List.getElem?_append_right (by omega), hl, show (i + 1) * 13 + 9 - 13 = i * 13 + 9 by omega]; exact h9
      · rw [List.getElem?_append_right (by omega), hl, show (i + 1) * 13 + 10 - 13 = i * 13 + 10 by omega]; exact h10
      · rw [List.getElem?_append_right (by omega), hl, show (i + 1) * 13 + 11 - 13 = i * 13 + 11 by omega]; exact h11
      · rw [List.getElem?_append_right (by omega), hl, show (i + 1) * 13 + 12 - 13 = i * 13 + 12 by omega]; exact h12

def OwnOr (W : World) (B : Nat) (v : Value) (ys : List OrR) : Prop := W.ownsRow B 82 13 v ys.length (flatOr ys)

/-- The block of a slice's rows, if there are any; what may be written; what has been marked. -/
def rowOr (a : Option Addr) (n : Nat) : Option Nat := if n = 0 then none else a.map (·.block)

theorem rowOr_pos {n : Nat} (h : n ≠ 0) (g o : Nat) : rowOr (some ⟨g, o, none⟩) n = some g := by unfold rowOr; rw [if_neg h]; rfl

def markOr (i : Nat) : OrR := ⟨1 + 13 * (i : Int), 1 + 13 * (i : Int) + 1, 1 + 13 * (i : Int) + 1 + 1, 1 + 13 * (i : Int) + 1 + 1 + 1, 1 + 13 * (i : Int) + 1 + 1 + 1 + 1, 1 + 13 * (i : Int) + 1 + 1 + 1 + 1 + 1, 1 + 13 * (i : Int) + 1 + 1 + 1 + 1 + 1 + 1, 1 + 13 * (i : Int) + 1 + 1 + 1 + 1 + 1 + 1 + 1, 1 + 13 * (i : Int) + 1 + 1 + 1 + 1 + 1 + 1 + 1 + 1, 1 + 13 * (i : Int) + 1 + 1 + 1 + 1 + 1 + 1 + 1 + 1 + 1, 1 + 13 * (i : Int) + 1 + 1 + 1 + 1 + 1 + 1 + 1 + 1 + 1 + 1, 1 + 13 * (i : Int) + 1 + 1 + 1 + 1 + 1 + 1 + 1 + 1 + 1 + 1 + 1, decide ((1 + 13 * (i : Int) + 1 + 1 + 1 + 1 + 1 + 1 + 1 + 1 + 1 + 1 + 1 + 1) % 3 = 0)⟩

def WrOr (W : World) (a : Option Addr) (n cap : Nat) : Prop := n = 0 ∨ ∃ g, a = some ⟨g, 0, none⟩ ∧ BlkOr W g 82 cap ∧ n ≤ cap

def MarkedOr (W : World) (a : Option Addr) (n : Nat) : Prop := n = 0 ∨ ∃ g, a = some ⟨g, 0, none⟩ ∧ ∀ i, i < n → OrRAt W g (i * 13) (markOr i)

theorem MarkedOr.below {W W' : World} {a : Option Addr} {n : Nat} (h : MarkedOr W a n) (hb : Below W.heap.size W W') : MarkedOr W' a n := by
  rcases h with h | ⟨g, ha, hM⟩
  · exact Or.inl h
  · exact Or.inr ⟨g, ha, fun i hi => (hM i hi).below hb (hM i hi).lt⟩

theorem holdOr {W : World} {B : Nat} {v : Value} {ys : List OrR} (h : OwnOr W B v ys) (hl : ys.length ≤ 1048576) :
    ∃ a cap, v = .slice a ys.length cap ∧ OrRs W a ys.length ys ∧ WrOr W a ys.length cap ∧ ∀ g o, 0 < ys.length → a = some ⟨g, o, none⟩ → B ≤ g := by
  have hm : ys.length ≤ maxLen := by unfold maxLen; omega
  obtain ⟨hlen, h | ⟨g, cap, cur, rfl, hB, hblk, hnc, hcm, hsz, htk⟩⟩ := h
  · obtain ⟨rfl, h0⟩ := h
    rw [h0]
    exact ⟨none, 0, rfl, ⟨h0, Nat.zero_le _, Or.inl rfl⟩, Or.inl rfl, fun _ _ hp => by omega⟩
  · refine ⟨_, cap, rfl, ⟨rfl, hm, Or.inr ⟨g, 0, rfl, ?_⟩⟩, Or.inr ⟨g, rfl, ⟨cur, hblk, hsz⟩, hnc⟩, fun g' o' _ e => by simp at e; omega⟩
    intro i x hx
    have hi : i < ys.length := (List.getElem?_eq_some_iff.1 hx).1
    have hcell : ∀ j u, j < ys.length * 13 → (flatOr ys)[j]? = some u → W.cell? ⟨g, j, none⟩ = some u := by
      intro j u hj hu
      rw [Joins.cell_of_block hblk j, ← Array.getElem?_toList]
      rw [← htk, List.getElem?_take_of_lt hj] at hu
      exact hu
    obtain ⟨f0, f1, f2, f3, f4, f5, f6, f7, f8, f9, f10, f11, f12⟩ := flatOr_get hx
    rw [Nat.zero_add]
    exact ⟨hcell _ _ (by omega) f0, hcell _ _ (by omega) f1, hcell _ _ (by omega) f2, hcell _ _ (by omega) f3, hcell _ _ (by omega) f4, hcell _ _ (by omega) f5, hcell _ _ (by omega) f6, hcell _ _ (by omega) f7, hcell _ _ (by omega) f8, hcell _ _ (by omega) f9, hcell _ _ (by omega) f10, hcell _ _ (by omega) f11, hcell _ _ (by omega) f12⟩

theorem WrOr.below {W W' : World} {a : Option Addr} {n cap : Nat} (h : WrOr W a n cap) (hb : Below W.heap.size W W') : WrOr W' a n cap := by
  rcases h with h | ⟨g, ha, hB, hc⟩
  · exact Or.inl h
  · exact Or.inr ⟨g, ha, hB.below hb hB.lt, hc⟩

theorem WrOr.grown {W W' : World} {row : Option Nat} {a : Option Addr} {n cap : Nat} (h : WrOr W a n cap) (hg : W.grownBy W' row) (hne : ∀ g o, 0 < n → a = some ⟨g, o, none⟩ → some g ≠ row) : WrOr W' a n cap := by
  rcases h with h | ⟨g, ha, hB, hc⟩
  · exact Or.inl h
  · by_cases h0 : n = 0
    · exact Or.inl h0
    · obtain ⟨cur, c1, c2⟩ := hB
      exact Or.inr ⟨g, ha, ⟨cur, (hg.block g (Array.getElem?_eq_some_iff.1 c1).1 (hne g 0 (by omega) ha)).trans c1, c2⟩, hc⟩
end Go.Proofs.Ytabphkmhafflbaa
namespace Go.Proofs.Ytabphkmhafflbaa
open Go.ChangeShapes Go.WideShapes Go.ChangeAt Go.RowKit
set_option linter.unusedVariables false

theorem within_any (n a b : Int) (w : World) : Calls Try.prog 23 #[.int .i64 n, .int .i64 a, .int .i64 b] w fun e w' => e = .returned (.bool (inB n a b)) ∧ w' = w := by
  by_cases h1 : a ≤ n
  · by_cases h2 : n ≤ b
    · have h3 := hide (inB_tt h1 h2)
      go_enter Try.func23, Try.ntmps23
      go_wp2
      go_ret
      exact ⟨ret_b (unhide h3).symm, rfl⟩
    · have h3 := hide (inB_ff (n := n) (a := a) (b := b) (by omega))
      go_enter Try.func23, Try.ntmps23
      go_wp2
      go_ret
      exact ⟨ret_b (unhide h3).symm, rfl⟩
  · have h3 := hide (inB_ff (n := n) (a := a) (b := b) (by omega))
    go_enter Try.func23, Try.ntmps23
    go_wp2
    go_ret
    exact ⟨ret_b (unhide h3).symm, rfl⟩

theorem l1In_any (n a b : Int) (w : World) : Calls Try.prog 20 #[.int .i64 n, .int .i64 a, .int .i64 b] w fun e w' => e = .returned (.bool (inB n a b)) ∧ w' = w := by
  by_cases h1 : a ≤ n
  · by_cases h2 : n ≤ b
    · have h3 := hide (inB_tt h1 h2)
      go_enter Try.func20, Try.ntmps20
      go_wp2
      go_ret
      exact ⟨ret_b (unhide h3).symm, rfl⟩
    · have h3 := hide (inB_ff (n := n) (a := a) (b := b) (by omega))
      go_enter Try.func20, Try.ntmps20
      go_wp2
      go_ret
      exact ⟨ret_b (unhide h3).symm, rfl⟩
  · have h3 := hide (inB_ff (n := n) (a := a) (b := b) (by omega))
    go_enter Try.func20, Try.ntmps20
    go_wp2
    go_ret
    exact ⟨ret_b (unhide h3).symm, rfl⟩

/-- When a window is ok. -/
def okWin (a b : Int) : Bool := inB a 0 60 && inB b (a + 1) 120

theorem winok_any (a b : Int) (w : World) : Calls Try.prog 42 #[.agg #[.int .i64 a, .int .i64 b]] w fun e w' => e = .returned (.bool (okWin a b)) ∧ Below w.heap.size w w' := by
  by_cases h1 : 0 ≤ a ∧ a ≤ 60
  · obtain ⟨h1, h2⟩ := h1
    have h3 := inB_tt h1 h2
    have h4 : Hid (okWin a b = inB b (a + 1) 120) := hide (by simp [okWin, h3])
    go_enter Try.func42, Try.ntmps42
    go_wp2_with (go_at_call 23; refine (within_any _ _ _ _).mono ?_; rintro e w' ⟨rfl, rfl⟩)
    go_ret
    exact ⟨ret_b (unhide h4).symm, bel_one _ _⟩
  · have h3 := inB_ff (n := a) (a := 0) (b := 60) (by omega)
    have h4 : Hid (okWin a b = false) := hide (by simp [okWin, h3])
    go_enter Try.func42, Try.ntmps42
    go_wp2_with (go_at_call 23; refine (within_any _ _ _ _).mono ?_; rintro e w' ⟨rfl, rfl⟩)
    go_ret
    exact ⟨ret_b (unhide h4).symm, bel_one _ _⟩

theorem implwinok_any (a b : Int) (w : World) : Calls Try.prog 24 #[.agg #[.int .i64 a, .int .i64 b]] w fun e w' => e = .returned (.bool (okWin a b)) ∧ Below w.heap.size w w' := by
  go_enter Try.func24, Try.ntmps24
  go_wp2_with (go_at_call 42; refine (winok_any _ _ _).mono ?_; rintro e w' ⟨rfl, hb⟩)
  go_ret
  exact ⟨rfl, bel_trans (bel_one _ _) hb⟩
end Go.Proofs.Ytabphkmhafflbaa
namespace Go.Proofs.Ytabphkmhafflbaa
open Go.ChangeShapes Go.WideShapes Go.ChangeAt Go.RowKit
set_option linter.unusedVariables false

/-- When what is known is ok. -/
def okAgg (n s l m : Int) : Bool := if n = 0 then (s == 0) && (l == 0) && (m == 0) else inB n 1 1000 && inB l (-9) 9 && inB m l 9 && inB s (n * l) (n * m)

theorem okAgg_0 (s l m : Int) : okAgg 0 s l m = ((s == 0) && (l == 0) && (m == 0)) := rfl

theorem okAgg_n {n : Int} (h : n ≠ 0) (s l m : Int) : okAgg n s l m = (inB n 1 1000 && inB l (-9) 9 && inB m l 9 && inB s (n * l) (n * m)) := if_neg h

theorem mul_in {n l : Int} (h1 : inB n 1 1000 = true) (h2 : inB l (-9) 9 = true) : -9000 ≤ n * l ∧ n * l ≤ 9000 := by
  rw [inB_iff] at h1 h2
  have a := Int.mul_le_mul_of_nonneg_left h2.2 (show (0 : Int) ≤ n by omega)
  have b := Int.mul_le_mul_of_nonneg_left h2.1 (show (0 : Int) ≤ n by omega)
  omega

theorem inB_up {m l : Int} (h1 : inB l (-9) 9 = true) (h2 : inB m l 9 = true) : inB m (-9) 9 = true := by
  rw [inB_iff] at *
  omega

theorem aggok_any (n s l m : Int) (w : World) : Calls Try.prog 60 #[.agg #[.int .i64 n, .int .i64 s, .int .i64 l, .int .i64 m]] w fun e w' => e = .returned (.bool (okAgg n s l m)) ∧ Below w.heap.size w w' := by
  by_cases h0 : n = 0
  · subst h0
    rw [okAgg_0]
    cases c0 : (s == 0) <;> cases c1 : (l == 0) <;> cases c2 : (m == 0)
    all_goals
      have hq : Hid (true = true) := hide rfl
      go_enter Try.func60, Try.ntmps60
      go_wp2_with (go_at_call 23; refine (within_any _ _ _ _).mono ?_; rintro e w' ⟨rfl, rfl⟩)
      go_ret
      exact ⟨rfl, (belC)⟩
  rw [okAgg_n h0]
  have g0 : (n == 0) = false := by simpa using h0
  clear h0
  cases c0 : inB n 1 1000
  · have hq : Hid ((false && inB l (-9) 9 && inB m l 9 && inB s (n * l) (n * m)) = false) := hide (by simp)
    go_enter Try.func60, Try.ntmps60
    go_wp2_with (go_at_call 23; refine (within_any _ _ _ _).mono ?_; rintro e w' ⟨rfl, rfl⟩)
    go_ret
    exact ⟨ret_b (unhide hq).symm, (belC)⟩
  cases c1 : inB l (-9) 9
  · have hq : Hid ((true && false && inB m l 9 && inB s (n * l) (n * m)) = false) := hide (by simp)
    go_enter Try.func60, Try.ntmps60
    go_wp2_with (go_at_call 23; refine (within_any _ _ _ _).mono ?_; rintro e w' ⟨rfl, rfl⟩)
    go_ret
    exact ⟨ret_b (unhide hq).symm, (belC)⟩
  cases c2 : inB m l 9
  · have hq : Hid ((true && true && false && inB s (n * l) (n * m)) = false) := hide (by simp)
    go_enter Try.func60, Try.ntmps60
    go_wp2_with (go_at_call 23; refine (within_any _ _ _ _).mono ?_; rintro e w' ⟨rfl, rfl⟩)
    go_ret
    exact ⟨ret_b (unhide hq).symm, (belC)⟩
  have m1 := mul_in c0 c1
  have m2 := mul_in c0 (inB_up c1 c2)
  have hq : Hid ((true && true && true && inB s (n * l) (n * m)) = inB s (n * l) (n * m)) := hide (by simp)
  go_enter Try.func60, Try.ntmps60
  go_wp2_with (go_at_call 23; refine (within_any _ _ _ _).mono ?_; rintro e w' ⟨rfl, rfl⟩)
  go_ret
  exact ⟨ret_b (unhide hq).symm, (belC)⟩
end Go.Proofs.Ytabphkmhafflbaa
namespace Go.Proofs.Ytabphkmhafflbaa
open Go.ChangeShapes Go.WideShapes Go.ChangeAt Go.RowKit Go.Deep
set_option linter.unusedVariables false


theorem Try.infoOr : (Try.prog.info? 82).map (fun i => (i.zero, i.size, i.bytes)) = some (some (.agg #[.int .i64 0, .int .i64 0, .int .i64 0, .int .i64 0, .int .i64 0, .int .i64 0, .int .i64 0, .int .i64 0, .int .i64 0, .int .i64 0, .int .i64 0, .int .i64 0, .bool false]), 13, 104) := by kernel_rfl

/-- The slice that is being filled. -/
def FillOr (W : World) (g ty len : Nat) (ys : List OrR) : Prop := BlkOr W g ty len ∧ ∀ i x, ys[i]? = some x → OrRAt W g (i * 13) x

theorem FillOr.step {wr w' : World} {g ty len k : Nat} {xs : List OrR} {x : OrR} (h : FillOr wr g ty len (xs.take k)) (hb : Below wr.heap.size wr w') (hk : k < len) (hx : xs[k]? = some x) : FillOr (setOr w' g (k * 13) x) g ty len (xs.take (k + 1)) := by
  have hB := h.1.below hb h.1.lt
  refine ⟨hB.sets x, fun i y hy => ?_⟩
  have hik : i < k + 1 := by
    rcases Nat.lt_or_ge i (k + 1) with h' | h'
    · exact h'
    · rw [List.getElem?_eq_none (by simp; omega)] at hy; cases hy
  rw [List.getElem?_take_of_lt hik] at hy
  by_cases he : i = k
  · subst he
    rw [hx] at hy
    cases hy
    exact setOr_this hB hk x
  · refine setOr_ne ?_ he
    exact (h.2 i y (by rw [List.getElem?_take_of_lt (by omega)]; exact hy)).below hb h.1.lt
end Go.Proofs.Ytabphkmhafflbaa
namespace Go.Proofs.Ytabphkmhafflbaa
open Go.ChangeShapes Go.WideShapes Go.ChangeAt Go.RowKit
set_option linter.unusedVariables false

theorem grown_one {W : World} (p : Addr) (v : Value) : W.grownBy (W.setCell p v) (some p.block) := ⟨rfl, rfl, rfl, by simp [World.setCell], fun k hk hne => Below.heap_setCell W p v k (fun e => hne (by rw [e]))⟩

theorem OrRs.set {W : World} {p : Addr} {v : Value} {a : Option Addr} {n : Nat} {xs : List OrR} (h : OrRs W a n xs) (hp : ∀ g o, 0 < n → a = some ⟨g, o, none⟩ → p.block < g) : OrRs (W.setCell p v) a n xs := h.grown (grown_one p v) (fun g o hn ha => by have := hp g o hn ha; simp; omega)

theorem WrOr.set {W : World} {p : Addr} {v : Value} {a : Option Addr} {n cap : Nat} (h : WrOr W a n cap) (hp : ∀ g o, 0 < n → a = some ⟨g, o, none⟩ → p.block < g) : WrOr (W.setCell p v) a n cap := h.grown (grown_one p v) (fun g o hn ha => by have := hp g o hn ha; simp; omega)
end Go.Proofs.Ytabphkmhafflbaa
namespace Go.Proofs.Ytabphkmhafflbaa
open Go.ChangeShapes Go.WideShapes Go.ChangeAt Go.RowKit Go.Deep
set_option linter.unusedVariables false

theorem cell_lt {W : World} {g o : Nat} {v : Value} (h : W.cell? ⟨g, o, none⟩ = some v) : g < W.heap.size := by
  rcases Nat.lt_or_ge g W.heap.size with hl | hg
  · exact hl
  · simp [World.cell?, Array.getElem?_eq_none hg] at h

theorem Ti_other {W : World} {g i j : Nat} {v : Value} (h : i ≠ j) : (W.setCell ⟨g, i, none⟩ v).cell? ⟨g, j, none⟩ = W.cell? ⟨g, j, none⟩ := World.cell?_setCell_other _ _ _ _ (by intro e; injection e with e1 e2; exact h e2)

/-- All blocks but some stay as they are. -/
structure Kept (S : Nat → Prop) (w w' : World) : Prop where
  os : w'.os = w.os
  tape : w'.tape = w.tape
  output : w'.output = w.output
  size : w.heap.size ≤ w'.heap.size
  blk : ∀ b, b < w.heap.size → ¬ S b → w'.heap[b]? = w.heap[b]?

theorem Kept.refl (S : Nat → Prop) (w : World) : Kept S w w := ⟨rfl, rfl, rfl, Nat.le_refl _, fun _ _ _ => rfl⟩

theorem Kept.trans {S : Nat → Prop} {a b c : World} (h : Kept S a b) (k : Kept S b c) : Kept S a c := ⟨k.os.trans h.os, k.tape.trans h.tape, k.output.trans h.output, Nat.le_trans h.size k.size, fun i hi hS => (k.blk i (Nat.lt_of_lt_of_le hi h.size) hS).trans (h.blk i hi hS)⟩

theorem Kept.mono {S T : Nat → Prop} {w w' : World} (h : Kept S w w') (hs : ∀ b, S b → T b) : Kept T w w' := ⟨h.os, h.tape, h.output, h.size, fun b hb hT => h.blk b hb (fun hS => hT (hs b hS))⟩

theorem Kept.set {S : Nat → Prop} {w W : World} {p : Addr} (h : Kept S w W) (hp : S p.block) (v : Value) : Kept S w (W.setCell p v) := ⟨h.os, h.tape, h.output, by simp [World.setCell]; exact h.size, fun b hb hS => (Below.heap_setCell _ _ _ _ (fun e => hS (by rw [e]; exact hp))).trans (h.blk b hb hS)⟩

theorem Kept.bel {S : Nat → Prop} {B : Nat} {w W W' : World} (h : Below B w W) (hB : B ≤ W.heap.size) (k : Kept S W W') (hS : ∀ b, S b → B ≤ b) : Below B w W' := ⟨k.os.trans h.os, k.tape.trans h.tape, k.output.trans h.output, Nat.le_trans h.size k.size, fun b hb => (k.blk b (by omega) (fun e => by have := hS b e; omega)).trans (h.block b hb)⟩
end Go.Proofs.Ytabphkmhafflbaa
namespace Go.Proofs.Ytabphkmhafflbaa
open Go.ChangeShapes Go.WideShapes Go.ChangeAt Go.RowKit Go.Deep
set_option linter.unusedVariables false

/-- Ints lie one behind the other; a slice's value holds ints. -/
def InAt (W : World) (g o : Nat) (xs : List Int) : Prop := ∀ (i : Nat) (x : Int), xs[i]? = some x → W.cell? ⟨g, o + i, none⟩ = some (.int .i64 x)

def InRs (W : World) (a : Option Addr) (len : Nat) (xs : List Int) : Prop := xs.length = len ∧ len ≤ maxLen ∧ (len = 0 ∨ ∃ g o, a = some ⟨g, o, none⟩ ∧ InAt W g o xs)

theorem InAt.lt {W : World} {g o : Nat} {xs : List Int} (h : InAt W g o xs) (hp : 0 < xs.length) : g < W.heap.size := cell_lt (h 0 xs[0] (List.getElem?_eq_getElem hp))

theorem InRs.below {W W' : World} {a : Option Addr} {len : Nat} {xs : List Int} (h : InRs W a len xs) (hb : Below W.heap.size W W') : InRs W' a len xs := by
  obtain ⟨h1, h2, h3⟩ := h
  refine ⟨h1, h2, ?_⟩
  rcases h3 with h3 | ⟨g, o, ha, hr⟩
  · exact Or.inl h3
  · refine Or.inr ⟨g, o, ha, fun i x hx => ?_⟩
    have hlt : i < xs.length := (List.getElem?_eq_some_iff.1 hx).1
    exact (hb.cell (p := ⟨g, o + i, none⟩) (hr.lt (by omega))).trans (hr i x hx)

theorem InRs.keepB {S : Nat → Prop} {W W' : World} {a : Option Addr} {len : Nat} {xs : List Int} (h : InRs W a len xs) (k : Kept S W W') (hs : ∀ g o, 0 < len → a = some ⟨g, o, none⟩ → ¬ S g) : InRs W' a len xs := by
  obtain ⟨h1, h2, h3⟩ := h
  refine ⟨h1, h2, ?_⟩
  rcases h3 with h3 | ⟨g, o, ha, hr⟩
  · exact Or.inl h3
  · refine Or.inr ⟨g, o, ha, fun i x hx => ?_⟩
    have hlt : i < xs.length := (List.getElem?_eq_some_iff.1 hx).1
    exact (World.cell?_of_block (w := W) (a := ⟨g, o + i, none⟩) (k.blk g (hr.lt (by omega)) (hs g o (by omega) ha))).trans (hr i x hx)


/-- A block of ints, known whole. -/
def BlkIn (W : World) (g len : Nat) : Prop := ∃ cur, W.heap[g]? = some (.cells cur 3 (0, 0)) ∧ cur.size = len

theorem BlkIn.set {W : World} {g len i : Nat} (h : BlkIn W g len) (v : Value) : BlkIn (W.setCell ⟨g, i, none⟩ v) g len := by
  obtain ⟨cur, h1, h2⟩ := h
  exact ⟨_, Joins.block_setCell h1 v, by simp [h2]⟩

theorem BlkIn.lt {W : World} {g len : Nat} (h : BlkIn W g len) : g < W.heap.size := by
  obtain ⟨cur, h1, h2⟩ := h
  exact (Array.getElem?_eq_some_iff.1 h1).1

theorem BlkIn.cell {W : World} {g len i : Nat} (h : BlkIn W g len) (hi : i < len) : ∃ u, W.cell? ⟨g, i, none⟩ = some u := by
  obtain ⟨cur, h1, h2⟩ := h
  exact ⟨_, (Joins.cell_of_block h1 i).trans (Array.getElem?_eq_getElem (by omega))⟩

theorem BlkIn.frozen {W : World} {g len i : Nat} (h : BlkIn W g len) : W.frozen? ⟨g, i, none⟩ = false := by
  obtain ⟨cur, h1, h2⟩ := h
  exact Joins.unfrozen_of_block h1 i

theorem BlkIn.below {W W' : World} {g len B : Nat} (h : BlkIn W g len) (hb : Below B W W') (hg : g < B) : BlkIn W' g len := by
  obtain ⟨cur, h1, h2⟩ := h
  exact ⟨cur, (hb.block g hg).trans h1, h2⟩

def WrIn (W : World) (a : Option Addr) (n : Nat) : Prop := n = 0 ∨ ∃ g, a = some ⟨g, 0, none⟩ ∧ BlkIn W g n

def rowIn (a : Option Addr) (n : Nat) : Option Nat := if n = 0 then none else a.map (·.block)

theorem rowIn_pos {n : Nat} (h : n ≠ 0) (g o : Nat) : rowIn (some ⟨g, o, none⟩) n = some g := by unfold rowIn; rw [if_neg h]; rfl

theorem WrIn.below {W W' : World} {a : Option Addr} {n : Nat} (h : WrIn W a n) (hb : Below W.heap.size W W') : WrIn W' a n := by
  rcases h with h | ⟨g, ha, hB⟩
  · exact Or.inl h
  · exact Or.inr ⟨g, ha, hB.below hb hB.lt⟩

theorem WrIn.keepB {S : Nat → Prop} {W W' : World} {a : Option Addr} {n : Nat} (h : WrIn W a n) (k : Kept S W W') (hs : ∀ b, rowIn a n = some b → ¬ S b) : WrIn W' a n := by
  rcases h with h | ⟨g, ha, hB⟩
  · exact Or.inl h
  · by_cases h0 : n = 0
    · exact Or.inl h0
    · obtain ⟨cur, c1, c2⟩ := hB
      exact Or.inr ⟨g, ha, cur, (k.blk g (Array.getElem?_eq_some_iff.1 c1).1 (hs g (by rw [ha]; exact rowIn_pos h0 g 0))).trans c1, c2⟩
end Go.Proofs.Ytabphkmhafflbaa
namespace Go.Proofs.Ytabphkmhafflbaa
open Go.ChangeShapes Go.WideShapes Go.ChangeAt Go.RowKit Go.Deep
set_option linter.unusedVariables false

/-- Truth values lie one behind the other; a slice's value holds truth values. -/
def BoAt (W : World) (g o : Nat) (xs : List Bool) : Prop := ∀ (i : Nat) (x : Bool), xs[i]? = some x → W.cell? ⟨g, o + i, none⟩ = some (.bool x)

def BoRs (W : World) (a : Option Addr) (len : Nat) (xs : List Bool) : Prop := xs.length = len ∧ len ≤ maxLen ∧ (len = 0 ∨ ∃ g o, a = some ⟨g, o, none⟩ ∧ BoAt W g o xs)

theorem BoAt.lt {W : World} {g o : Nat} {xs : List Bool} (h : BoAt W g o xs) (hp : 0 < xs.length) : g < W.heap.size := cell_lt (h 0 xs[0] (List.getElem?_eq_getElem hp))

theorem BoRs.below {W W' : World} {a : Option Addr} {len : Nat} {xs : List Bool} (h : BoRs W a len xs) (hb : Below W.heap.size W W') : BoRs W' a len xs := by
  obtain ⟨h1, h2, h3⟩ := h
  refine ⟨h1, h2, ?_⟩
  rcases h3 with h3 | ⟨g, o, ha, hr⟩
  · exact Or.inl h3
  · refine Or.inr ⟨g, o, ha, fun i x hx => ?_⟩
    have hlt : i < xs.length := (List.getElem?_eq_some_iff.1 hx).1
    exact (hb.cell (p := ⟨g, o + i, none⟩) (hr.lt (by omega))).trans (hr i x hx)

theorem BoRs.keepB {S : Nat → Prop} {W W' : World} {a : Option Addr} {len : Nat} {xs : List Bool} (h : BoRs W a len xs) (k : Kept S W W') (hs : ∀ g o, 0 < len → a = some ⟨g, o, none⟩ → ¬ S g) : BoRs W' a len xs := by
  obtain ⟨h1, h2, h3⟩ := h
  refine ⟨h1, h2, ?_⟩
  rcases h3 with h3 | ⟨g, o, ha, hr⟩
  · exact Or.inl h3
  · refine Or.inr ⟨g, o, ha, fun i x hx => ?_⟩
    have hlt : i < xs.length := (List.getElem?_eq_some_iff.1 hx).1
    exact (World.cell?_of_block (w := W) (a := ⟨g, o + i, none⟩) (k.blk g (hr.lt (by omega)) (hs g o (by omega) ha))).trans (hr i x hx)


/-- A block of truth values, known whole. -/
def BlkBo (W : World) (g len : Nat) : Prop := ∃ cur, W.heap[g]? = some (.cells cur 4 (0, 0)) ∧ cur.size = len

theorem BlkBo.set {W : World} {g len i : Nat} (h : BlkBo W g len) (v : Value) : BlkBo (W.setCell ⟨g, i, none⟩ v) g len := by
  obtain ⟨cur, h1, h2⟩ := h
  exact ⟨_, Joins.block_setCell h1 v, by simp [h2]⟩

theorem BlkBo.lt {W : World} {g len : Nat} (h : BlkBo W g len) : g < W.heap.size := by
  obtain ⟨cur, h1, h2⟩ := h
  exact (Array.getElem?_eq_some_iff.1 h1).1

theorem BlkBo.cell {W : World} {g len i : Nat} (h : BlkBo W g len) (hi : i < len) : ∃ u, W.cell? ⟨g, i, none⟩ = some u := by
  obtain ⟨cur, h1, h2⟩ := h
  exact ⟨_, (Joins.cell_of_block h1 i).trans (Array.getElem?_eq_getElem (by omega))⟩

theorem BlkBo.frozen {W : World} {g len i : Nat} (h : BlkBo W g len) : W.frozen? ⟨g, i, none⟩ = false := by
  obtain ⟨cur, h1, h2⟩ := h
  exact Joins.unfrozen_of_block h1 i

theorem BlkBo.below {W W' : World} {g len B : Nat} (h : BlkBo W g len) (hb : Below B W W') (hg : g < B) : BlkBo W' g len := by
  obtain ⟨cur, h1, h2⟩ := h
  exact ⟨cur, (hb.block g hg).trans h1, h2⟩

def WrBo (W : World) (a : Option Addr) (n : Nat) : Prop := n = 0 ∨ ∃ g, a = some ⟨g, 0, none⟩ ∧ BlkBo W g n

def rowBo (a : Option Addr) (n : Nat) : Option Nat := if n = 0 then none else a.map (·.block)

theorem rowBo_pos {n : Nat} (h : n ≠ 0) (g o : Nat) : rowBo (some ⟨g, o, none⟩) n = some g := by unfold rowBo; rw [if_neg h]; rfl

theorem WrBo.below {W W' : World} {a : Option Addr} {n : Nat} (h : WrBo W a n) (hb : Below W.heap.size W W') : WrBo W' a n := by
  rcases h with h | ⟨g, ha, hB⟩
  · exact Or.inl h
  · exact Or.inr ⟨g, ha, hB.below hb hB.lt⟩

theorem WrBo.keepB {S : Nat → Prop} {W W' : World} {a : Option Addr} {n : Nat} (h : WrBo W a n) (k : Kept S W W') (hs : ∀ b, rowBo a n = some b → ¬ S b) : WrBo W' a n := by
  rcases h with h | ⟨g, ha, hB⟩
  · exact Or.inl h
  · by_cases h0 : n = 0
    · exact Or.inl h0
    · obtain ⟨cur, c1, c2⟩ := hB
      exact Or.inr ⟨g, ha, cur, (k.blk g (Array.getElem?_eq_some_iff.1 c1).1 (hs g (by rw [ha]; exact rowBo_pos h0 g 0))).trans c1, c2⟩
end Go.Proofs.Ytabphkmhafflbaa
namespace Go.Proofs.Ytabphkmhafflbaa
open Go.ChangeShapes Go.WideShapes Go.ChangeAt Go.RowKit Go.Deep
set_option linter.unusedVariables false

/-- Such rows, in a block that is not below B. -/
def OrB (W : World) (B : Nat) (a : Option Addr) (n : Nat) (xs : List OrR) : Prop := OrRs W a n xs ∧ ∀ g o, 0 < n → a = some ⟨g, o, none⟩ → B ≤ g

theorem OrB.below {W W' : World} {B : Nat} {a : Option Addr} {n : Nat} {xs : List OrR} (h : OrB W B a n xs) (hb : Below W.heap.size W W') : OrB W' B a n xs := ⟨h.1.below hb, h.2⟩

theorem OrB.less {W : World} {B B' : Nat} {a : Option Addr} {n : Nat} {xs : List OrR} (h : OrB W B a n xs) (hB : B' ≤ B) : OrB W B' a n xs := ⟨h.1, fun g o hn ha => Nat.le_trans hB (h.2 g o hn ha)⟩

theorem OrB.len {W : World} {B : Nat} {a : Option Addr} {n : Nat} {xs : List OrR} (h : OrB W B a n xs) : xs.length = n ∧ n ≤ maxLen := ⟨h.1.1, h.1.2.1⟩

theorem OrB.set {W : World} {B : Nat} {p : Addr} {v : Value} {a : Option Addr} {n : Nat} {xs : List OrR} (h : OrB W B a n xs) (hp : p.block < B) : OrB (W.setCell p v) B a n xs := ⟨h.1.grown (grown_one p v) (fun g o hn ha => by have := h.2 g o hn ha; simp; omega), h.2⟩

/-- Such rows, in a block that is not below B. -/
def InB (W : World) (B : Nat) (a : Option Addr) (n : Nat) (xs : List Int) : Prop := InRs W a n xs ∧ ∀ g o, 0 < n → a = some ⟨g, o, none⟩ → B ≤ g

theorem InB.below {W W' : World} {B : Nat} {a : Option Addr} {n : Nat} {xs : List Int} (h : InB W B a n xs) (hb : Below W.heap.size W W') : InB W' B a n xs := ⟨h.1.below hb, h.2⟩

theorem InB.less {W : World} {B B' : Nat} {a : Option Addr} {n : Nat} {xs : List Int} (h : InB W B a n xs) (hB : B' ≤ B) : InB W B' a n xs := ⟨h.1, fun g o hn ha => Nat.le_trans hB (h.2 g o hn ha)⟩

theorem InB.len {W : World} {B : Nat} {a : Option Addr} {n : Nat} {xs : List Int} (h : InB W B a n xs) : xs.length = n ∧ n ≤ maxLen := ⟨h.1.1, h.1.2.1⟩

theorem InB.set {W : World} {B : Nat} {p : Addr} {v : Value} {a : Option Addr} {n : Nat} {xs : List Int} (h : InB W B a n xs) (hp : p.block < B) : InB (W.setCell p v) B a n xs := ⟨h.1.keepB (S := fun b => b = p.block) (Kept.set (S := fun b => b = p.block) (p := p) (Kept.refl _ W) rfl v) (fun g o hn ha => by have := h.2 g o hn ha; omega), h.2⟩

/-- Such rows, in a block that is not below B. -/
def BoB (W : World) (B : Nat) (a : Option Addr) (n : Nat) (xs : List Bool) : Prop := BoRs W a n xs ∧ ∀ g o, 0 < n → a = some ⟨g, o, none⟩ → B ≤ g

theorem BoB.below {W W' : World} {B : Nat} {a : Option Addr} {n : Nat} {xs : List Bool} (h : BoB W B a n xs) (hb : Below W.heap.size W W') : BoB W' B a n xs := ⟨h.1.below hb, h.2⟩

theorem BoB.less {W : World} {B B' : Nat} {a : Option Addr} {n : Nat} {xs : List Bool} (h : BoB W B a n xs) (hB : B' ≤ B) : BoB W B' a n xs := ⟨h.1, fun g o hn ha => Nat.le_trans hB (h.2 g o hn ha)⟩

theorem BoB.len {W : World} {B : Nat} {a : Option Addr} {n : Nat} {xs : List Bool} (h : BoB W B a n xs) : xs.length = n ∧ n ≤ maxLen := ⟨h.1.1, h.1.2.1⟩

theorem BoB.set {W : World} {B : Nat} {p : Addr} {v : Value} {a : Option Addr} {n : Nat} {xs : List Bool} (h : BoB W B a n xs) (hp : p.block < B) : BoB (W.setCell p v) B a n xs := ⟨h.1.keepB (S := fun b => b = p.block) (Kept.set (S := fun b => b = p.block) (p := p) (Kept.refl _ W) rfl v) (fun g o hn ha => by have := h.2 g o hn ha; omega), h.2⟩

/-- What is kept of a task. -/
structure SnD where
  ma : Int
  rows : List OrR
  marks : List Int

def SnAt (W : World) (B g o : Nat) (x : SnD) : Prop := ∃ (a1 : Option Addr) (l1 c1 : Nat) (a2 : Option Addr) (l2 c2 : Nat), (W.cell? ⟨g, o, none⟩ = some (.int .i64 x.ma) ∧ W.cell? ⟨g, o + 1, none⟩ = some (.slice a1 l1 c1) ∧ W.cell? ⟨g, o + 2, none⟩ = some (.slice a2 l2 c2)) ∧ OrB W B a1 l1 x.rows ∧ InB W B a2 l2 x.marks

def SnB (W : World) (B : Nat) (a : Option Addr) (len : Nat) (xs : List SnD) : Prop := xs.length = len ∧ len ≤ maxLen ∧ (len = 0 ∨ ∃ g o, a = some ⟨g, o, none⟩ ∧ B ≤ g ∧ ∀ (i : Nat) (x : SnD), xs[i]? = some x → SnAt W B g (o + i * 3) x)

theorem SnAt.lt {W : World} {B g o : Nat} {x : SnD} (h : SnAt W B g o x) : g < W.heap.size := by
  obtain ⟨a1, l1, c1, a2, l2, c2, ⟨h0, h1, h2⟩, k1, k2⟩ := h
  exact cell_lt h0

theorem SnAt.below {W W' : World} {B g o : Nat} {x : SnD} (h : SnAt W B g o x) (hb : Below W.heap.size W W') : SnAt W' B g o x := by
  have hg := h.lt
  obtain ⟨a1, l1, c1, a2, l2, c2, ⟨h0, h1, h2⟩, k1, k2⟩ := h
  exact ⟨a1, l1, c1, a2, l2, c2, ⟨(hb.cell (p := ⟨g, _, none⟩) hg).trans h0, (hb.cell (p := ⟨g, _, none⟩) hg).trans h1, (hb.cell (p := ⟨g, _, none⟩) hg).trans h2⟩, k1.below hb, k2.below hb⟩

theorem SnAt.less {W : World} {B B' g o : Nat} {x : SnD} (h : SnAt W B g o x) (hB : B' ≤ B) : SnAt W B' g o x := by
  obtain ⟨a1, l1, c1, a2, l2, c2, ⟨h0, h1, h2⟩, k1, k2⟩ := h
  exact ⟨a1, l1, c1, a2, l2, c2, ⟨h0, h1, h2⟩, k1.less hB, k2.less hB⟩

theorem SnAt.set {W : World} {B g o : Nat} {p : Addr} {v : Value} {x : SnD} (h : SnAt W B g o x) (hg : p.block ≠ g) (hp : p.block < B) : SnAt (W.setCell p v) B g o x := by
  obtain ⟨a1, l1, c1, a2, l2, c2, ⟨h0, h1, h2⟩, k1, k2⟩ := h
  exact ⟨a1, l1, c1, a2, l2, c2, ⟨(cell_set_ne hg).trans h0, (cell_set_ne hg).trans h1, (cell_set_ne hg).trans h2⟩, k1.set hp, k2.set hp⟩

theorem SnB.below {W W' : World} {B : Nat} {a : Option Addr} {len : Nat} {xs : List SnD} (h : SnB W B a len xs) (hb : Below W.heap.size W W') : SnB W' B a len xs := by
  obtain ⟨h1, h2, h3⟩ := h
  refine ⟨h1, h2, ?_⟩
  rcases h3 with h3 | ⟨g, o, ha, hB9, hr⟩
  · exact Or.inl h3
  · exact Or.inr ⟨g, o, ha, hB9, fun i x hx => (hr i x hx).below hb⟩

theorem SnB.less {W : World} {B B' : Nat} {a : Option Addr} {len : Nat} {xs : List SnD} (h : SnB W B a len xs) (hB : B' ≤ B) : SnB W B' a len xs := by
  obtain ⟨h1, h2, h3⟩ := h
  refine ⟨h1, h2, ?_⟩
  rcases h3 with h3 | ⟨g, o, ha, hB9, hr⟩
  · exact Or.inl h3
  · exact Or.inr ⟨g, o, ha, Nat.le_trans hB hB9, fun i x hx => (hr i x hx).less hB⟩

theorem SnB.set {W : World} {B : Nat} {p : Addr} {v : Value} {a : Option Addr} {len : Nat} {xs : List SnD} (h : SnB W B a len xs) (hp : p.block < B) : SnB (W.setCell p v) B a len xs := by
  obtain ⟨h1, h2, h3⟩ := h
  refine ⟨h1, h2, ?_⟩
  rcases h3 with h3 | ⟨g, o, ha, hB9, hr⟩
  · exact Or.inl h3
  · exact Or.inr ⟨g, o, ha, hB9, fun i x hx => (hr i x hx).set (by omega) hp⟩

theorem SnB.len {W : World} {B : Nat} {a : Option Addr} {len : Nat} {xs : List SnD} (h : SnB W B a len xs) : xs.length = len ∧ len ≤ maxLen := ⟨h.1, h.2.1⟩

/-- A block of such, known whole; one that is being filled. -/
def setSn (W : World) (g o : Nat) (v0 v1 v2 : Value) : World := (((W.setCell ⟨g, o, none⟩ v0).setCell ⟨g, o + 1, none⟩ v1).setCell ⟨g, o + 2, none⟩ v2)

def BlkSn (W : World) (g ty len : Nat) : Prop := ∃ cur, W.heap[g]? = some (.cells cur ty (0, 0)) ∧ cur.size = len * 3

theorem BlkSn.set {W : World} {g ty len i : Nat} (h : BlkSn W g ty len) (v : Value) : BlkSn (W.setCell ⟨g, i, none⟩ v) g ty len := by
  obtain ⟨cur, h1, h2⟩ := h
  exact ⟨_, Joins.block_setCell h1 v, by simp [h2]⟩

theorem BlkSn.below {W W' : World} {g ty len B : Nat} (h : BlkSn W g ty len) (hb : Below B W W') (hg : g < B) : BlkSn W' g ty len := by
  obtain ⟨cur, h1, h2⟩ := h
  exact ⟨cur, (hb.block g hg).trans h1, h2⟩

theorem BlkSn.lt {W : World} {g ty len : Nat} (h : BlkSn W g ty len) : g < W.heap.size := by
  obtain ⟨cur, h1, h2⟩ := h
  exact (Array.getElem?_eq_some_iff.1 h1).1

theorem BlkSn.cell {W : World} {g ty len i : Nat} (h : BlkSn W g ty len) (hi : i < len * 3) : ∃ u, W.cell? ⟨g, i, none⟩ = some u := by
  obtain ⟨cur, h1, h2⟩ := h
  exact ⟨_, (Joins.cell_of_block h1 i).trans (Array.getElem?_eq_getElem (by omega))⟩

theorem BlkSn.frozen {W : World} {g ty len i : Nat} (h : BlkSn W g ty len) : W.frozen? ⟨g, i, none⟩ = false := by
  obtain ⟨cur, h1, h2⟩ := h
  exact Joins.unfrozen_of_block h1 i

theorem Sn_this {W : World} {g ty len i : Nat} {v : Value} (h : BlkSn W g ty len) (hi : i < len * 3) : (W.setCell ⟨g, i, none⟩ v).cell? ⟨g, i, none⟩ = some v := by
  obtain ⟨u, hu⟩ := h.cell hi
  exact World.cell?_setCell_same _ _ _ hu

theorem setSn_this {W : World} {g ty len k : Nat} {x : SnD} {a1 : Option Addr} {l1 c1 : Nat} {a2 : Option Addr} {l2 c2 : Nat} (h : BlkSn W g ty len) (hk : k < len) (k1 : OrB W (g + 1) a1 l1 x.rows) (k2 : InB W (g + 1) a2 l2 x.marks) : SnAt (setSn W g (k * 3) (.int .i64 x.ma) (.slice a1 l1 c1) (.slice a2 l2 c2)) (g + 1) g (k * 3) x := by
  unfold setSn
  refine ⟨a1, l1, c1, a2, l2, c2, ⟨?_, ?_, ?_⟩, (((k1.set (by simp)).set (by simp)).set (by simp)), (((k2.set (by simp)).set (by simp)).set (by simp))⟩
  · rw [Ti_other (by omega), Ti_other (by omega), Sn_this h (by omega)]
  · rw [Ti_other (by omega), Sn_this (h.set _) (by omega)]
  · rw [Sn_this ((h.set _).set _) (by omega)]

theorem setSn_ne {W : World} {g i k : Nat} {x : SnD} {v0 v1 v2 : Value} (h : SnAt W (g + 1) g (i * 3) x) (hk : i ≠ k) : SnAt (setSn W g (k * 3) v0 v1 v2) (g + 1) g (i * 3) x := by
  unfold setSn
  obtain ⟨a1, l1, c1, a2, l2, c2, ⟨h0, h1, h2⟩, k1, k2⟩ := h
  refine ⟨a1, l1, c1, a2, l2, c2, ⟨?_, ?_, ?_⟩, (((k1.set (by simp)).set (by simp)).set (by simp)), (((k2.set (by simp)).set (by simp)).set (by simp))⟩
  · rw [Ti_other (by omega), Ti_other (by omega), Ti_other (by omega)]; exact h0
  · rw [Ti_other (by omega), Ti_other (by omega), Ti_other (by omega)]; exact h1
  · rw [Ti_other (by omega), Ti_other (by omega), Ti_other (by omega)]; exact h2

def FillSn (W : World) (g ty len : Nat) (ys : List SnD) : Prop := BlkSn W g ty len ∧ ∀ (i : Nat) (x : SnD), ys[i]? = some x → SnAt W (g + 1) g (i * 3) x

theorem FillSn.step {wr w' : World} {g ty len k : Nat} {xs : List SnD} {x : SnD} {a1 : Option Addr} {l1 c1 : Nat} {a2 : Option Addr} {l2 c2 : Nat} (h : FillSn wr g ty len (xs.take k)) (hb : Below wr.heap.size wr w') (hk : k < len) (hx : xs[k]? = some x) (k1 : OrB w' (g + 1) a1 l1 x.rows) (k2 : InB w' (g + 1) a2 l2 x.marks) : FillSn (setSn w' g (k * 3) (.int .i64 x.ma) (.slice a1 l1 c1) (.slice a2 l2 c2)) g ty len (xs.take (k + 1)) := by
  have hB := h.1.below hb h.1.lt
  refine ⟨(((hB.set _).set _).set _), fun i y hy => ?_⟩
  have hik : i < k + 1 := by
    rcases Nat.lt_or_ge i (k + 1) with h' | h'
    · exact h'
    · rw [List.getElem?_eq_none (by simp; omega)] at hy; cases hy
  rw [List.getElem?_take_of_lt hik] at hy
  by_cases he : i = k
  · subst he
    rw [hx] at hy
    cases hy
    exact setSn_this hB hk k1 k2
  · refine setSn_ne ?_ he
    exact (h.2 i y (by rw [List.getElem?_take_of_lt (by omega)]; exact hy)).below hb


def SnD.sm (x : SnD) : Prop := x.rows.length ≤ 1048576 ∧ x.marks.length ≤ 1048576

theorem hd_3_3 {b0 b1 o0x0 o0x1 o0x2 o1x0 o1x1 o1x2 : Nat} {v0x0 v0x1 v0x2 v1x0 v1x1 v1x2 : Value} {W W' : World} (h : ((W.cell? ⟨b0, o0x0, none⟩ = some (v0x0) ∧ W.cell? ⟨b0, o0x1, none⟩ = some (v0x1) ∧ W.cell? ⟨b0, o0x2, none⟩ = some (v0x2) ∧ W.cell? ⟨b1, o1x0, none⟩ = some (v1x0) ∧ W.cell? ⟨b1, o1x1, none⟩ = some (v1x1) ∧ W.cell? ⟨b1, o1x2, none⟩ = some (v1x2)) ∧ b0 < W.heap.size ∧ b1 < W.heap.size)) (hb : Below W.heap.size W W') : ((W'.cell? ⟨b0, o0x0, none⟩ = some (v0x0) ∧ W'.cell? ⟨b0, o0x1, none⟩ = some (v0x1) ∧ W'.cell? ⟨b0, o0x2, none⟩ = some (v0x2) ∧ W'.cell? ⟨b1, o1x0, none⟩ = some (v1x0) ∧ W'.cell? ⟨b1, o1x1, none⟩ = some (v1x1) ∧ W'.cell? ⟨b1, o1x2, none⟩ = some (v1x2)) ∧ b0 < W'.heap.size ∧ b1 < W'.heap.size) := by
  obtain ⟨⟨h0, h1, h2, h3, h4, h5⟩, s0, s1⟩ := h
  refine ⟨⟨?_, ?_, ?_, ?_, ?_, ?_⟩, Nat.lt_of_lt_of_le s0 hb.size, Nat.lt_of_lt_of_le s1 hb.size⟩
  · rw [hb.cell s0]; exact h0
  · rw [hb.cell s0]; exact h1
  · rw [hb.cell s0]; exact h2
  · rw [hb.cell s1]; exact h3
  · rw [hb.cell s1]; exact h4
  · rw [hb.cell s1]; exact h5

theorem hd_3_3_set {b0 b1 o0x0 o0x1 o0x2 o1x0 o1x1 o1x2 : Nat} {v0x0 v0x1 v0x2 v1x0 v1x1 v1x2 : Value} {W : World} {p : Addr} (h : ((W.cell? ⟨b0, o0x0, none⟩ = some (v0x0) ∧ W.cell? ⟨b0, o0x1, none⟩ = some (v0x1) ∧ W.cell? ⟨b0, o0x2, none⟩ = some (v0x2) ∧ W.cell? ⟨b1, o1x0, none⟩ = some (v1x0) ∧ W.cell? ⟨b1, o1x1, none⟩ = some (v1x1) ∧ W.cell? ⟨b1, o1x2, none⟩ = some (v1x2)) ∧ b0 < W.heap.size ∧ b1 < W.heap.size)) (p0 : p.block ≠ b0) (p1 : p.block ≠ b1) (u : Value) : (((W.setCell p u).cell? ⟨b0, o0x0, none⟩ = some (v0x0) ∧ (W.setCell p u).cell? ⟨b0, o0x1, none⟩ = some (v0x1) ∧ (W.setCell p u).cell? ⟨b0, o0x2, none⟩ = some (v0x2) ∧ (W.setCell p u).cell? ⟨b1, o1x0, none⟩ = some (v1x0) ∧ (W.setCell p u).cell? ⟨b1, o1x1, none⟩ = some (v1x1) ∧ (W.setCell p u).cell? ⟨b1, o1x2, none⟩ = some (v1x2)) ∧ b0 < (W.setCell p u).heap.size ∧ b1 < (W.setCell p u).heap.size) := by
  obtain ⟨⟨h0, h1, h2, h3, h4, h5⟩, s0, s1⟩ := h
  have hb : W.heap.size ≤ (W.setCell p u).heap.size := by simp [World.setCell]
  refine ⟨⟨?_, ?_, ?_, ?_, ?_, ?_⟩, Nat.lt_of_lt_of_le s0 hb, Nat.lt_of_lt_of_le s1 hb⟩
  · rw [cell_set_ne p0]; exact h0
  · rw [cell_set_ne p0]; exact h1
  · rw [cell_set_ne p0]; exact h2
  · rw [cell_set_ne p1]; exact h3
  · rw [cell_set_ne p1]; exact h4
  · rw [cell_set_ne p1]; exact h5

theorem hd_3_3_re {b0 b1 o0x0 o0x1 o0x2 o1x0 o1x1 o1x2 : Nat} {v0x0 v0x1 v0x2 v1x0 v1x1 v1x2 : Value} {W : World} {o o' : Obj} (h : (((W.alloc o).cell? ⟨b0, o0x0, none⟩ = some (v0x0) ∧ (W.alloc o).cell? ⟨b0, o0x1, none⟩ = some (v0x1) ∧ (W.alloc o).cell? ⟨b0, o0x2, none⟩ = some (v0x2) ∧ (W.alloc o).cell? ⟨b1, o1x0, none⟩ = some (v1x0) ∧ (W.alloc o).cell? ⟨b1, o1x1, none⟩ = some (v1x1) ∧ (W.alloc o).cell? ⟨b1, o1x2, none⟩ = some (v1x2)) ∧ b0 < (W.alloc o).heap.size ∧ b1 < (W.alloc o).heap.size)) (p0 : b0 < W.heap.size) (p1 : b1 < W.heap.size) : (((W.alloc o').cell? ⟨b0, o0x0, none⟩ = some (v0x0) ∧ (W.alloc o').cell? ⟨b0, o0x1, none⟩ = some (v0x1) ∧ (W.alloc o').cell? ⟨b0, o0x2, none⟩ = some (v0x2) ∧ (W.alloc o').cell? ⟨b1, o1x0, none⟩ = some (v1x0) ∧ (W.alloc o').cell? ⟨b1, o1x1, none⟩ = some (v1x1) ∧ (W.alloc o').cell? ⟨b1, o1x2, none⟩ = some (v1x2)) ∧ b0 < (W.alloc o').heap.size ∧ b1 < (W.alloc o').heap.size) := by
  obtain ⟨⟨h0, h1, h2, h3, h4, h5⟩, s0, s1⟩ := h
  have hb : Below W.heap.size (W.alloc o) (W.alloc o') := bel_re W o o'
  refine ⟨⟨?_, ?_, ?_, ?_, ?_, ?_⟩, Nat.lt_of_lt_of_le s0 hb.size, Nat.lt_of_lt_of_le s1 hb.size⟩
  · rw [hb.cell p0]; exact h0
  · rw [hb.cell p0]; exact h1
  · rw [hb.cell p0]; exact h2
  · rw [hb.cell p1]; exact h3
  · rw [hb.cell p1]; exact h4
  · rw [hb.cell p1]; exact h5
end Go.Proofs.Ytabphkmhafflbaa
namespace Go.Proofs.Ytabphkmhafflbaa
open Go.ChangeShapes Go.WideShapes Go.ChangeAt Go.RowKit Go.Deep
set_option linter.unusedVariables false

/-- What is safe. -/
structure CsD where
  sfn : Int
  at_ : List Int
  ssn : List SnD

/-- Checkpoints. -/
structure CkD where
  n : Int
  op : Bool
  src : List Int
  tsk : List Bool
  sn : List SnD
  sfn : Int
  at_ : List Int
  ssn : List SnD
end Go.Proofs.Ytabphkmhafflbaa
namespace Go.Proofs.Ytabphkmhafflbaa
open Go.ChangeShapes Go.WideShapes Go.ChangeAt Go.RowKit Go.Deep
set_option linter.unusedVariables false

/-- A block of one-cell elements, known whole. -/
def BlkC (W : World) (g ty cap : Nat) : Prop := ∃ cur, W.heap[g]? = some (.cells cur ty (0, 0)) ∧ cur.size = cap

theorem BlkC.set {W : World} {g ty cap i : Nat} (h : BlkC W g ty cap) (v : Value) : BlkC (W.setCell ⟨g, i, none⟩ v) g ty cap := by
  obtain ⟨cur, h1, h2⟩ := h
  exact ⟨_, Joins.block_setCell h1 v, by simp [h2]⟩

theorem BlkC.lt {W : World} {g ty cap : Nat} (h : BlkC W g ty cap) : g < W.heap.size := by
  obtain ⟨cur, h1, h2⟩ := h
  exact (Array.getElem?_eq_some_iff.1 h1).1

theorem BlkC.keep {W W' : World} {g ty cap : Nat} (h : BlkC W g ty cap) (hb : W'.heap[g]? = W.heap[g]?) : BlkC W' g ty cap := by
  obtain ⟨cur, h1, h2⟩ := h
  exact ⟨cur, hb.trans h1, h2⟩

theorem BlkC.cell {W : World} {g ty cap i : Nat} (h : BlkC W g ty cap) (hi : i < cap) : ∃ u, W.cell? ⟨g, i, none⟩ = some u := by
  obtain ⟨cur, h1, h2⟩ := h
  exact ⟨_, (Joins.cell_of_block h1 i).trans (Array.getElem?_eq_getElem (by omega))⟩

theorem BlkC.frozen {W : World} {g ty cap i : Nat} (h : BlkC W g ty cap) : W.frozen? ⟨g, i, none⟩ = false := by
  obtain ⟨cur, h1, h2⟩ := h
  exact Joins.unfrozen_of_block h1 i

/-- Such a slice may be written; its block. -/
def WrC (W : World) (ty : Nat) (a : Option Addr) (n cap : Nat) : Prop := n = 0 ∨ ∃ g, a = some ⟨g, 0, none⟩ ∧ BlkC W g ty cap ∧ n ≤ cap

def rowC (a : Option Addr) (n : Nat) : Option Nat := if n = 0 then none else a.map (·.block)

theorem rowC_pos {n : Nat} (h : n ≠ 0) (g o : Nat) : rowC (some ⟨g, o, none⟩) n = some g := by unfold rowC; rw [if_neg h]; rfl

theorem WrC.keep {W W' : World} {ty : Nat} {a : Option Addr} {n cap : Nat} (h : WrC W ty a n cap) (hb : ∀ b, rowC a n = some b → W'.heap[b]? = W.heap[b]?) : WrC W' ty a n cap := by
  by_cases h0 : n = 0
  · exact Or.inl h0
  · obtain ⟨g, ha, hB, hc⟩ := h.resolve_left h0
    subst ha
    exact Or.inr ⟨g, rfl, hB.keep (hb g (rowC_pos h0 g 0)), hc⟩

theorem WrC.lt {W : World} {ty : Nat} {a : Option Addr} {n cap : Nat} (h : WrC W ty a n cap) : ∀ b, rowC a n = some b → b < W.heap.size := by
  intro b hb
  by_cases h0 : n = 0
  · simp [rowC, h0] at hb
  · obtain ⟨g, ha, hB, hc⟩ := h.resolve_left h0
    subst ha
    rw [rowC_pos h0] at hb
    cases hb
    exact hB.lt

theorem WrC.below {W W' : World} {ty : Nat} {a : Option Addr} {n cap : Nat} (h : WrC W ty a n cap) (hb : Below W.heap.size W W') : WrC W' ty a n cap := h.keep (fun b hr => hb.block b (h.lt b hr))

/-- Marked from a number on. -/
def MkIn (W : World) (a : Option Addr) (n : Nat) (K : Int) : Prop := n = 0 ∨ ∃ g, a = some ⟨g, 0, none⟩ ∧ ∀ i : Nat, i < n → W.cell? ⟨g, i, none⟩ = some (.int .i64 (K + (i : Int)))

theorem MkIn.keep {W W' : World} {a : Option Addr} {n : Nat} {K : Int} (h : MkIn W a n K) (hb : ∀ b, rowC a n = some b → W'.heap[b]? = W.heap[b]?) : MkIn W' a n K := by
  by_cases h0 : n = 0
  · exact Or.inl h0
  · obtain ⟨g, ha, hM⟩ := h.resolve_left h0
    subst ha
    have e := hb g (rowC_pos h0 g 0)
    exact Or.inr ⟨g, rfl, fun i hi => (World.cell?_of_block (a := ⟨g, i, none⟩) e).trans (hM i hi)⟩

/-- Marked from a number on. -/
def MkBo (W : World) (a : Option Addr) (n : Nat) (K : Int) : Prop := n = 0 ∨ ∃ g, a = some ⟨g, 0, none⟩ ∧ ∀ i : Nat, i < n → W.cell? ⟨g, i, none⟩ = some (.bool ((K + (i : Int)) % 3 == 0))

theorem MkBo.keep {W W' : World} {a : Option Addr} {n : Nat} {K : Int} (h : MkBo W a n K) (hb : ∀ b, rowC a n = some b → W'.heap[b]? = W.heap[b]?) : MkBo W' a n K := by
  by_cases h0 : n = 0
  · exact Or.inl h0
  · obtain ⟨g, ha, hM⟩ := h.resolve_left h0
    subst ha
    have e := hb g (rowC_pos h0 g 0)
    exact Or.inr ⟨g, rfl, fun i hi => (World.cell?_of_block (a := ⟨g, i, none⟩) e).trans (hM i hi)⟩
end Go.Proofs.Ytabphkmhafflbaa
namespace Go.Proofs.Ytabphkmhafflbaa
open Go.ChangeShapes Go.WideShapes Go.ChangeAt Go.RowKit
set_option linter.unusedVariables false

def markKOr (K : Int) (i : Nat) : OrR := ⟨K + 13 * (i : Int), K + 13 * (i : Int) + 1, K + 13 * (i : Int) + 1 + 1, K + 13 * (i : Int) + 1 + 1 + 1, K + 13 * (i : Int) + 1 + 1 + 1 + 1, K + 13 * (i : Int) + 1 + 1 + 1 + 1 + 1, K + 13 * (i : Int) + 1 + 1 + 1 + 1 + 1 + 1, K + 13 * (i : Int) + 1 + 1 + 1 + 1 + 1 + 1 + 1, K + 13 * (i : Int) + 1 + 1 + 1 + 1 + 1 + 1 + 1 + 1, K + 13 * (i : Int) + 1 + 1 + 1 + 1 + 1 + 1 + 1 + 1 + 1, K + 13 * (i : Int) + 1 + 1 + 1 + 1 + 1 + 1 + 1 + 1 + 1 + 1, K + 13 * (i : Int) + 1 + 1 + 1 + 1 + 1 + 1 + 1 + 1 + 1 + 1 + 1, decide ((K + 13 * (i : Int) + 1 + 1 + 1 + 1 + 1 + 1 + 1 + 1 + 1 + 1 + 1 + 1) % 3 = 0)⟩

def MarkedKOr (W : World) (a : Option Addr) (n : Nat) (K : Int) : Prop := n = 0 ∨ ∃ g, a = some ⟨g, 0, none⟩ ∧ ∀ i, i < n → OrRAt W g (i * 13) (markKOr K i)

theorem MarkedKOr.below {W W' : World} {a : Option Addr} {n : Nat} {K : Int} (h : MarkedKOr W a n K) (hb : Below W.heap.size W W') : MarkedKOr W' a n K := by
  rcases h with h | ⟨g, ha, hM⟩
  · exact Or.inl h
  · exact Or.inr ⟨g, ha, fun i hi => (hM i hi).below hb (hM i hi).lt⟩

theorem MarkedKOr.keep {W W' : World} {a : Option Addr} {n : Nat} {K : Int} (h : MarkedKOr W a n K) (hb : ∀ g o, 0 < n → a = some ⟨g, o, none⟩ → W'.heap[g]? = W.heap[g]?) : MarkedKOr W' a n K := by
  rcases h with h | ⟨g, ha, hM⟩
  · exact Or.inl h
  · refine Or.inr ⟨g, ha, fun i hi => ?_⟩
    have hbk := hb g 0 (by omega) ha
    obtain ⟨h0, h1, h2, h3, h4, h5, h6, h7, h8, h9, h10, h11, h12⟩ := hM i hi
    exact ⟨(World.cell?_of_block (w := W) hbk).trans h0, (World.cell?_of_block (w := W) hbk).trans h1, (World.cell?_of_block (w := W) hbk).trans h2, (World.cell?_of_block (w := W) hbk).trans h3, (World.cell?_of_block (w := W) hbk).trans h4, (World.cell?_of_block (w := W) hbk).trans h5, (World.cell?_of_block (w := W) hbk).trans h6, (World.cell?_of_block (w := W) hbk).trans h7, (World.cell?_of_block (w := W) hbk).trans h8, (World.cell?_of_block (w := W) hbk).trans h9, (World.cell?_of_block (w := W) hbk).trans h10, (World.cell?_of_block (w := W) hbk).trans h11, (World.cell?_of_block (w := W) hbk).trans h12⟩
end Go.Proofs.Ytabphkmhafflbaa
namespace Go.Proofs.Ytabphkmhafflbaa
open Go.ChangeShapes Go.WideShapes Go.ChangeAt Go.RowKit Go.Deep
set_option linter.unusedVariables false

/-- Where the rows and the marks of one lie. -/
structure SnV where
  a1 : Option Addr
  l1 : Nat
  c1 : Nat
  a2 : Option Addr
  l2 : Nat
  c2 : Nat

def SnV.has (v : SnV) (b : Nat) : Prop := rowOr v.a1 v.l1 = some b ∨ rowC v.a2 v.l2 = some b

def rowSn (a : Option Addr) (n : Nat) : Option Nat := if n = 0 then none else a.map (·.block)

theorem rowSn_pos {n : Nat} (h : n ≠ 0) (g o : Nat) : rowSn (some ⟨g, o, none⟩) n = some g := by unfold rowSn; rw [if_neg h]; rfl

def SnS (a : Option Addr) (n : Nat) (vs : List SnV) (b : Nat) : Prop := rowSn a n = some b ∨ ∃ (i : Nat) (v : SnV), vs[i]? = some v ∧ v.has b

/-- The number behind marking. -/
def kSn (K : Int) (vs : List SnV) : Int := vs.foldl (fun k v => k + 1 + 13 * (v.l1 : Int) + (v.l2 : Int)) K

/-- A list of them may be written, all of it apart. -/
structure WrSn (W : World) (a : Option Addr) (n cap : Nat) (vs : List SnV) : Prop where
  len : vs.length = n
  blk : n = 0 ∨ ∃ g, a = some ⟨g, 0, none⟩ ∧ BlkSn W g 48 cap ∧ n ≤ cap ∧ ∀ (i : Nat) (v : SnV), vs[i]? = some v → W.cell? ⟨g, i * 3 + 1, none⟩ = some (.slice v.a1 v.l1 v.c1) ∧ W.cell? ⟨g, i * 3 + 2, none⟩ = some (.slice v.a2 v.l2 v.c2)
  ro : ∀ (i : Nat) (v : SnV), vs[i]? = some v → WrOr W v.a1 v.l1 v.c1
  ri : ∀ (i : Nat) (v : SnV), vs[i]? = some v → WrC W 3 v.a2 v.l2 v.c2
  lims : ∀ (i : Nat) (v : SnV), vs[i]? = some v → v.l1 ≤ 1048576 ∧ v.l2 ≤ 1048576
  s0 : ∀ (i : Nat) (v : SnV) (b : Nat), vs[i]? = some v → v.has b → rowSn a n ≠ some b
  s1 : ∀ (i : Nat) (v : SnV) (b : Nat), vs[i]? = some v → rowOr v.a1 v.l1 = some b → rowC v.a2 v.l2 ≠ some b
  s2 : ∀ (i j : Nat) (v u : SnV) (b : Nat), vs[i]? = some v → vs[j]? = some u → i ≠ j → v.has b → ¬ u.has b

/-- Marked from a number on. -/
def MkSn (W : World) (a : Option Addr) (n : Nat) (K : Int) (vs : List SnV) : Prop := n = 0 ∨ ∃ g, a = some ⟨g, 0, none⟩ ∧ ∀ (i : Nat) (v : SnV), vs[i]? = some v → W.cell? ⟨g, i * 3, none⟩ = some (.int .i64 (kSn K (vs.take i))) ∧ W.cell? ⟨g, i * 3 + 1, none⟩ = some (.slice v.a1 v.l1 v.c1) ∧ W.cell? ⟨g, i * 3 + 2, none⟩ = some (.slice v.a2 v.l2 v.c2) ∧ MarkedKOr W v.a1 v.l1 (kSn K (vs.take i) + 1) ∧ MkIn W v.a2 v.l2 (kSn K (vs.take i) + 1 + 13 * (v.l1 : Int))

theorem MarkedKOr.keepR {W W' : World} {a : Option Addr} {n : Nat} {K : Int} (h : MarkedKOr W a n K) (hb : ∀ b, rowOr a n = some b → W'.heap[b]? = W.heap[b]?) : MarkedKOr W' a n K := h.keep (fun g o hp ha => hb g (by subst ha; exact rowOr_pos (by omega) g o))

theorem WrOr.keepR {W W' : World} {a : Option Addr} {n cap : Nat} (h : WrOr W a n cap) (hb : ∀ b, rowOr a n = some b → W'.heap[b]? = W.heap[b]?) : WrOr W' a n cap := by
  by_cases h0 : n = 0
  · exact Or.inl h0
  · rcases h with h | ⟨g, ha, ⟨cur, h1, h2⟩, hc⟩
    · exact absurd h h0
    · subst ha
      exact Or.inr ⟨g, rfl, ⟨cur, (hb g (rowOr_pos h0 g 0)).trans h1, h2⟩, hc⟩

theorem MkSn.keep {W W' : World} {a : Option Addr} {n : Nat} {K : Int} {vs : List SnV} (h : MkSn W a n K vs) (hb : ∀ b, SnS a n vs b → W'.heap[b]? = W.heap[b]?) : MkSn W' a n K vs := by
  by_cases h0 : n = 0
  · exact Or.inl h0
  · obtain ⟨g, ha, hM⟩ := h.resolve_left h0
    subst ha
    have e : W'.heap[g]? = W.heap[g]? := hb g (Or.inl (rowSn_pos h0 g 0))
    refine Or.inr ⟨g, rfl, fun i v hv => ?_⟩
    obtain ⟨m0, m1, m2, m3, m4⟩ := hM i v hv
    exact ⟨(World.cell?_of_block (a := ⟨g, i * 3, none⟩) e).trans m0, (World.cell?_of_block (a := ⟨g, i * 3 + 1, none⟩) e).trans m1, (World.cell?_of_block (a := ⟨g, i * 3 + 2, none⟩) e).trans m2, m3.keepR (fun b hr => hb b (Or.inr ⟨i, v, hv, Or.inl hr⟩)), m4.keep (fun b hr => hb b (Or.inr ⟨i, v, hv, Or.inr hr⟩))⟩
end Go.Proofs.Ytabphkmhafflbaa
namespace Go.Proofs.Ytabphkmhafflbaa
open Go.ChangeShapes Go.WideShapes Go.ChangeAt Go.RowKit Go.Deep
set_option linter.unusedVariables false

/-- Checkpoints that may be written, all of them apart. -/
structure WrCk (W : World) (a2 : Option Addr) (l2 c2 : Nat) (a3 : Option Addr) (l3 c3 : Nat) (a4 : Option Addr) (l4 c4 : Nat) (a6 : Option Addr) (l6 c6 : Nat) (a7 : Option Addr) (l7 c7 : Nat) (v4 v7 : List SnV) : Prop where
  r2 : WrC W 3 a2 l2 c2
  r3 : WrC W 4 a3 l3 c3
  r4 : WrSn W a4 l4 c4 v4
  r6 : WrC W 3 a6 l6 c6
  r7 : WrSn W a7 l7 c7 v7
  lims : l2 ≤ 1048576 ∧ l3 ≤ 1048576 ∧ l4 ≤ 1048576 ∧ l6 ≤ 1048576 ∧ l7 ≤ 1048576
  d1 : ∀ b, rowC a2 l2 = some b → ¬ (rowC a3 l3 = some b ∨ SnS a4 l4 v4 b ∨ rowC a6 l6 = some b ∨ SnS a7 l7 v7 b)
  d2 : ∀ b, rowC a3 l3 = some b → ¬ (SnS a4 l4 v4 b ∨ rowC a6 l6 = some b ∨ SnS a7 l7 v7 b)
  d3 : ∀ b, SnS a4 l4 v4 b → ¬ (rowC a6 l6 = some b ∨ SnS a7 l7 v7 b)
  d4 : ∀ b, rowC a6 l6 = some b → ¬ SnS a7 l7 v7 b

def CkS (a2 : Option Addr) (l2 : Nat) (a3 : Option Addr) (l3 : Nat) (a4 : Option Addr) (l4 : Nat) (a6 : Option Addr) (l6 : Nat) (a7 : Option Addr) (l7 : Nat) (v4 v7 : List SnV) (b : Nat) : Prop := rowC a2 l2 = some b ∨ rowC a3 l3 = some b ∨ SnS a4 l4 v4 b ∨ rowC a6 l6 = some b ∨ SnS a7 l7 v7 b

theorem WrSn.keep {W W' : World} {a : Option Addr} {n cap : Nat} {vs : List SnV} (h : WrSn W a n cap vs) (hb : ∀ b, SnS a n vs b → W'.heap[b]? = W.heap[b]?) : WrSn W' a n cap vs := by
  refine ⟨h.len, ?_, fun i v hv => (h.ro i v hv).keepR (fun b hr => hb b (Or.inr ⟨i, v, hv, Or.inl hr⟩)), fun i v hv => (h.ri i v hv).keep (fun b hr => hb b (Or.inr ⟨i, v, hv, Or.inr hr⟩)), h.lims, h.s0, h.s1, h.s2⟩
  by_cases h0 : n = 0
  · exact Or.inl h0
  · obtain ⟨g, ha, ⟨cur, b1, b2⟩, hc, hS⟩ := h.blk.resolve_left h0
    subst ha
    have e : W'.heap[g]? = W.heap[g]? := hb g (Or.inl (rowSn_pos h0 g 0))
    exact Or.inr ⟨g, rfl, ⟨cur, e.trans b1, b2⟩, hc, fun i v hv => ⟨(World.cell?_of_block (a := ⟨g, i * 3 + 1, none⟩) e).trans (hS i v hv).1, (World.cell?_of_block (a := ⟨g, i * 3 + 2, none⟩) e).trans (hS i v hv).2⟩⟩

theorem WrCk.keep {W W' : World} {a2 a3 a4 a6 a7 : Option Addr} {l2 c2 l3 c3 l4 c4 l6 c6 l7 c7 : Nat} {v4 v7 : List SnV} (h : WrCk W a2 l2 c2 a3 l3 c3 a4 l4 c4 a6 l6 c6 a7 l7 c7 v4 v7) (hb : ∀ b, CkS a2 l2 a3 l3 a4 l4 a6 l6 a7 l7 v4 v7 b → W'.heap[b]? = W.heap[b]?) : WrCk W' a2 l2 c2 a3 l3 c3 a4 l4 c4 a6 l6 c6 a7 l7 c7 v4 v7 :=
  ⟨h.r2.keep (fun b hr => hb b (Or.inl hr)), h.r3.keep (fun b hr => hb b (Or.inr (Or.inl hr))), h.r4.keep (fun b hr => hb b (Or.inr (Or.inr (Or.inl hr)))), h.r6.keep (fun b hr => hb b (Or.inr (Or.inr (Or.inr (Or.inl hr))))), h.r7.keep (fun b hr => hb b (Or.inr (Or.inr (Or.inr (Or.inr hr))))), h.lims, h.d1, h.d2, h.d3, h.d4⟩

/-- The numbers behind each part. -/
def kC3 (l2 : Nat) : Int := 1 + (l2 : Int)

def kC4 (l2 l3 : Nat) : Int := 1 + (l2 : Int) + (l3 : Int)

def kC6 (l2 l3 : Nat) (v4 : List SnV) : Int := kSn (1 + (l2 : Int) + (l3 : Int)) v4

def kC7 (l2 l3 : Nat) (v4 : List SnV) (l6 : Nat) : Int := kC6 l2 l3 v4 + (l6 : Int)

/-- Checkpoints marked from 1 on. -/
structure MkCk (W : World) (a2 : Option Addr) (l2 : Nat) (a3 : Option Addr) (l3 : Nat) (a4 : Option Addr) (l4 : Nat) (a6 : Option Addr) (l6 : Nat) (a7 : Option Addr) (l7 : Nat) (v4 v7 : List SnV) : Prop where
  r2 : MkIn W a2 l2 1
  r3 : MkBo W a3 l3 (kC3 l2)
  r4 : MkSn W a4 l4 (kC4 l2 l3) v4
  r6 : MkIn W a6 l6 (kC6 l2 l3 v4)
  r7 : MkSn W a7 l7 (kC7 l2 l3 v4 l6) v7
  lims : l2 ≤ 1048576 ∧ l3 ≤ 1048576 ∧ l4 ≤ 1048576 ∧ l6 ≤ 1048576 ∧ l7 ≤ 1048576
  lens : v4.length = l4 ∧ v7.length = l7
  vl : (∀ (i : Nat) (v : SnV), v4[i]? = some v → v.l1 ≤ 1048576 ∧ v.l2 ≤ 1048576) ∧ ∀ (i : Nat) (v : SnV), v7[i]? = some v → v.l1 ≤ 1048576 ∧ v.l2 ≤ 1048576

theorem MkCk.keep {W W' : World} {a2 a3 a4 a6 a7 : Option Addr} {l2 l3 l4 l6 l7 : Nat} {v4 v7 : List SnV} (h : MkCk W a2 l2 a3 l3 a4 l4 a6 l6 a7 l7 v4 v7) (hb : ∀ b, CkS a2 l2 a3 l3 a4 l4 a6 l6 a7 l7 v4 v7 b → W'.heap[b]? = W.heap[b]?) : MkCk W' a2 l2 a3 l3 a4 l4 a6 l6 a7 l7 v4 v7 :=
  ⟨h.r2.keep (fun b hr => hb b (Or.inl hr)), h.r3.keep (fun b hr => hb b (Or.inr (Or.inl hr))), h.r4.keep (fun b hr => hb b (Or.inr (Or.inr (Or.inl hr)))), h.r6.keep (fun b hr => hb b (Or.inr (Or.inr (Or.inr (Or.inl hr))))), h.r7.keep (fun b hr => hb b (Or.inr (Or.inr (Or.inr (Or.inr hr))))), h.lims, h.lens, h.vl⟩
end Go.Proofs.Ytabphkmhafflbaa
