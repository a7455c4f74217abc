/- Laid together: what the claim needs of the texts that were built one by one. -/
import Derived.Below
import Derived.BigQuiet
import Derived.Carry
import Derived.ChangeOld
import Derived.Deep.DeepCutAuto
import Derived.Deep.Fields
import Derived.Deep.QuietTactic
import Derived.Deep.RegionHeld3
import Derived.Deep.Slices
import Derived.LoopN
import Derived.OpenShut
import Derived.OrdersHeld
import Derived.ProofKit
import Derived.ShutString
import Derived.Test.YtblmhpngaccllaaRows
import Derived.WalkKit
namespace Go.Proofs.Ytblmhpngaccllaa
/- Short names for library rows. -/
theorem tA {α : Type _} {l : List α} {i : Nat} {a : α} : l.toArray.setIfInBounds i a = (l.set i a).toArray := List.setIfInBounds_toArray l i a
theorem tZ {α : Type _} {x a : α} {l : List α} : (x :: l).set 0 a = a :: l := rfl
theorem tS {α : Type _} {x a : α} {l : List α} {i : Nat} : (x :: l).set (i + 1) a = x :: l.set i a := rfl
theorem gA {α : Type _} {l : List α} {i : Nat} : l.toArray[i]? = l[i]? := List.getElem?_toArray
theorem gZ {α : Type _} {x : α} {l : List α} : (x :: l)[0]? = some x := rfl
theorem gS {α : Type _} {x : α} {l : List α} {i : Nat} : (x :: l)[i + 1]? = l[i]? := rfl
open Go.ChangeShapes Go.WideShapes Go.ChangeAt Go.RowKit
theorem belA {B : Nat} {w W : World} (h : Below B w W := by repeat (first | (with_reducible exact Below.refl _ _) | (with_reducible assumption) | (with_reducible refine bel_set ?_ (by first | (simp; done) | (simp; omega)) _) | (with_reducible refine bel_alloc ?_ _) | (with_reducible refine bel_drew ?_) | (with_reducible refine bel_drewN ?_ _) | (with_reducible refine bel_trans ?_ (by with_reducible assumption)))) : Below B w W := h
theorem belB {B : Nat} {w W : World} (h : Below B w W := by repeat (first | (with_reducible refine bel_set ?_ (by first | (simp; done) | (simp; omega)) _) | (with_reducible refine bel_alloc ?_ _) | (with_reducible exact Below.refl _ _) | (with_reducible assumption) | (with_reducible refine bel_drew ?_) | (with_reducible refine bel_drewN ?_ _) | (with_reducible refine bel_trans ?_ (by with_reducible assumption)))) : Below B w W := h
theorem belC {B : Nat} {w W : World} (h : Below B w W := by repeat (first | exact Below.refl _ _ | exact bel_one _ _ | assumption | refine bel_alloc ?_ _ | refine bel_set ?_ (by first | (simp; done) | (simp; omega)) _ | refine bel_drew ?_ | refine bel_drewN ?_ _ | refine bel_trans ?_ (by assumption))) : Below B w W := h
theorem sA {p : Prop} (h : p := by first | (simp; done) | (simp; omega)) : p := h
theorem sB {p : Prop} (h : p := by first | omega | (simp; done) | (simp; omega)) : p := h
theorem sC {p : Prop} (h : p := by first | (simp; done) | (simp; omega) | omega) : p := h
end Go.Proofs.Ytblmhpngaccllaa
namespace Go.Proofs.Ytblmhpngaccllaa
open Go.ChangeShapes Go.WideShapes Go.ChangeAt Go.RowKit Go.Deep
set_option linter.unusedVariables false

theorem bel_trans {w w1 w2 : World} (h : Below w.heap.size w w1) (k : Below w1.heap.size w1 w2) : Below w.heap.size w w2 := h.trans (k.mono h.size)

theorem bel_alloc {w w1 : World} (h : Below w.heap.size w w1) (o : Obj) : Below w.heap.size w (w1.alloc o) := h.alloc h.size o

theorem bel_drew {w w1 : World} (h : Below w.heap.size w w1) : Below w.heap.size w w1.drew := h.drew

theorem bel_drewN {w w1 : World} (h : Below w.heap.size w w1) (n : Nat) : Below w.heap.size w (w1.drewN n) := h.trans ⟨rfl, rfl, rfl, Nat.le_refl _, fun _ _ => rfl⟩

theorem bel_set {w w1 : World} {p : Addr} (h : Below w.heap.size w w1) (hp : w.heap.size ≤ p.block) (u : Value) : Below w.heap.size w (w1.setCell p u) := h.setCell hp u

theorem bel_re (W : World) (o o' : Obj) : Below W.heap.size (W.alloc o) (W.alloc o') := ⟨rfl, rfl, rfl, by simp, fun k hk => by rw [Below.heap_alloc _ _ _ hk, Below.heap_alloc _ _ _ hk]⟩

theorem cell_set_ne {W : World} {p : Addr} {u : Value} {b o : Nat} (h : p.block ≠ b) : (W.setCell p u).cell? ⟨b, o, none⟩ = W.cell? ⟨b, o, none⟩ := World.cell?_of_block (w := W) (Below.heap_setCell _ _ _ _ (fun e => h e.symm))

theorem bel_one (w : World) (o : Obj) : Below w.heap.size w (w.alloc o) := bel_alloc (Below.refl _ _) o

theorem bcell {W w1 : World} (hb : Below W.heap.size W w1) : (∀ b o, b < W.heap.size → w1.cell? ⟨b, o, none⟩ = W.cell? ⟨b, o, none⟩) ∧ (∀ b o, b < W.heap.size → w1.frozen? ⟨b, o, none⟩ = W.frozen? ⟨b, o, none⟩) ∧ (∀ b, b < W.heap.size → b < w1.heap.size) :=
  ⟨fun b o h => hb.cell (p := ⟨b, o, none⟩) h, fun b o h => hb.frozen (p := ⟨b, o, none⟩) h, fun b h => Nat.lt_of_lt_of_le h hb.size⟩

theorem hide {p : Prop} (h : p) : Hid p := h

theorem unhide {p : Prop} (h : Hid p) : p := h

theorem ret_i {a b : Int} (h : a = b) : Ending.returned (.int .i64 a) = .returned (.int .i64 b) := by rw [h]

theorem ret_b {a b : Bool} (h : a = b) : Ending.returned (.bool a) = .returned (.bool b) := by rw [h]

/-- The lesser and the greater of two. -/
def loI (a c : Int) : Int := if c < a then c else a

def hiI (b d : Int) : Int := if b < d then d else b

theorem loI_a {a c : Int} (h : ¬ c < a) : loI a c = a := if_neg h

theorem loI_c {a c : Int} (h : c < a) : loI a c = c := if_pos h

theorem hiI_b {b d : Int} (h : ¬ b < d) : hiI b d = b := if_neg h

theorem hiI_d {b d : Int} (h : b < d) : hiI b d = d := if_pos h

/-- Whether a number is from least to most. -/
def inB (n a b : Int) : Bool := decide (a ≤ n ∧ n ≤ b)

theorem inB_tt {n a b : Int} (h1 : a ≤ n) (h2 : n ≤ b) : inB n a b = true := decide_eq_true ⟨h1, h2⟩

theorem inB_ff {n a b : Int} (h : n < a ∨ b < n) : inB n a b = false := decide_eq_false (by omega)
end Go.Proofs.Ytblmhpngaccllaa
namespace Go.Proofs.Ytblmhpngaccllaa
open Go.ChangeShapes Go.WideShapes Go.ChangeAt Go.RowKit Go.Deep
set_option linter.unusedVariables false

/-- The cells of a list of fields, from a place on: false for an int, true for a bool. -/
def flatFs (P : Program) (rec : TypeId → Option (List Bool)) : List Field → Nat → Option (List Bool)
  | [], _ => some []
  | f :: r, off => match rec f.type with
    | some ks => if f.offset = off ∧ P.cellsOf f.type = ks.length then
        match flatFs P rec r (off + ks.length) with
        | some rest => some (ks ++ rest)
        | none => none
      else none
    | none => none

def flatK (P : Program) : Nat → TypeId → Option (List Bool)
  | 0, _ => none
  | n + 1, t => match P.underlying t with
    | some (.int .i64) => some [false]
    | some .bool => some [true]
    | some (.struct fs) => match flatFs P (flatK P n) fs.toList 0 with
      | some ks => if P.cellsOf t = ks.length then some ks else none
      | none => none
    | _ => none
end Go.Proofs.Ytblmhpngaccllaa
namespace Go.Proofs.Ytblmhpngaccllaa
open Go.ChangeShapes Go.WideShapes Go.ChangeAt Go.RowKit
set_option linter.unusedVariables false

/-- Bytes that lie behind a slice. -/
def BytesAt (w : World) (a : Option Addr) (len : Nat) : Prop := len = 0 ∨ ∃ g o, a = some ⟨g, o, none⟩ ∧ ∀ i, i < len → ∃ z : Int, w.cell? ⟨g, o + i, none⟩ = some (.int .u8 z) ∧ 0 ≤ z ∧ z ≤ 255

/-- The reader at block R: the code's bytes, and the place p. -/
structure Rd (R : Nat) (w : World) (a : Option Addr) (len cap p : Nat) : Prop where
  cb : w.cell? ⟨R, 0, none⟩ = some (.slice a len cap)
  cp : w.cell? ⟨R, 1, none⟩ = some (.int .i64 (p : Int))
  fr : w.frozen? ⟨R, 1, none⟩ = false
  small : p ≤ 1000000
  short : len ≤ 2000
  bytes : BytesAt w a len
  apart : ∀ g o, a = some ⟨g, o, none⟩ → 0 < len → g < R

/-- All but the reader's block stays. -/
structure Kp (R : Nat) (w w' : World) : Prop where
  low : Below R w w'
  all : ∀ b, b < w.heap.size → b ≠ R → w'.heap[b]? = w.heap[b]?

theorem Kp.refl (R : Nat) (w : World) : Kp R w w := ⟨Below.refl _ _, fun _ _ _ => rfl⟩

theorem Kp.trans {R : Nat} {w w1 w2 : World} (h : Kp R w w1) (k : Kp R w1 w2) : Kp R w w2 := ⟨h.low.trans k.low, fun b hb hn => (k.all b (Nat.lt_of_lt_of_le hb h.low.size) hn).trans (h.all b hb hn)⟩

theorem Kp.of_bel {R : Nat} {w w' : World} (hR : R ≤ w.heap.size) (h : Below w.heap.size w w') : Kp R w w' := ⟨h.mono hR, fun b hb _ => h.block b hb⟩

theorem Kp.set {R o : Nat} {w : World} (v : Value) : Kp R w (w.setCell ⟨R, o, none⟩ v) := ⟨(Below.refl R w).setCell (p := ⟨R, o, none⟩) (Nat.le_refl _) v, fun b hb hn => Below.heap_setCell _ _ _ _ hn⟩

theorem Kp.cell {R b o : Nat} {w w' : World} (h : Kp R w w') (hb : b < w.heap.size) (hn : b ≠ R) : w'.cell? ⟨b, o, none⟩ = w.cell? ⟨b, o, none⟩ := World.cell?_of_block (h.all b hb hn)

theorem rem_lt (x : Int) {n : Int} (hn : 1 ≤ n) : 0 ≤ x % n ∧ x % n < n := ⟨Int.emod_nonneg _ (by omega), Int.emod_lt_of_pos _ (by omega)⟩

theorem dec_ff {n : Int} (hn : 1 ≤ n) : decide (n < 1) = false := by simp; omega

theorem len_ff {len : Nat} (h : ¬ len = 0) : ((len : Int) == 0) = false := by rw [beq_eq_false_iff_ne]; omega

theorem tmod_lt {x n : Int} (h0 : 0 ≤ x) (hn : 1 ≤ n) : 0 ≤ x.tmod n ∧ x.tmod n < n := by
  rw [Int.tmod_eq_emod_of_nonneg h0]
  exact rem_lt x hn

theorem xor_nn {X : Int} (h0 : 0 ≤ X) (h1 : X < 4611686018427387904) : 0 ≤ bits .xor .i64 X (X / 64) := by
  obtain ⟨a, rfl⟩ := Int.eq_ofNat_of_zero_le h0
  have d : ((a : Int) / 64) = ((a / 64 : Nat) : Int) := by simp
  rw [d]
  have ha : a < 4611686018427387904 := by omega
  have hb : a / 64 < 4611686018427387904 := Nat.lt_of_le_of_lt (Nat.div_le_self _ _) ha
  have hx : a ^^^ (a / 64) < 2 ^ 62 := Nat.xor_lt_two_pow (by omega) (by omega)
  have k1 : (BitVec.ofInt 64 (a : Int)).toNat = a := by
    rw [BitVec.ofInt_natCast, BitVec.toNat_ofNat]; exact Nat.mod_eq_of_lt (by omega)
  have k2 : (BitVec.ofInt 64 ((a / 64 : Nat) : Int)).toNat = a / 64 := by
    rw [BitVec.ofInt_natCast, BitVec.toNat_ofNat]; exact Nat.mod_eq_of_lt (by omega)
  show 0 ≤ IntKind.i64.wrap ((BitVec.ofInt 64 (a : Int) ^^^ BitVec.ofInt 64 ((a / 64 : Nat) : Int)).toNat : Int)
  rw [BitVec.toNat_xor, k1, k2, IntKind.wrap_i64]
  omega

theorem Kp.draws (R : Nat) (w : World) (n : Nat) : Kp R w (w.drewN n) := ⟨⟨rfl, rfl, rfl, Nat.le_refl _, fun _ _ => rfl⟩, fun _ _ _ => rfl⟩

theorem Rd.draws {R : Nat} {w : World} {a : Option Addr} {len cap p : Nat} (h : Rd R w a len cap p) (n : Nat) : Rd R (w.drewN n) a len cap p := ⟨h.1, h.2, h.3, h.4, h.5, h.6, h.7⟩

theorem mod_nat (p : Nat) {len : Nat} (h : ¬ len = 0) : ∃ i : Nat, (p : Int) % (len : Int) = (i : Int) ∧ i < len := ⟨p % len, by simp, Nat.mod_lt _ (by omega)⟩

theorem div_nat (p len : Nat) : ∃ q : Nat, (p : Int) / (len : Int) = (q : Int) ∧ q ≤ p := ⟨p / len, by simp, Nat.div_le_self _ _⟩

theorem Rd.step {R : Nat} {w : World} {a : Option Addr} {len cap p : Nat} (h : Rd R w a len cap p) (hp : p < 1000000) : Rd R (w.setCell ⟨R, 1, none⟩ (.int .i64 ((p : Int) + 1))) a len cap (p + 1) := by
  obtain ⟨h1, h2, h3, h4, h5, h6, h7⟩ := h
  refine ⟨?_, ?_, ?_, by omega, h5, ?_, h7⟩
  · rw [World.cell?_setCell_other _ _ _ _ (by simp)]; exact h1
  · exact World.cell?_setCell_same' _ _ _ (by rw [h2]; rfl)
  · rw [← h3]; simp [go_sem]
  · rcases h6 with h6 | ⟨g, o, ha, h6⟩
    · exact Or.inl h6
    · refine Or.inr ⟨g, o, ha, fun i hi => ?_⟩
      obtain ⟨z, hz, hb⟩ := h6 i hi
      have := h7 g o ha (by omega)
      exact ⟨z, (cell_set_ne (by simp; omega)).trans hz, hb⟩

def PickP (R : Nat) (w : World) (a : Option Addr) (len cap p : Nat) (n : Int) (e : Ending) (w' : World) : Prop := ∃ x : Int, e = .returned (.int .i64 x) ∧ 0 ≤ x ∧ x < n ∧ Kp R w w' ∧ (p < 1000000 → Rd R w' a len cap (p + 1))

set_option maxRecDepth 20000 in
set_option maxHeartbeats 1000000 in
theorem pick_any (R : Nat) (a : Option Addr) (len cap p : Nat) (n : Int) (w : World) (hn : 1 ≤ n) (hn2 : n ≤ 100000) (h : Rd R w a len cap p) : Calls Try.prog 15 #[.pointer (some ⟨R, 0, none⟩), .int .i64 n] w fun e w' => PickP R w a len cap p n e w' := by
  have hst := hide (fun q => h.step q)
  obtain ⟨hb, hp, hf, hs1, hs2, hby, hap⟩ := h
  by_cases hz : len = 0
  · subst hz
    clear hby hap
    go_enter Try.func15, Try.ntmps15
    go_wp2
    go_ret
    exact ⟨0, rfl, by omega, by omega, Kp.set _, unhide hst⟩
  · obtain ⟨g, o, rfl, hby'⟩ := hby.resolve_left hz
    have hgR := hap g o rfl (by omega)
    have HB := hide hby'
    clear hby hby' hap
    by_cases hk : (p : Int) < (len : Int)
    · obtain ⟨z, hc, z0, z1⟩ := unhide HB p (by omega)
      have hc' : (w.setCell ⟨R, 1, none⟩ (.int .i64 ((p : Int) + 1))).cell? ⟨g, o + p, none⟩ = some (.int .u8 z) := (cell_set_ne (by simp; omega)).trans hc
      have hr := hide (rem_lt z hn)
      have q1 := dec_ff hn
      have q2 := len_ff hz
      go_enter Try.func15, Try.ntmps15
      go_wp2
      go_ret
      exact ⟨_, rfl, (unhide hr).1, (unhide hr).2, Kp.set _, unhide hst⟩
    · obtain ⟨i1, e1, l1⟩ := mod_nat p hz
      obtain ⟨i2, e2, l2⟩ := mod_nat (p * 7 + 3) hz
      obtain ⟨q, e3, l3⟩ := div_nat p len
      obtain ⟨z1, c1, z10, z11⟩ := unhide HB i1 l1
      obtain ⟨z2, c2, z20, z21⟩ := unhide HB i2 l2
      have c1' : (w.setCell ⟨R, 1, none⟩ (.int .i64 ((p : Int) + 1))).cell? ⟨g, o + i1, none⟩ = some (.int .u8 z1) := (cell_set_ne (by simp; omega)).trans c1
      have c2' : (w.setCell ⟨R, 1, none⟩ (.int .i64 ((p : Int) + 1))).cell? ⟨g, o + i2, none⟩ = some (.int .u8 z2) := (cell_set_ne (by simp; omega)).trans c2
      have e2' : ((p : Int) * 7 + 3) % (len : Int) = (i2 : Int) := by rw [← e2]; simp
      have q1 := dec_ff hn
      have q2 := len_ff hz
      have hk' : decide ((p : Int) < (len : Int)) = false := by simp; omega
      clear e2 c1 c2 HB
      go_enter Try.func15, Try.ntmps15
      go_wp2
      go_quiet (fail)
      go_wp2
      have hr := tmod_lt (xor_nn (X := z1 * 131 + z2 * 1117 + (p : Int) * 29 + (q : Int) * 53) (by omega) (by omega)) hn
      go_ret
      exact ⟨_, rfl, hr.1, hr.2, (Kp.set _).trans (Kp.draws _ _ _), fun hq => (unhide hst hq).draws _⟩
end Go.Proofs.Ytblmhpngaccllaa
namespace Go.Proofs.Ytblmhpngaccllaa
open Go.ChangeShapes Go.WideShapes Go.ChangeAt Go.RowKit
set_option linter.unusedVariables false

def OpenP (w : World) (a : Option Addr) (e : Ending) (w' : World) : Prop := ∃ R len cap, e = .returned (.pointer (some ⟨R, 0, none⟩)) ∧ w.heap.size ≤ R ∧ R < w'.heap.size ∧ Below w.heap.size w w' ∧ Rd R w' a len cap 0

theorem BytesAt.bel {w w' : World} {a : Option Addr} {len : Nat} (h : BytesAt w a len) (hl : ∀ g o, a = some ⟨g, o, none⟩ → 0 < len → g < w.heap.size) (hb : Below w.heap.size w w') : BytesAt w' a len := by
  rcases h with h | ⟨g, o, ha, h⟩
  · exact Or.inl h
  · refine Or.inr ⟨g, o, ha, fun i hi => ?_⟩
    obtain ⟨z, hz, q⟩ := h i hi
    exact ⟨z, (hb.cell (p := ⟨g, o + i, none⟩) (hl g o ha (by omega))).trans hz, q⟩

theorem BytesAt.less {w : World} {a : Option Addr} {len l : Nat} (h : BytesAt w a len) (hl : l ≤ len) : BytesAt w a l := by
  rcases h with h | ⟨g, o, ha, h⟩
  · exact Or.inl (by omega)
  · exact Or.inr ⟨g, o, ha, fun i hi => h i (by omega)⟩

theorem open_rd {w : World} {a : Option Addr} {len cap ty : Nat} (hs : len ≤ 2000) (hb : BytesAt w a len) (hl : ∀ g o, a = some ⟨g, o, none⟩ → 0 < len → g < w.heap.size) : Rd w.heap.size (w.alloc (.cells #[.slice a len cap, .int .i64 0] ty)) a len cap 0 :=
  ⟨by simp [go_sem], by simp [go_sem], by simp [go_sem], by omega, hs, hb.bel hl (bel_one _ _), hl⟩

set_option maxRecDepth 20000 in
theorem open_any (a : Option Addr) (len cap : Nat) (w : World) (hlc : len ≤ cap) (hlm : len ≤ 1048576) (hb : BytesAt w a len) (hl : ∀ g o, a = some ⟨g, o, none⟩ → 0 < len → g < w.heap.size) (hn : a = none → cap = 0) : Calls Try.prog 13 #[.slice a len cap] w fun e w' => OpenP w a e w' := by
  have HB := hide hb
  have HL := hide hl
  clear hb hl
  by_cases hz : (2000 : Int) < (len : Int)
  · obtain ⟨ad, rfl⟩ : ∃ ad, a = some ad := by
      cases a
      · have := hn rfl
        omega
      · exact ⟨_, rfl⟩
    go_enter Try.func13, Try.ntmps13
    go_wp2
    go_ret
    exact ⟨_, 2000, cap, rfl, Nat.le_refl _, by simp, bel_one _ _, open_rd (by omega) ((unhide HB).less (by omega)) (fun g o e h => unhide HL g o e (by omega))⟩
  · go_enter Try.func13, Try.ntmps13
    go_wp2
    go_ret
    exact ⟨_, len, cap, rfl, Nat.le_refl _, by simp, bel_one _ _, open_rd (by omega) (unhide HB) (unhide HL)⟩

theorem Rd.kp {R : Nat} {w w' : World} {a : Option Addr} {len cap p : Nat} (h : Rd R w a len cap p) (hR : R < w.heap.size) (hb : Below w.heap.size w w') : Rd R w' a len cap p := by
  obtain ⟨h1, h2, h3, h4, h5, h6, h7⟩ := h
  exact ⟨(hb.cell (p := ⟨R, 0, none⟩) hR).trans h1, (hb.cell (p := ⟨R, 1, none⟩) hR).trans h2, (hb.frozen (p := ⟨R, 1, none⟩) hR).trans h3, h4, h5, h6.bel (fun g o e h => Nat.lt_trans (h7 g o e h) hR) hb, h7⟩
end Go.Proofs.Ytblmhpngaccllaa
namespace Go.Proofs.Ytblmhpngaccllaa
open Go.ChangeShapes Go.WideShapes Go.ChangeAt Go.RowKit Go.Deep
set_option linter.unusedVariables false

section
variable {H : Type} {enc : TypeId × Value → H} {P : Program} {w : World} {base : Nat} {spare : Nat → Bool} {held : Bool}
theorem open_bytes {t e : TypeId} {a : Option Addr} {len cap : Nat} {d : DataW H} {p : List MemPlace} (ht : P.underlying t = some (.slice e)) (he : P.underlying e = some (.int .u8)) (hC : P.cellsOf e = 1)
    (h : DataW.Trod enc P w base spare held t (.slice a len cap) d p) : len ≤ cap ∧ len ≤ maxLen ∧ BytesAt w a len ∧ (∀ g o, a = some ⟨g, o, none⟩ → 0 < len → g < w.heap.size) ∧ (a = none → cap = 0) := by
  obtain ⟨fuel, hf⟩ := h
  rcases open_slice ht hf with ⟨hcs, _⟩ | ⟨a', len', cap', m, n, D, Pl, hcs, _, hl, hm, hmm, _, hx⟩
  · simp [Value.cells] at hcs
    obtain ⟨rfl, rfl, rfl⟩ := hcs
    exact ⟨Nat.le_refl _, Nat.zero_le _, Or.inl rfl, fun _ _ hne => (by simp at hne), fun _ => rfl⟩
  · simp [Value.cells] at hcs
    obtain ⟨rfl, rfl, rfl⟩ := hcs
    have hlm : len ≤ m := by rw [hmm]; split <;> omega
    have hall : ∀ i, i < len → ∃ z : Int, (i = 0 → a'.spot = none) ∧ w.cell? ⟨a'.block, a'.off + i, none⟩ = some (.int .u8 z) ∧ 0 ≤ z ∧ z ≤ 255 := by
      intro i hi
      obtain ⟨cs', h1, h2⟩ := hx i (by omega)
      rw [hC] at h1
      obtain ⟨z, rfl, _, hw⟩ := DataW.trod_int he h2
      obtain ⟨_, _, hc⟩ := World.cells?_some h1
      have c0 := hc 0 (by omega)
      have hsp : (a'.add (i * 1)).spot = none := World.cell?_spot (w := w) (a := a'.add (i * 1)) (v := .int .u8 z) (by simpa [Addr.add] using c0)
      have hb : 0 ≤ z ∧ z ≤ 255 := by
        have := bounds_u8 hw
        omega
      have ha : a'.add (i * 1) = ⟨a'.block, a'.off + i, none⟩ := by
        cases a' with
        | mk g o sp =>
          simp only [Addr.add] at hsp ⊢
          split at hsp <;> simp_all
      refine ⟨z, fun h0 => ?_, ?_, hb⟩
      · subst h0
        simpa [Addr.add] using hsp
      · rw [← ha]
        simpa [Addr.add] using c0
    by_cases h0 : len = 0
    · subst h0
      exact ⟨by omega, by omega, Or.inl rfl, fun _ _ _ h => by omega, fun hne => (by simp at hne)⟩
    obtain ⟨z0, s0, c0, _⟩ := hall 0 (by omega)
    have hs := s0 rfl
    refine ⟨hl, by omega, Or.inr ⟨a'.block, a'.off, by cases a'; simp_all, fun i hi => ?_⟩, fun g o e _ => ?_, fun hne => (by simp at hne)⟩
    · obtain ⟨z, _, hz, hb⟩ := hall i hi
      exact ⟨z, hz, hb⟩
    · have e1 : a' = ⟨g, o, none⟩ := by simpa using e
      rw [e1] at c0
      rcases Nat.lt_or_ge g w.heap.size with hh | hh
      · exact hh
      · simp [World.cell?, Array.getElem?_eq_none hh] at c0
end
end Go.Proofs.Ytblmhpngaccllaa
namespace Go.Proofs.Ytblmhpngaccllaa
open Go.ChangeShapes Go.WideShapes Go.ChangeAt Go.RowKit
set_option linter.unusedVariables false

theorem cnt_set : ∀ (l : List Bool) (i : Nat), l[i]? = some false → (l.set i true).count false + 1 = l.count false
  | [], i, h => by simp at h
  | b :: l, 0, h => by
    simp at h
    subst h
    simp
  | b :: l, i + 1, h => by
    have h1 := cnt_set l i (by simpa using h)
    simp only [List.set_cons_succ, List.count_cons]
    omega

theorem cnt_zero {l : List Bool} (h : l.count false = 0) {i : Nat} (hi : l[i]? = some false) : False := by
  have := cnt_set l i hi
  omega

/-- All that a region's operations wait for stands ahead of them. -/
def waits : Nat → List Oper → Bool
  | _, [] => true
  | k, o :: os => o.after.all (fun e => !Region.binds .any e || decide (e.on < k)) && waits (k + 1) os

theorem waits_at : ∀ (l : List Oper) (k : Nat), waits k l = true → ∀ (i : Nat) (o : Oper), l[i]? = some o → ∀ e ∈ o.after, Region.binds .any e = true → e.on < k + i
  | [], k, _, i, o, h => by simp at h
  | x :: l, k, hw, 0, o, h => by
    simp only [waits, Bool.and_eq_true] at hw
    simp at h
    subst h
    intro e he hb
    have := Array.all_eq_true_iff_forall_mem.1 hw.1 e he
    rw [hb] at this
    simpa using this
  | x :: l, k, hw, i + 1, o, h => by
    simp only [waits, Bool.and_eq_true] at hw
    intro e he hb
    have := waits_at l (k + 1) hw.2 i o (by simpa using h) e he hb
    omega

/-- For each operation, with its number. -/
def EachOp (F : Nat → Oper → Prop) : Nat → List Oper → Prop
  | _, [] => True
  | k, o :: os => F k o ∧ EachOp F (k + 1) os

theorem eachOp_at {F : Nat → Oper → Prop} : ∀ (l : List Oper) (k : Nat), EachOp F k l → ∀ (i : Nat) (o : Oper), l[i]? = some o → F (k + i) o
  | [], k, _, i, o, h => by simp at h
  | x :: l, k, hF, 0, o, h => by
    simp at h
    subst h
    exact hF.1
  | x :: l, k, hF, i + 1, o, h => by
    have := eachOp_at l (k + 1) hF.2 i o (by simpa using h)
    rw [Nat.add_assoc, Nat.add_comm 1 i] at this
    exact this

/-- What is done, and one more. -/
def more (L : Nat → Bool) (i : Nat) : Nat → Bool := fun j => if j = i then true else L j

theorem more_self (L : Nat → Bool) (i : Nat) : more L i i = true := by simp [more]

theorem more_ne {L : Nat → Bool} {i j : Nat} (h : j ≠ i) : more L i j = L j := by simp [more, h]

section
variable {P : Program} {ops : List Oper} {Q : Exit → Act → World → Prop}

/-- One operation keeps the invariant, whenever it comes. -/
def Keeps1 (P : Program) (ops : List Oper) (Q : Exit → Act → World → Prop) (I : (Nat → Bool) → Act → World → Prop) (i : Nat) (o : Oper) : Prop := ∀ (L : Nat → Bool) (a : Act) (w : World), I L a w → L i = false → (∀ e ∈ o.after, Region.binds .any e = true → L e.on = true) → ∀ K' : Act → World → Prop, Shut (∀ a' w', I (more L i) a' w' → K' a' w') → if Region.wanted o (yielded ops.toArray a.tmps) = true then Oper.wp P o a w K' Q else K' (a.put o.dst undef) w

theorem wpAny_inv (I : (Nat → Bool) → Act → World → Prop) (step : ∀ i o, ops[i]? = some o → Keeps1 P ops Q I i o) (fin : ∀ L a w, I L a w → (∀ i, i < ops.length → L i = true) → Q .normal a w) (hw : waits 0 ops = true) :
    ∀ (fuel : Nat) (l : Array Bool) (L : Nat → Bool) (a : Act) (w : World), l.size = ops.length → (∀ i, i < ops.length → l[i]? = some (L i)) → l.toList.count false ≤ fuel → I L a w → wpAny P .any ops.toArray Q fuel l a w := by
  have key : ∀ (l : Array Bool) (L : Nat → Bool), l.size = ops.length → (∀ i, i < ops.length → l[i]? = some (L i)) → Region.ready .any ops.toArray l = [] → ∀ i, i < ops.length → L i = true := by
    intro l L hs hL hr i
    induction i using Nat.strongRecOn with
    | _ i ih =>
      intro hi
      cases hb : L i with
      | true => rfl
      | false =>
        have hm : i ∈ Region.ready .any ops.toArray l := by
          refine mem_ready.2 ⟨?_, ops[i], ?_, fun e he hb' => ?_⟩
          · rw [Array.getD_eq_getD_getElem?, hL i hi, hb]; rfl
          · simp [hi]
          · have hlt := waits_at ops 0 hw i ops[i] (by simp [hi]) e he hb'
            rw [Nat.zero_add] at hlt
            rw [Array.getD_eq_getD_getElem?, hL e.on (by omega), ih e.on hlt (by omega)]
            rfl
        rw [hr] at hm
        cases hm
  intro fuel
  induction fuel with
  | zero =>
    intro l L a w hs hL hc hI
    have hr : Region.ready .any ops.toArray l = [] := by
      cases hx : Region.ready .any ops.toArray l with
      | nil => rfl
      | cons i rs =>
        have hm : i ∈ Region.ready .any ops.toArray l := by rw [hx]; exact List.mem_cons_self
        obtain ⟨h1, o, ho, _⟩ := mem_ready.1 hm
        have hi : i < ops.length := by simpa using (Array.getElem?_eq_some_iff.1 ho).1
        rw [Array.getD_eq_getD_getElem?, hL i hi] at h1
        exact absurd (cnt_zero (i := i) (Nat.le_zero.1 hc) (by rw [Array.getElem?_toList, hL i hi]; simpa using h1)) (fun h => h)
    exact ⟨hr, fin L a w hI (key l L hs hL hr)⟩
  | succ fuel ih =>
    intro l L a w hs hL hc hI
    refine ⟨fun hr => fin L a w hI (key l L hs hL hr), fun i hi => ?_⟩
    obtain ⟨h1, o, ho, hall⟩ := mem_ready.1 hi
    have hlt : i < ops.length := by simpa using (Array.getElem?_eq_some_iff.1 ho).1
    rw [Array.getD_eq_getD_getElem?, hL i hlt] at h1
    have hLi : L i = false := by simpa using h1
    refine wpOp_step ho (fun K' hK => ?_)
    have hst := step i o (by simpa using ho)
    refine hst L a w hI hLi (fun e he hb => ?_) K' (fun a' w' hI' => hK a' w' ?_)
    · have := hall e he hb
      have hlt2 := waits_at ops 0 hw i o (by simpa using ho) e he hb
      rw [Nat.zero_add] at hlt2
      rw [Array.getD_eq_getD_getElem?, hL e.on (by omega)] at this
      simpa using this
    · refine ih _ (more L i) a' w' (by simpa using hs) (fun j hj => ?_) ?_ hI'
      · by_cases hji : j = i
        · subst hji
          rw [more_self, Array.getElem?_setIfInBounds]
          simp [hs, hlt]
        · rw [more_ne hji, Array.getElem?_setIfInBounds, if_neg (fun e => hji e.symm)]
          exact hL j hj
      · have h9 := cnt_set l.toList i (by rw [Array.getElem?_toList, hL i hlt, hLi])
        rw [Array.toList_setIfInBounds]
        omega

theorem wp_region_inv {id : Nat} {a : Act} {w : World} (hm : P.follows .mixedOrders = true) (hw : waits 0 ops = true) (I : (Nat → Bool) → Act → World → Prop) (h0 : I (fun _ => false) a w.drew) (step : EachOp (Keeps1 P ops Q I) 0 ops) (fin : ∀ L a w, I L a w → (∀ i, i < ops.length → L i = true) → Q .normal a w) : (Code.region id ops.toArray true).wp P Q a w := by
  refine wp_region_any hm (wpAny_inv I (fun i o ho => by have := eachOp_at ops 0 step i o ho; rw [Nat.zero_add] at this; exact this) fin hw ops.toArray.size _ (fun _ => false) a _ (by simp) (fun i hi => by simp [hi]) ?_ h0)
  simp

/-- For each operation but the last; and for the last one. -/
def EachOpL (F G : Nat → Oper → Prop) : Nat → List Oper → Prop
  | _, [] => True
  | k, [o] => G k o
  | k, o :: o' :: os => F k o ∧ EachOpL F G (k + 1) (o' :: os)

theorem eachOpL_at {F G : Nat → Oper → Prop} : ∀ (l : List Oper) (k : Nat), EachOpL F G k l → ∀ (i : Nat) (o : Oper), l[i]? = some o → (i + 1 < l.length → F (k + i) o) ∧ (i + 1 = l.length → G (k + i) o)
  | [], k, _, i, o, h => by simp at h
  | [x], k, hF, 0, o, h => by
    simp at h
    subst h
    exact ⟨fun h => by simp at h, fun _ => hF⟩
  | [x], k, hF, i + 1, o, h => by simp at h
  | x :: y :: l, k, hF, 0, o, h => by
    simp at h
    subst h
    exact ⟨fun _ => hF.1, fun h => by simp at h⟩
  | x :: y :: l, k, hF, i + 1, o, h => by
    have h9 := eachOpL_at (y :: l) (k + 1) hF.2 i o (by simpa using h)
    rw [Nat.add_assoc, Nat.add_comm 1 i] at h9
    refine ⟨fun hl => h9.1 ?_, fun hl => h9.2 ?_⟩
    · simp at hl ⊢; omega
    · simp at hl ⊢; omega

/-- The last operation waits for all others. -/
def lastWaits (ops : List Oper) : Bool := match ops.getLast? with
  | none => false
  | some o => (List.range (ops.length - 1)).all (fun j => o.after.any (fun e => e.on == j && Region.binds .any e))

/-- The last operation, when all others are done. -/
def Ends1 (P : Program) (ops : List Oper) (Q : Exit → Act → World → Prop) (I : (Nat → Bool) → Act → World → Prop) (i : Nat) (o : Oper) : Prop := ∀ (L : Nat → Bool) (a : Act) (w : World), I L a w → (∀ j, j < i → L j = true) → ∀ K' : Act → World → Prop, Shut (∀ a' w', Q .normal a' w' → K' a' w') → if Region.wanted o (yielded ops.toArray a.tmps) = true then Oper.wp P o a w K' Q else K' (a.put o.dst undef) w

theorem wp_region_last {id : Nat} {a : Act} {w : World} (hm : P.follows .mixedOrders = true) (hw : waits 0 ops = true) (hl : lastWaits ops = true) (I : (Nat → Bool) → Act → World → Prop) (h0 : I (fun _ => false) a w.drew) (step : EachOpL (Keeps1 P ops Q I) (Ends1 P ops Q I) 0 ops) : (Code.region id ops.toArray true).wp P Q a w := by
  have hne : ops ≠ [] := by
    intro h
    rw [h] at hl
    cases hl
  have hlen : 0 < ops.length := List.length_pos_iff.2 hne
  obtain ⟨lo, hlo⟩ : ∃ lo, ops.getLast? = some lo := ⟨_, List.getLast?_eq_some_getLast hne⟩
  have hat : ops[ops.length - 1]? = some lo := by rw [← List.getLast?_eq_getElem?]; exact hlo
  unfold lastWaits at hl
  rw [hlo] at hl
  have hedge : ∀ j, j < ops.length - 1 → ∃ e ∈ lo.after, e.on = j ∧ Region.binds .any e = true := by
    intro j hj
    have h1 := List.all_eq_true.1 hl j (List.mem_range.2 hj)
    simp at h1
    obtain ⟨i, hi, h2, h3⟩ := h1
    exact ⟨lo.after[i], Array.getElem_mem hi, h2, h3⟩
  refine wp_region_any hm (wpAny_inv (fun L a w => (L (ops.length - 1) = false ∧ I L a w) ∨ ((∀ j, j < ops.length → L j = true) ∧ Q .normal a w)) ?_ ?_ hw ops.toArray.size _ (fun _ => false) a _ (by simp) (fun i hi => by simp [hi]) ?_ (Or.inl ⟨rfl, h0⟩))
  · intro i o ho L a w hI hL hA K' hK
    have hi : i < ops.length := (List.getElem?_eq_some_iff.1 ho).1
    rcases hI with ⟨h1, hI⟩ | ⟨h1, _⟩
    · have h9 := eachOpL_at ops 0 step i o ho
      rw [Nat.zero_add] at h9
      by_cases hil : i + 1 = ops.length
      · obtain rfl : o = lo := by
          have : i = ops.length - 1 := by omega
          rw [this, hat] at ho
          exact (Option.some.inj ho).symm
        have hall : ∀ j, j < i → L j = true := by
          intro j hj
          obtain ⟨e, he, rfl, hb⟩ := hedge j (by omega)
          exact hA e he hb
        refine h9.2 hil L a w hI hall K' (fun a' w' hQ => hK.out a' w' (Or.inr ⟨fun j hj => ?_, hQ⟩))
        by_cases hji : j = i
        · subst hji; exact more_self L j
        · rw [more_ne hji]; exact hall j (by omega)
      · refine h9.1 (by omega) L a w hI hL hA K' (fun a' w' hI' => hK.out a' w' (Or.inl ⟨?_, hI'⟩))
        rw [more_ne (by omega)]
        exact h1
    · rw [h1 i hi] at hL
      cases hL
  · intro L a w hI hall
    rcases hI with ⟨h1, _⟩ | ⟨_, hQ⟩
    · rw [hall (ops.length - 1) (by omega)] at h1
      cases h1
    · exact hQ
  · simp

theorem more_of {Pd : Nat → Value → World → Prop} {V : Nat → Value} {L : Nat → Bool} {w w' : World} {i : Nat} {v : Value} (h : ∀ j, L j = true → Pd j (V j) w) (hst : ∀ j u, Pd j u w → Pd j u w') (hv : Pd i v w') : ∀ j, more L i j = true → Pd j (if j = i then v else V j) w' := by
  intro j hj
  by_cases hji : j = i
  · subst hji; rw [if_pos rfl]; exact hv
  · rw [if_neg hji]; rw [more_ne hji] at hj; exact hst j _ (h j hj)
end
end Go.Proofs.Ytblmhpngaccllaa
namespace Go.Proofs.Ytblmhpngaccllaa
open Go.ChangeShapes Go.WideShapes Go.ChangeAt Go.RowKit
set_option linter.unusedVariables false

theorem Kp.frozen {R b o : Nat} {w w' : World} (h : Kp R w w') (hb : b < w.heap.size) (hn : b ≠ R) : w'.frozen? ⟨b, o, none⟩ = w.frozen? ⟨b, o, none⟩ := by
  have := h.all b hb hn
  simp only [World.frozen?, this]

theorem BytesAt.up {B : Nat} {w w' : World} {a : Option Addr} {len : Nat} (h : BytesAt w a len) (hl : ∀ g o, a = some ⟨g, o, none⟩ → 0 < len → g < B) (hb : Below B w w') : BytesAt w' a len := by
  rcases h with h | ⟨g, o, ha, h⟩
  · exact Or.inl h
  · refine Or.inr ⟨g, o, ha, fun i hi => ?_⟩
    obtain ⟨z, hz, h2⟩ := h i hi
    exact ⟨z, (hb.cell (p := ⟨g, o + i, none⟩) (hl g o ha (by omega))).trans hz, h2⟩

theorem Rd.up {R : Nat} {w w' : World} {a : Option Addr} {len cap p : Nat} (h : Rd R w a len cap p) (hb : Below (R + 1) w w') : Rd R w' a len cap p := by
  obtain ⟨h1, h2, h3, h4, h5, h6, h7⟩ := h
  exact ⟨(hb.cell (p := ⟨R, 0, none⟩) (Nat.lt_succ_self R)).trans h1, (hb.cell (p := ⟨R, 1, none⟩) (Nat.lt_succ_self R)).trans h2, (hb.frozen (p := ⟨R, 1, none⟩) (Nat.lt_succ_self R)).trans h3, h4, h5, BytesAt.up h6 (fun g o e h => Nat.lt_succ_of_lt (h7 g o e h)) hb, h7⟩

theorem up_alloc {B : Nat} {w W : World} (h : Below B w W) (hB : B ≤ W.heap.size) (o : Obj) : Below B w (W.alloc o) := h.alloc hB o

theorem kp_setN {R : Nat} {w W : World} {p : Addr} (h : Kp R w W) (hp : w.heap.size ≤ p.block) (hR : R < w.heap.size) (v : Value) : Kp R w (W.setCell p v) :=
  ⟨h.low.setCell (Nat.le_trans (Nat.le_of_lt hR) hp) v, fun b hb hn => (Below.heap_setCell _ _ _ _ (by omega)).trans (h.all b hb hn)⟩

theorem kp_alloc {R : Nat} {w W : World} (hR : R < w.heap.size) (h : Kp R w W) (o : Obj) : Kp R w (W.alloc o) := h.trans (Kp.of_bel (Nat.le_of_lt (Nat.lt_of_lt_of_le hR h.low.size)) (bel_one _ _))

theorem kp_drew {R : Nat} {w W : World} (h : Kp R w W) : Kp R w W.drew := ⟨h.low.drew, h.all⟩

theorem kp_drewN {R : Nat} {w W : World} (h : Kp R w W) (n : Nat) : Kp R w (W.drewN n) := h.trans (Kp.draws R W n)

theorem kp_set {R o : Nat} {w W : World} (h : Kp R w W) (v : Value) : Kp R w (W.setCell ⟨R, o, none⟩ v) := h.trans (Kp.set v)
end Go.Proofs.Ytblmhpngaccllaa
namespace Go.Proofs.Ytblmhpngaccllaa
open Go.ChangeShapes Go.WideShapes Go.ChangeAt Go.RowKit
set_option linter.unusedVariables false

/-- What is told of each operation's value. -/
abbrev Prd := Value → World → Prop

def Pd (ps : List Prd) (j : Nat) (v : Value) (w : World) : Prop := ps.getD j (fun _ _ => False) v w

def PInt (lo hi : Int) : Prd := fun v _ => ∃ z : Int, v = .int .i64 z ∧ lo ≤ z ∧ z ≤ hi

def PAny : Prd := fun v _ => ∃ z : Int, v = .int .i64 z

def PIs (u : Value) : Prd := fun v _ => v = u

def PBox (R B0 : Nat) (cs : Array Value) (ty : Nat) : Prd := fun v w => ∃ B, v = .pointer (some ⟨B, 0, none⟩) ∧ B ≠ R ∧ B0 ≤ B ∧ w.heap[B]? = some (.cells cs ty (0, 0))

/-- It stays. -/
def St (R : Nat) (q : Prd) : Prop := ∀ v w w', Kp R w w' → q v w → q v w'

theorem st_int (R : Nat) (lo hi : Int) : St R (PInt lo hi) := fun _ _ _ _ h => h

theorem st_any (R : Nat) : St R PAny := fun _ _ _ _ h => h

theorem st_is (R : Nat) (u : Value) : St R (PIs u) := fun _ _ _ _ h => h

theorem heap_lt {w : World} {g : Nat} {o : Obj} (h : w.heap[g]? = some o) : g < w.heap.size := (Array.getElem?_eq_some_iff.1 h).1

theorem st_box (R B0 : Nat) (cs : Array Value) (ty : Nat) : St R (PBox R B0 cs ty) := fun _ _ _ k ⟨g, e, hn, h0, hb⟩ => ⟨g, e, hn, h0, (k.all g (heap_lt hb) hn).trans hb⟩

def AllSt (R : Nat) : List Prd → Prop
  | [] => True
  | q :: qs => St R q ∧ AllSt R qs

theorem allSt_at {R : Nat} : ∀ (ps : List Prd), AllSt R ps → ∀ j, St R (Pd ps j)
  | [], _, j => fun _ _ _ _ h => by simp [Pd] at h
  | q :: qs, h, 0 => h.1
  | q :: qs, h, j + 1 => allSt_at qs h.2 j

/-- How many of these are done. -/
def cntL (L : Nat → Bool) : List Nat → Nat
  | [] => 0
  | j :: js => (L j).toNat + cntL L js

theorem cntL_le (L : Nat → Bool) (i : Nat) : ∀ js, cntL L js ≤ cntL (more L i) js
  | [] => Nat.le_refl _
  | j :: js => by
    have h1 := cntL_le L i js
    have h2 : (L j).toNat ≤ (more L i j).toNat := by
      by_cases h : j = i
      · subst h; rw [more_self]; cases L j <;> decide
      · rw [more_ne h]; exact Nat.le_refl _
    simp only [cntL]
    omega

theorem cntL_lt {L : Nat → Bool} {i : Nat} (hL : L i = false) : ∀ js, i ∈ js → cntL L js + 1 ≤ cntL (more L i) js
  | [], h => by simp at h
  | j :: js, h => by
    have h1 := cntL_le L i js
    simp only [cntL]
    by_cases hji : j = i
    · subst hji
      rw [more_self, hL]
      simp
      omega
    · have h2 := cntL_lt hL js ((List.mem_cons.1 h).resolve_left (fun e => hji e.symm))
      rw [more_ne hji]
      omega

theorem cntL_len (L : Nat → Bool) : ∀ js, cntL L js ≤ js.length
  | [] => Nat.le_refl _
  | j :: js => by
    have h1 := cntL_len L js
    have h2 : (L j).toNat ≤ 1 := by cases L j <;> decide
    simp only [cntL, List.length_cons]
    omega

/-- The state of a region that draws. -/
def Drawing (R B0 : Nat) (a : Option Addr) (len cap p : Nat) (w0 : World) (ps : List Prd) (js : List Nat) (lit : (Nat → Value) → Array Value) (ds : List Deferred) (L : Nat → Bool) (ac : Act) (w : World) : Prop := ∃ V : Nat → Value, ac = ⟨lit V, ds⟩ ∧ (∀ j, L j = true → Pd ps j (V j) w) ∧ Kp R w0 w ∧ B0 ≤ w.heap.size ∧ R < B0 ∧ ∃ p', p' ≤ p + cntL L js ∧ Rd R w a len cap p'

def put1 (V : Nat → Value) (i : Nat) (v : Value) : Nat → Value := fun j => if j = i then v else V j

/-- An operation that leaves the world as it is. -/
theorem Drawing.pure {R B0 : Nat} {a : Option Addr} {len cap p : Nat} {w0 w : World} {ps : List Prd} {js : List Nat} {lit : (Nat → Value) → Array Value} {ds : List Deferred} {L : Nat → Bool} {ac : Act} {V : Nat → Value} {i : Nat} (v : Value) (hP : ∀ j, L j = true → Pd ps j (V j) w) (hk : Kp R w0 w) (hB : B0 ≤ w.heap.size) (hR : R < B0) (hr : ∃ p', p' ≤ p + cntL L js ∧ Rd R w a len cap p') (hv : Pd ps i v w) (ha : ac = ⟨lit (put1 V i v), ds⟩) : Drawing R B0 a len cap p w0 ps js lit ds (more L i) ac w := by
  obtain ⟨p', hp, hd⟩ := hr
  have hc := cntL_le L i js
  exact ⟨put1 V i v, ha, more_of hP (fun _ _ h => h) hv, hk, hB, hR, p', by omega, hd⟩

/-- An operation that makes one block more. -/
theorem Drawing.made {R B0 : Nat} {a : Option Addr} {len cap p : Nat} {w0 w : World} {ps : List Prd} {js : List Nat} {lit : (Nat → Value) → Array Value} {ds : List Deferred} {L : Nat → Bool} {ac : Act} {V : Nat → Value} {i : Nat} (v : Value) (o : Obj) (hst : AllSt R ps) (hP : ∀ j, L j = true → Pd ps j (V j) w) (hk : Kp R w0 w) (hB : B0 ≤ w.heap.size) (hR : R < B0) (hr : ∃ p', p' ≤ p + cntL L js ∧ Rd R w a len cap p') (hv : Pd ps i v (w.alloc o)) (ha : ac = ⟨lit (put1 V i v), ds⟩) : Drawing R B0 a len cap p w0 ps js lit ds (more L i) ac (w.alloc o) := by
  obtain ⟨p', hp, hd⟩ := hr
  have hc := cntL_le L i js
  have hb : Below w.heap.size w (w.alloc o) := bel_one _ _
  have hkp : Kp R w (w.alloc o) := Kp.of_bel (by omega) hb
  exact ⟨put1 V i v, ha, more_of hP (fun j u h => allSt_at ps hst j u w _ hkp h) hv, hk.trans hkp, by have := hb.size; omega, hR, p', by omega, hd.kp (by omega) hb⟩

/-- An operation that draws. -/
theorem Drawing.drew {R B0 : Nat} {a : Option Addr} {len cap p : Nat} {w0 w w' : World} {ps : List Prd} {js : List Nat} {lit : (Nat → Value) → Array Value} {ds : List Deferred} {L : Nat → Bool} {ac : Act} {V : Nat → Value} {i : Nat} (v : Value) (hst : AllSt R ps) (hP : ∀ j, L j = true → Pd ps j (V j) w) (hk : Kp R w0 w) (hB : B0 ≤ w.heap.size) (hR : R < B0) (hkp : Kp R w w') (hr : ∃ p', p' ≤ p + cntL (more L i) js ∧ Rd R w' a len cap p') (hv : Pd ps i v w') (ha : ac = ⟨lit (put1 V i v), ds⟩) : Drawing R B0 a len cap p w0 ps js lit ds (more L i) ac w' := 
  ⟨put1 V i v, ha, more_of hP (fun j u h => allSt_at ps hst j u w _ hkp h) hv, hk.trans hkp, Nat.le_trans hB hkp.low.size, hR, hr⟩

/-- A block that is there is written, and no other one. -/
theorem kp_setB {R B o : Nat} {w0 w : World} {v : Value} (h : Kp R w0 w) (hR : R < B) (hB : w0.heap.size ≤ B) : Kp R w0 (w.setCell ⟨B, o, none⟩ v) := ⟨h.low.setCell (p := ⟨B, o, none⟩) (show R ≤ B by omega) v, fun b hb hn => (Below.heap_setCell _ _ _ _ (show b ≠ B by omega)).trans (h.all b hb hn)⟩

theorem rd_setB {R B o : Nat} {w : World} {v : Value} {a : Option Addr} {len cap p : Nat} (h : Rd R w a len cap p) (hR : R < B) : Rd R (w.setCell ⟨B, o, none⟩ v) a len cap p := h.up ((Below.refl (R + 1) w).setCell (p := ⟨B, o, none⟩) (show R + 1 ≤ B by omega) v)

theorem cells_blk {w : World} {g n : Nat} {cs : Array Value} {ty : Nat} (h : w.heap[g]? = some (.cells cs ty (0, 0))) (i : Nat) : w.cell? ⟨g, i, none⟩ = cs[i]? ∧ w.frozen? ⟨g, i, none⟩ = false := by
  constructor <;> simp [World.cell?, World.frozen?, h, go_sem]
end Go.Proofs.Ytblmhpngaccllaa
namespace Go.Proofs.Ytblmhpngaccllaa
open Go.ChangeShapes Go.WideShapes Go.ChangeAt Go.RowKit
set_option linter.unusedVariables false

theorem within_any (n a b : Int) (w : World) : Calls Try.prog 45 #[.int .i64 n, .int .i64 a, .int .i64 b] w fun e w' => e = .returned (.bool (inB n a b)) ∧ w' = w := by
  by_cases h1 : a ≤ n
  · by_cases h2 : n ≤ b
    · have h3 := hide (inB_tt h1 h2)
      go_enter Try.func45, Try.ntmps45
      go_wp2
      go_ret
      exact ⟨ret_b (unhide h3).symm, rfl⟩
    · have h3 := hide (inB_ff (n := n) (a := a) (b := b) (by omega))
      go_enter Try.func45, Try.ntmps45
      go_wp2
      go_ret
      exact ⟨ret_b (unhide h3).symm, rfl⟩
  · have h3 := hide (inB_ff (n := n) (a := a) (b := b) (by omega))
    go_enter Try.func45, Try.ntmps45
    go_wp2
    go_ret
    exact ⟨ret_b (unhide h3).symm, rfl⟩

/-- When a window is ok. -/
def okWin (a b : Int) : Bool := inB a 0 60 && inB b (a + 1) 120

theorem winok_any (a b : Int) (w : World) : Calls Try.prog 34 #[.agg #[.int .i64 a, .int .i64 b]] w fun e w' => e = .returned (.bool (okWin a b)) ∧ Below w.heap.size w w' := by
  by_cases h1 : 0 ≤ a ∧ a ≤ 60
  · obtain ⟨h1, h2⟩ := h1
    have h3 := inB_tt h1 h2
    have h4 : Hid (okWin a b = inB b (a + 1) 120) := hide (by simp [okWin, h3])
    go_enter Try.func34, Try.ntmps34
    go_wp2_with (go_at_call 45; refine (within_any _ _ _ _).mono ?_; rintro e w' ⟨rfl, rfl⟩)
    go_ret
    exact ⟨ret_b (unhide h4).symm, bel_one _ _⟩
  · have h3 := inB_ff (n := a) (a := 0) (b := 60) (by omega)
    have h4 : Hid (okWin a b = false) := hide (by simp [okWin, h3])
    go_enter Try.func34, Try.ntmps34
    go_wp2_with (go_at_call 45; refine (within_any _ _ _ _).mono ?_; rintro e w' ⟨rfl, rfl⟩)
    go_ret
    exact ⟨ret_b (unhide h4).symm, bel_one _ _⟩

theorem implwinok_any (a b : Int) (w : World) : Calls Try.prog 22 #[.agg #[.int .i64 a, .int .i64 b]] w fun e w' => e = .returned (.bool (okWin a b)) ∧ Below w.heap.size w w' := by
  go_enter Try.func22, Try.ntmps22
  go_wp2_with (go_at_call 34; refine (winok_any _ _ _).mono ?_; rintro e w' ⟨rfl, hb⟩)
  go_ret
  exact ⟨rfl, bel_trans (bel_one _ _) hb⟩
end Go.Proofs.Ytblmhpngaccllaa
namespace Go.Proofs.Ytblmhpngaccllaa
open Go.ChangeShapes Go.WideShapes Go.ChangeAt Go.RowKit
set_option linter.unusedVariables false

/-- One number of what is known of both. -/
def bo (n n' x x' c : Int) : Int := if n = 0 then x' else if n' = 0 then x else c

theorem bo_1 (n' x x' c : Int) : bo 0 n' x x' c = x' := rfl

theorem bo_2 {n : Int} (h : n ≠ 0) (x x' c : Int) : bo n 0 x x' c = x := by unfold bo; rw [if_neg h]; rfl

theorem bo_3 {n n' : Int} (h : n ≠ 0) (h' : n' ≠ 0) (x x' c : Int) : bo n n' x x' c = c := by unfold bo; rw [if_neg h, if_neg h']

theorem ret_agg4 {a b c d a' b' c' d' : Int} (h1 : a' = a) (h2 : b' = b) (h3 : c' = c) (h4 : d' = d) : Ending.returned (.agg #[.int .i64 a, .int .i64 b, .int .i64 c, .int .i64 d]) = .returned (.agg #[.int .i64 a', .int .i64 b', .int .i64 c', .int .i64 d']) := by rw [h1, h2, h3, h4]

set_option maxHeartbeats 1000000 in
theorem both_any (n s l m n' s' l' m' : Int) (w : World) : Calls Try.prog 27 #[.agg #[.int .i64 n, .int .i64 s, .int .i64 l, .int .i64 m], .agg #[.int .i64 n', .int .i64 s', .int .i64 l', .int .i64 m']] w fun e w' => e = .returned (.agg #[.int .i64 (bo n n' n n' (wrap64 (n + n'))), .int .i64 (bo n n' s s' (wrap64 (s + s'))), .int .i64 (bo n n' l l' (loI l l')), .int .i64 (bo n n' m m' (hiI m m'))]) ∧ Below w.heap.size w w' := by
  by_cases h1 : n = 0
  · subst h1
    have hq := hide (bo_1 n')
    go_enter Try.func27, Try.ntmps27
    go_wp2
    refine bodyPost_ret (v := .agg #[.int .i64 n', .int .i64 s', .int .i64 l', .int .i64 m']) (by simp [results, Try.results27, go_sem]) rfl ⟨ret_agg4 (unhide hq _ _ _) (unhide hq _ _ _) (unhide hq _ _ _) (unhide hq _ _ _), ?_⟩
    exact (belC)
  have g1 : (n == 0) = false := by simpa using h1
  by_cases h2 : n' = 0
  · subst h2
    have hq := hide (bo_2 h1)
    clear h1
    go_enter Try.func27, Try.ntmps27
    go_wp2
    refine bodyPost_ret (v := .agg #[.int .i64 n, .int .i64 s, .int .i64 l, .int .i64 m]) (by simp [results, Try.results27, go_sem]) rfl ⟨ret_agg4 (unhide hq _ _ _) (unhide hq _ _ _) (unhide hq _ _ _) (unhide hq _ _ _), ?_⟩
    exact (belC)
  have g2 : (n' == 0) = false := by simpa using h2
  have hq := hide (bo_3 h1 h2)
  clear h1 h2
  by_cases h3 : l' < l <;> by_cases h4 : m < m'
  · have k3 := hide (loI_c h3)
    have k4 := hide (hiI_d h4)
    go_enter Try.func27, Try.ntmps27
    go_wp2
    all_goals first
      | (exfalso; omega)
      | (refine bodyPost_ret (v := .agg #[.int .i64 (wrap64 (n + n')), .int .i64 (wrap64 (s + s')), .int .i64 l', .int .i64 m']) (by simp [results, Try.results27, go_sem]) rfl ⟨ret_agg4 (unhide hq _ _ _) (unhide hq _ _ _) ((unhide hq _ _ _).trans (unhide k3)) ((unhide hq _ _ _).trans (unhide k4)), ?_⟩; exact (belC))
  · have k3 := hide (loI_c h3)
    have k4 := hide (hiI_b h4)
    go_enter Try.func27, Try.ntmps27
    go_wp2
    all_goals first
      | (exfalso; omega)
      | (refine bodyPost_ret (v := .agg #[.int .i64 (wrap64 (n + n')), .int .i64 (wrap64 (s + s')), .int .i64 l', .int .i64 m]) (by simp [results, Try.results27, go_sem]) rfl ⟨ret_agg4 (unhide hq _ _ _) (unhide hq _ _ _) ((unhide hq _ _ _).trans (unhide k3)) ((unhide hq _ _ _).trans (unhide k4)), ?_⟩; exact (belC))
  · have k3 := hide (loI_a h3)
    have k4 := hide (hiI_d h4)
    go_enter Try.func27, Try.ntmps27
    go_wp2
    all_goals first
      | (exfalso; omega)
      | (refine bodyPost_ret (v := .agg #[.int .i64 (wrap64 (n + n')), .int .i64 (wrap64 (s + s')), .int .i64 l, .int .i64 m']) (by simp [results, Try.results27, go_sem]) rfl ⟨ret_agg4 (unhide hq _ _ _) (unhide hq _ _ _) ((unhide hq _ _ _).trans (unhide k3)) ((unhide hq _ _ _).trans (unhide k4)), ?_⟩; exact (belC))
  · have k3 := hide (loI_a h3)
    have k4 := hide (hiI_b h4)
    go_enter Try.func27, Try.ntmps27
    go_wp2
    all_goals first
      | (exfalso; omega)
      | (refine bodyPost_ret (v := .agg #[.int .i64 (wrap64 (n + n')), .int .i64 (wrap64 (s + s')), .int .i64 l, .int .i64 m]) (by simp [results, Try.results27, go_sem]) rfl ⟨ret_agg4 (unhide hq _ _ _) (unhide hq _ _ _) ((unhide hq _ _ _).trans (unhide k3)) ((unhide hq _ _ _).trans (unhide k4)), ?_⟩; exact (belC))

set_option maxHeartbeats 1000000 in
theorem specboth_any (n s l m n' s' l' m' : Int) (w : World) : Calls Try.prog 20 #[.agg #[.int .i64 n, .int .i64 s, .int .i64 l, .int .i64 m], .agg #[.int .i64 n', .int .i64 s', .int .i64 l', .int .i64 m']] w fun e w' => e = .returned (.agg #[.int .i64 (bo n n' n n' (wrap64 (n + n'))), .int .i64 (bo n n' s s' (wrap64 (s + s'))), .int .i64 (bo n n' l l' (loI l l')), .int .i64 (bo n n' m m' (hiI m m'))]) ∧ Below w.heap.size w w' := by
  by_cases h1 : n = 0
  · subst h1
    have hq := hide (bo_1 n')
    go_enter Try.func20, Try.ntmps20
    go_wp2
    refine bodyPost_ret (v := .agg #[.int .i64 n', .int .i64 s', .int .i64 l', .int .i64 m']) (by simp [results, Try.results20, go_sem]) rfl ⟨ret_agg4 (unhide hq _ _ _) (unhide hq _ _ _) (unhide hq _ _ _) (unhide hq _ _ _), ?_⟩
    exact (belC)
  have g1 : (n == 0) = false := by simpa using h1
  by_cases h2 : n' = 0
  · subst h2
    have hq := hide (bo_2 h1)
    clear h1
    go_enter Try.func20, Try.ntmps20
    go_wp2
    refine bodyPost_ret (v := .agg #[.int .i64 n, .int .i64 s, .int .i64 l, .int .i64 m]) (by simp [results, Try.results20, go_sem]) rfl ⟨ret_agg4 (unhide hq _ _ _) (unhide hq _ _ _) (unhide hq _ _ _) (unhide hq _ _ _), ?_⟩
    exact (belC)
  have g2 : (n' == 0) = false := by simpa using h2
  have hq := hide (bo_3 h1 h2)
  clear h1 h2
  by_cases h3 : l' < l <;> by_cases h4 : m < m'
  · have k3 := hide (loI_c h3)
    have k4 := hide (hiI_d h4)
    go_enter Try.func20, Try.ntmps20
    go_wp2
    all_goals first
      | (exfalso; omega)
      | (refine bodyPost_ret (v := .agg #[.int .i64 (wrap64 (n + n')), .int .i64 (wrap64 (s + s')), .int .i64 l', .int .i64 m']) (by simp [results, Try.results20, go_sem]) rfl ⟨ret_agg4 (unhide hq _ _ _) (unhide hq _ _ _) ((unhide hq _ _ _).trans (unhide k3)) ((unhide hq _ _ _).trans (unhide k4)), ?_⟩; exact (belC))
  · have k3 := hide (loI_c h3)
    have k4 := hide (hiI_b h4)
    go_enter Try.func20, Try.ntmps20
    go_wp2
    all_goals first
      | (exfalso; omega)
      | (refine bodyPost_ret (v := .agg #[.int .i64 (wrap64 (n + n')), .int .i64 (wrap64 (s + s')), .int .i64 l', .int .i64 m]) (by simp [results, Try.results20, go_sem]) rfl ⟨ret_agg4 (unhide hq _ _ _) (unhide hq _ _ _) ((unhide hq _ _ _).trans (unhide k3)) ((unhide hq _ _ _).trans (unhide k4)), ?_⟩; exact (belC))
  · have k3 := hide (loI_a h3)
    have k4 := hide (hiI_d h4)
    go_enter Try.func20, Try.ntmps20
    go_wp2
    all_goals first
      | (exfalso; omega)
      | (refine bodyPost_ret (v := .agg #[.int .i64 (wrap64 (n + n')), .int .i64 (wrap64 (s + s')), .int .i64 l, .int .i64 m']) (by simp [results, Try.results20, go_sem]) rfl ⟨ret_agg4 (unhide hq _ _ _) (unhide hq _ _ _) ((unhide hq _ _ _).trans (unhide k3)) ((unhide hq _ _ _).trans (unhide k4)), ?_⟩; exact (belC))
  · have k3 := hide (loI_a h3)
    have k4 := hide (hiI_b h4)
    go_enter Try.func20, Try.ntmps20
    go_wp2
    all_goals first
      | (exfalso; omega)
      | (refine bodyPost_ret (v := .agg #[.int .i64 (wrap64 (n + n')), .int .i64 (wrap64 (s + s')), .int .i64 l, .int .i64 m]) (by simp [results, Try.results20, go_sem]) rfl ⟨ret_agg4 (unhide hq _ _ _) (unhide hq _ _ _) ((unhide hq _ _ _).trans (unhide k3)) ((unhide hq _ _ _).trans (unhide k4)), ?_⟩; exact (belC))

theorem specadd_any (n s l m v : Int) (w : World) : Calls Try.prog 38 #[.agg #[.int .i64 n, .int .i64 s, .int .i64 l, .int .i64 m], .int .i64 v] w fun e w' => e = .returned (.agg #[.int .i64 (bo n 1 n 1 (wrap64 (n + 1))), .int .i64 (bo n 1 s v (wrap64 (s + v))), .int .i64 (bo n 1 l v (loI l v)), .int .i64 (bo n 1 m v (hiI m v))]) ∧ Below w.heap.size w w' := by
  go_enter Try.func38, Try.ntmps38
  go_wp2_with (first
    | (go_at_call 20; refine (specboth_any _ _ _ _ _ _ _ _ _).mono ?_; rintro e w' ⟨rfl, hb⟩; obtain ⟨hc, hf, hs⟩ := bcell hb; (try have hz0 : w.heap.size < w'.heap.size := (by have h9 := hb.size; (try simp at h9); omega)); (try have hz1 : w.heap.size + 1 < w'.heap.size := (by have h9 := hb.size; (try simp at h9); omega)); (try have hz2 : w.heap.size + 2 < w'.heap.size := (by have h9 := hb.size; (try simp at h9); omega))))
  refine bodyPost_ret (v := .agg #[.int .i64 (bo n 1 n 1 (wrap64 (n + 1))), .int .i64 (bo n 1 s v (wrap64 (s + v))), .int .i64 (bo n 1 l v (loI l v)), .int .i64 (bo n 1 m v (hiI m v))]) (by simp [results, Try.results38, go_sem, hc]) rfl ⟨rfl, ?_⟩
  exact (belC)
end Go.Proofs.Ytblmhpngaccllaa
namespace Go.Proofs.Ytblmhpngaccllaa
open Go.ChangeShapes Go.WideShapes Go.ChangeAt Go.RowKit
set_option linter.unusedVariables false

theorem el6  (y : Int) (h3 : 0 ≤ y) (h4 : y < 6) : ∃ t : Int, (#[Value.int .i64 (-1), .int .i64 0, .int .i64 1, .int .i64 10, .int .i64 1001, .int .i64 (-10)] : Array Value)[y.toNat]? = some (.int .i64 t) ∧ ([Value.int .i64 (-1), .int .i64 0, .int .i64 1, .int .i64 10, .int .i64 1001, .int .i64 (-10)] : List Value)[y.toNat]? = some (.int .i64 t) ∧ (∀ h, ([Value.int .i64 (-1), .int .i64 0, .int .i64 1, .int .i64 10, .int .i64 1001, .int .i64 (-10)] : List Value)[y.toNat]'h = .int .i64 t) ∧ (-10) ≤ t ∧ (t ≤ 10 ∨ t = 1001) := by
  have : y = 0 ∨ y = 1 ∨ y = 2 ∨ y = 3 ∨ y = 4 ∨ y = 5 := by omega
  rcases this with rfl | rfl | rfl | rfl | rfl | rfl
  · exact ⟨(-1), rfl, rfl, fun _ => rfl, by omega, by omega⟩
  · exact ⟨0, rfl, rfl, fun _ => rfl, by omega, by omega⟩
  · exact ⟨1, rfl, rfl, fun _ => rfl, by omega, by omega⟩
  · exact ⟨10, rfl, rfl, fun _ => rfl, by omega, by omega⟩
  · exact ⟨1001, rfl, rfl, fun _ => rfl, by omega, by omega⟩
  · exact ⟨(-10), rfl, rfl, fun _ => rfl, by omega, by omega⟩

/-- What is known of some values, in a box of its own; the box of the answer is empty. -/
structure AggAt (R : Nat) (w W : World) (n0 m0 l0 t0 : Int) : Prop where
  c0 : W.cell? ⟨w.heap.size + 1, 0, none⟩ = some (.int .i64 n0)
  cf0 : W.frozen? ⟨w.heap.size + 1, 0, none⟩ = false
  c1 : W.cell? ⟨w.heap.size + 1, 1, none⟩ = some (.int .i64 m0)
  cf1 : W.frozen? ⟨w.heap.size + 1, 1, none⟩ = false
  c2 : W.cell? ⟨w.heap.size + 1, 2, none⟩ = some (.int .i64 l0)
  cf2 : W.frozen? ⟨w.heap.size + 1, 2, none⟩ = false
  c3 : W.cell? ⟨w.heap.size + 1, 3, none⟩ = some (.int .i64 t0)
  cf3 : W.frozen? ⟨w.heap.size + 1, 3, none⟩ = false
  r0 : W.cell? ⟨w.heap.size, 0, none⟩ = some (.int .i64 0)
  rf0 : W.frozen? ⟨w.heap.size, 0, none⟩ = false
  r1 : W.cell? ⟨w.heap.size, 1, none⟩ = some (.int .i64 0)
  rf1 : W.frozen? ⟨w.heap.size, 1, none⟩ = false
  r2 : W.cell? ⟨w.heap.size, 2, none⟩ = some (.int .i64 0)
  rf2 : W.frozen? ⟨w.heap.size, 2, none⟩ = false
  r3 : W.cell? ⟨w.heap.size, 3, none⟩ = some (.int .i64 0)
  rf3 : W.frozen? ⟨w.heap.size, 3, none⟩ = false
  hi : w.heap.size + 1 < W.heap.size
  bn : 0 ≤ n0 ∧ n0 ≤ 5
  bm : -(9 * n0) ≤ m0 ∧ m0 ≤ 9 * n0
  bl : -9 ≤ l0 ∧ l0 ≤ 9
  bt : -9 ≤ t0 ∧ t0 ≤ 9
  kp : Kp R w W

theorem bo1 {n v x c : Int} (h : n ≠ 0) : bo n 1 x v c = c := bo_3 h (by decide) _ _ _

/-- One value more: how great the numbers are. -/
theorem addB {n0 m0 l0 t0 v : Int} (h : 0 ≤ n0 ∧ n0 ≤ 4) (bm : -(9 * n0) ≤ m0 ∧ m0 ≤ 9 * n0) (bl : -9 ≤ l0 ∧ l0 ≤ 9) (bt : -9 ≤ t0 ∧ t0 ≤ 9) (bv : -9 ≤ v ∧ v ≤ 9) : ∃ n1 m1 l1 t1 : Int, (bo n0 1 n0 1 (wrap64 (n0 + 1)) = n1 ∧ bo n0 1 m0 v (wrap64 (m0 + v)) = m1 ∧ bo n0 1 l0 v (loI l0 v) = l1 ∧ bo n0 1 t0 v (hiI t0 v) = t1) ∧ n1 = n0 + 1 ∧ (-(9 * n1) ≤ m1 ∧ m1 ≤ 9 * n1) ∧ (-9 ≤ l1 ∧ l1 ≤ 9) ∧ (-9 ≤ t1 ∧ t1 ≤ 9) := by
  by_cases h0 : n0 = 0
  · subst h0
    exact ⟨_, _, _, _, ⟨rfl, rfl, rfl, rfl⟩, by simp [bo_1], by rw [bo_1, bo_1]; omega, by rw [bo_1]; omega, by rw [bo_1]; omega⟩
  · refine ⟨_, _, _, _, ⟨rfl, rfl, rfl, rfl⟩, ?_, ?_, ?_, ?_⟩
    · rw [bo1 h0]; unfold wrap64; omega
    · rw [bo1 h0, bo1 h0]; unfold wrap64; omega
    · rw [bo1 h0]; unfold loI; split <;> omega
    · rw [bo1 h0]; unfold hiI; split <;> omega

theorem specadd_b {n0 m0 l0 t0 v n1 m1 l1 t1 : Int} (w : World) (h : Hid (bo n0 1 n0 1 (wrap64 (n0 + 1)) = n1 ∧ bo n0 1 m0 v (wrap64 (m0 + v)) = m1 ∧ bo n0 1 l0 v (loI l0 v) = l1 ∧ bo n0 1 t0 v (hiI t0 v) = t1)) : Calls Try.prog 38 #[.agg #[.int .i64 n0, .int .i64 m0, .int .i64 l0, .int .i64 t0], .int .i64 v] w fun e w' => e = .returned (.agg #[.int .i64 n1, .int .i64 m1, .int .i64 l1, .int .i64 t1]) ∧ Below w.heap.size w w' := by
  have := specadd_any n0 m0 l0 t0 v w
  obtain ⟨h1, h2, h3, h4⟩ := unhide h
  rw [h1, h2, h3, h4] at this
  exact this

/-- What is drawn. -/
def AggP (R : Nat) (w : World) (a : Option Addr) (len cap p : Nat) (e : Ending) (w' : World) : Prop := ∃ n0 m0 l0 t0 : Int, e = .returned (.agg #[.int .i64 n0, .int .i64 m0, .int .i64 l0, .int .i64 t0]) ∧ (-10 ≤ n0 ∧ (n0 ≤ 10 ∨ n0 = 1001)) ∧ (-8000 ≤ m0 ∧ m0 ≤ 8000) ∧ (-10 ≤ l0 ∧ l0 ≤ 1001) ∧ (-10 ≤ t0 ∧ t0 ≤ 1001) ∧ Kp R w w' ∧ ∃ p', p' ≤ p + 10 ∧ Rd R w' a len cap p'

set_option maxRecDepth 20000 in
set_option maxHeartbeats 4000000 in
theorem agg_any (R : Nat) (a : Option Addr) (len cap p : Nat) (n : Int) (w : World) (hn : 1 ≤ n) (hn2 : n ≤ 100000) (hp : p ≤ 800000) (hR : R < w.heap.size) (h : Rd R w a len cap p) : Calls Try.prog 39 #[.pointer (some ⟨R, 0, none⟩), .int .i64 n] w fun e w' => AggP R w a len cap p e w' := by
  have r0 := hide h
  have hn0 : w.heap.size ≠ R := by omega
  have hn1 : w.heap.size + 1 ≠ R := by omega
  clear h
  go_enter Try.func39, Try.ntmps39
  go_wp2_with (first
    | (go_at_call 15; (with_reducible refine (pick_any R a len cap p 6 _ (by omega) (by omega) ((unhide r0).kp hR (by repeat (first | (with_reducible exact Below.refl _ _) | (with_reducible refine bel_alloc ?_ _) | (with_reducible refine bel_drew ?_) | (with_reducible refine bel_drewN ?_ _))))).mono ?_); rintro e wa ⟨x, rfl, bx1, bx2, kwa, qwa⟩; have rwa := hide (qwa (by omega)); clear qwa; have zwa := kwa.low.size; have hRwa : R < wa.heap.size := (by (try simp at zwa); omega); have hnwa : wa.heap.size ≠ R := (by omega); have hcwa := (fun b o hb hn => kwa.cell (b := b) (o := o) hb hn); have hfwa := (fun b o hb hn => kwa.frozen (b := b) (o := o) hb hn); have hzwa : w.heap.size < wa.heap.size := (by (try simp at zwa); omega); have xzwa : w.heap.size < wa.heap.size := (by (try simp at zwa); omega); have xywa : w.heap.size ≤ wa.heap.size := (by omega); have x0wa : wa.cell? ⟨w.heap.size, 0, none⟩ = some (.int .i64 0) := ((hcwa _ 0 (by first | assumption | (simp; done) | (simp; omega)) hn0).trans (by first | assumption | (simp (maxDischargeDepth := 9) [go_sem, *]; done))); have xf0wa : wa.frozen? ⟨w.heap.size, 0, none⟩ = false := ((hfwa _ 0 (by first | assumption | (simp; done) | (simp; omega)) hn0).trans (by first | assumption | (simp (maxDischargeDepth := 9) [go_sem, *]; done))); have x1wa : wa.cell? ⟨w.heap.size, 1, none⟩ = some (.int .i64 0) := ((hcwa _ 1 (by first | assumption | (simp; done) | (simp; omega)) hn0).trans (by first | assumption | (simp (maxDischargeDepth := 9) [go_sem, *]; done))); have xf1wa : wa.frozen? ⟨w.heap.size, 1, none⟩ = false := ((hfwa _ 1 (by first | assumption | (simp; done) | (simp; omega)) hn0).trans (by first | assumption | (simp (maxDischargeDepth := 9) [go_sem, *]; done))); have x2wa : wa.cell? ⟨w.heap.size, 2, none⟩ = some (.int .i64 0) := ((hcwa _ 2 (by first | assumption | (simp; done) | (simp; omega)) hn0).trans (by first | assumption | (simp (maxDischargeDepth := 9) [go_sem, *]; done))); have xf2wa : wa.frozen? ⟨w.heap.size, 2, none⟩ = false := ((hfwa _ 2 (by first | assumption | (simp; done) | (simp; omega)) hn0).trans (by first | assumption | (simp (maxDischargeDepth := 9) [go_sem, *]; done))); have x3wa : wa.cell? ⟨w.heap.size, 3, none⟩ = some (.int .i64 0) := ((hcwa _ 3 (by first | assumption | (simp; done) | (simp; omega)) hn0).trans (by first | assumption | (simp (maxDischargeDepth := 9) [go_sem, *]; done))); have xf3wa : wa.frozen? ⟨w.heap.size, 3, none⟩ = false := ((hfwa _ 3 (by first | assumption | (simp; done) | (simp; omega)) hn0).trans (by first | assumption | (simp (maxDischargeDepth := 9) [go_sem, *]; done))); have yzwa : w.heap.size + 1 < wa.heap.size := (by (try simp at zwa); omega); have yywa : w.heap.size + 1 ≤ wa.heap.size := (by omega); have y0wa : wa.cell? ⟨w.heap.size + 1, 0, none⟩ = some (.int .i64 0) := ((hcwa _ 0 (by first | assumption | (simp; done) | (simp; omega)) hn1).trans (by first | assumption | (simp (maxDischargeDepth := 9) [go_sem, *]; done))); have yf0wa : wa.frozen? ⟨w.heap.size + 1, 0, none⟩ = false := ((hfwa _ 0 (by first | assumption | (simp; done) | (simp; omega)) hn1).trans (by first | assumption | (simp (maxDischargeDepth := 9) [go_sem, *]; done))); have y1wa : wa.cell? ⟨w.heap.size + 1, 1, none⟩ = some (.int .i64 0) := ((hcwa _ 1 (by first | assumption | (simp; done) | (simp; omega)) hn1).trans (by first | assumption | (simp (maxDischargeDepth := 9) [go_sem, *]; done))); have yf1wa : wa.frozen? ⟨w.heap.size + 1, 1, none⟩ = false := ((hfwa _ 1 (by first | assumption | (simp; done) | (simp; omega)) hn1).trans (by first | assumption | (simp (maxDischargeDepth := 9) [go_sem, *]; done))); have y2wa : wa.cell? ⟨w.heap.size + 1, 2, none⟩ = some (.int .i64 0) := ((hcwa _ 2 (by first | assumption | (simp; done) | (simp; omega)) hn1).trans (by first | assumption | (simp (maxDischargeDepth := 9) [go_sem, *]; done))); have yf2wa : wa.frozen? ⟨w.heap.size + 1, 2, none⟩ = false := ((hfwa _ 2 (by first | assumption | (simp; done) | (simp; omega)) hn1).trans (by first | assumption | (simp (maxDischargeDepth := 9) [go_sem, *]; done))); have y3wa : wa.cell? ⟨w.heap.size + 1, 3, none⟩ = some (.int .i64 0) := ((hcwa _ 3 (by first | assumption | (simp; done) | (simp; omega)) hn1).trans (by first | assumption | (simp (maxDischargeDepth := 9) [go_sem, *]; done))); have yf3wa : wa.frozen? ⟨w.heap.size + 1, 3, none⟩ = false := ((hfwa _ 3 (by first | assumption | (simp; done) | (simp; omega)) hn1).trans (by first | assumption | (simp (maxDischargeDepth := 9) [go_sem, *]; done))); have hn2wa : wa.heap.size + 1 ≠ R := (by omega)))
  go_loopw [6] (fun kv W => ∃ (k : Nat) (n0 m0 l0 t0 : Int), k ≤ 5 ∧ kv = .int .i64 k ∧ (n0 + k ≤ 5) ∧ AggAt R w W n0 m0 l0 t0 ∧ ∃ p', p' + k ≤ p + 6 ∧ Hid (Rd R W a len cap p')) (fun kv _ => (intOf kv).toNat)
  case atStart =>
    refine ⟨x.toNat, 0, 0, 0, 0, by omega, by first | (congr 1; omega) | (simp; omega), by omega, ⟨?_, ?_, ?_, ?_, ?_, ?_, ?_, ?_, ?_, ?_, ?_, ?_, ?_, ?_, ?_, ?_, ?_, ?_, ?_, ?_, ?_, ?_⟩, p + 1, by omega, rwa⟩
    all_goals first | assumption | omega | exact (by repeat (first | (with_reducible refine kp_setN ?_ (sA) (by with_reducible assumption) _) | (with_reducible assumption) | (with_reducible exact Kp.refl _ _) | (with_reducible refine kp_set ?_ _) | (with_reducible refine kp_alloc (by with_reducible assumption) ?_ _) | (with_reducible refine kp_drew ?_) | (with_reducible refine kp_drewN ?_ _) | (with_reducible refine Kp.trans ?_ (by with_reducible assumption))))
  case round =>
    obtain ⟨k, n0, m0, l0, t0, hk, rfl, hnk, ⟨c0, cf0, c1, cf1, c2, cf2, c3, cf3, s0, sf0, s1, sf1, s2, sf2, s3, sf3, hi, bn, bm, bl, bt, kp⟩, p', hp', rd⟩ := hrel
    have hRk : R < wr.heap.size := Nat.lt_of_lt_of_le hR kp.low.size
    have hnk2 : wr.heap.size ≠ R := by omega
    have hlo : w.heap.size < wr.heap.size := by omega
    by_cases hk0 : 0 < k
    · obtain ⟨k', rfl⟩ : ∃ k', k = k' + 1 := ⟨k - 1, by omega⟩
      go_wp2_with fail
      go_region_with (first
        | (go_at_call 15; (with_reducible refine (pick_any R a len cap p' 19 _ (by omega) (by omega) ((unhide rd).kp hRk (by repeat (first | (with_reducible exact Below.refl _ _) | (with_reducible refine bel_alloc ?_ _) | (with_reducible refine bel_drew ?_) | (with_reducible refine bel_drewN ?_ _))))).mono ?_); rintro e wb ⟨v, rfl, bv1, bv2, kwb, qwb⟩; have rwb := hide (qwb (by omega)); clear qwb; have zwb := kwb.low.size; have hRwb : R < wb.heap.size := (by (try simp at zwb); omega); have hnwb : wb.heap.size ≠ R := (by omega); have hcwb := (fun b o hb hn => kwb.cell (b := b) (o := o) hb hn); have hfwb := (fun b o hb hn => kwb.frozen (b := b) (o := o) hb hn); have hzwb : w.heap.size < wb.heap.size := (by (try simp at zwb); omega); (try have ywawb : wa.heap.size < wb.heap.size := (by (try simp at zwb); omega)); have xzwb : w.heap.size < wb.heap.size := (by (try simp at zwb); omega); have xywb : w.heap.size ≤ wb.heap.size := (by omega); have x0wb : wb.cell? ⟨w.heap.size, 0, none⟩ = some (.int .i64 0) := ((hcwb _ 0 (by first | assumption | (simp; done) | (simp; omega)) hn0).trans (by first | assumption | (simp (maxDischargeDepth := 9) [go_sem, *]; done))); have xf0wb : wb.frozen? ⟨w.heap.size, 0, none⟩ = false := ((hfwb _ 0 (by first | assumption | (simp; done) | (simp; omega)) hn0).trans (by first | assumption | (simp (maxDischargeDepth := 9) [go_sem, *]; done))); have x1wb : wb.cell? ⟨w.heap.size, 1, none⟩ = some (.int .i64 0) := ((hcwb _ 1 (by first | assumption | (simp; done) | (simp; omega)) hn0).trans (by first | assumption | (simp (maxDischargeDepth := 9) [go_sem, *]; done))); have xf1wb : wb.frozen? ⟨w.heap.size, 1, none⟩ = false := ((hfwb _ 1 (by first | assumption | (simp; done) | (simp; omega)) hn0).trans (by first | assumption | (simp (maxDischargeDepth := 9) [go_sem, *]; done))); have x2wb : wb.cell? ⟨w.heap.size, 2, none⟩ = some (.int .i64 0) := ((hcwb _ 2 (by first | assumption | (simp; done) | (simp; omega)) hn0).trans (by first | assumption | (simp (maxDischargeDepth := 9) [go_sem, *]; done))); have xf2wb : wb.frozen? ⟨w.heap.size, 2, none⟩ = false := ((hfwb _ 2 (by first | assumption | (simp; done) | (simp; omega)) hn0).trans (by first | assumption | (simp (maxDischargeDepth := 9) [go_sem, *]; done))); have x3wb : wb.cell? ⟨w.heap.size, 3, none⟩ = some (.int .i64 0) := ((hcwb _ 3 (by first | assumption | (simp; done) | (simp; omega)) hn0).trans (by first | assumption | (simp (maxDischargeDepth := 9) [go_sem, *]; done))); have xf3wb : wb.frozen? ⟨w.heap.size, 3, none⟩ = false := ((hfwb _ 3 (by first | assumption | (simp; done) | (simp; omega)) hn0).trans (by first | assumption | (simp (maxDischargeDepth := 9) [go_sem, *]; done))); have yzwb : w.heap.size + 1 < wb.heap.size := (by (try simp at zwb); omega); have yywb : w.heap.size + 1 ≤ wb.heap.size := (by omega); have y0wb : wb.cell? ⟨w.heap.size + 1, 0, none⟩ = some (.int .i64 n0) := ((hcwb _ 0 (by first | assumption | (simp; done) | (simp; omega)) hn1).trans (by first | assumption | (simp (maxDischargeDepth := 9) [go_sem, *]; done))); have yf0wb : wb.frozen? ⟨w.heap.size + 1, 0, none⟩ = false := ((hfwb _ 0 (by first | assumption | (simp; done) | (simp; omega)) hn1).trans (by first | assumption | (simp (maxDischargeDepth := 9) [go_sem, *]; done))); have y1wb : wb.cell? ⟨w.heap.size + 1, 1, none⟩ = some (.int .i64 m0) := ((hcwb _ 1 (by first | assumption | (simp; done) | (simp; omega)) hn1).trans (by first | assumption | (simp (maxDischargeDepth := 9) [go_sem, *]; done))); have yf1wb : wb.frozen? ⟨w.heap.size + 1, 1, none⟩ = false := ((hfwb _ 1 (by first | assumption | (simp; done) | (simp; omega)) hn1).trans (by first | assumption | (simp (maxDischargeDepth := 9) [go_sem, *]; done))); have y2wb : wb.cell? ⟨w.heap.size + 1, 2, none⟩ = some (.int .i64 l0) := ((hcwb _ 2 (by first | assumption | (simp; done) | (simp; omega)) hn1).trans (by first | assumption | (simp (maxDischargeDepth := 9) [go_sem, *]; done))); have yf2wb : wb.frozen? ⟨w.heap.size + 1, 2, none⟩ = false := ((hfwb _ 2 (by first | assumption | (simp; done) | (simp; omega)) hn1).trans (by first | assumption | (simp (maxDischargeDepth := 9) [go_sem, *]; done))); have y3wb : wb.cell? ⟨w.heap.size + 1, 3, none⟩ = some (.int .i64 t0) := ((hcwb _ 3 (by first | assumption | (simp; done) | (simp; omega)) hn1).trans (by first | assumption | (simp (maxDischargeDepth := 9) [go_sem, *]; done))); have yf3wb : wb.frozen? ⟨w.heap.size + 1, 3, none⟩ = false := ((hfwb _ 3 (by first | assumption | (simp; done) | (simp; omega)) hn1).trans (by first | assumption | (simp (maxDischargeDepth := 9) [go_sem, *]; done))); have hn2wb : wb.heap.size + 1 ≠ R := (by omega); have hwv : IntKind.i64.wrap (v - 9) = v - 9 := IntWalk.i64_in _ (by omega); obtain ⟨n1, m1, l1, t1, hA, bn1, bm1, bl1, bt1⟩ := addB (n0 := n0) (m0 := m0) (l0 := l0) (t0 := t0) (v := v - 9) (by omega) bm bl bt (by omega); have HA := hide hA; clear hA; have KW : Kp R w wb := (by repeat (first | (with_reducible refine kp_setN ?_ (sA) (by with_reducible assumption) _) | (with_reducible assumption) | (with_reducible exact Kp.refl _ _) | (with_reducible refine kp_set ?_ _) | (with_reducible refine kp_alloc (by with_reducible assumption) ?_ _) | (with_reducible refine kp_drew ?_) | (with_reducible refine kp_drewN ?_ _) | (with_reducible refine Kp.trans ?_ (by with_reducible assumption)))))
        | (go_at_call 38; refine (specadd_b _ HA).mono ?_; rintro e wc ⟨rfl, hbc⟩; have zwc := hbc.size; obtain ⟨hcwc, hfwc, hswc⟩ := bcell hbc; have KC : Kp R w wc := KW.trans (Kp.of_bel (Nat.le_of_lt hRwb) hbc); have xc0 : wc.cell? ⟨w.heap.size, 0, none⟩ = some (.int .i64 0) := ((hcwc _ 0 (by first | assumption | (simp; done) | (simp; omega))).trans (by first | assumption | (simp (maxDischargeDepth := 9) [go_sem, *]; done))); have xf0 : wc.frozen? ⟨w.heap.size, 0, none⟩ = false := ((hfwc _ 0 (by first | assumption | (simp; done) | (simp; omega))).trans (by first | assumption | (simp (maxDischargeDepth := 9) [go_sem, *]; done))); have yc0 : wc.cell? ⟨w.heap.size + 1, 0, none⟩ = some (.int .i64 n0) := ((hcwc _ 0 (by first | assumption | (simp; done) | (simp; omega))).trans (by first | assumption | (simp (maxDischargeDepth := 9) [go_sem, *]; done))); have yf0 : wc.frozen? ⟨w.heap.size + 1, 0, none⟩ = false := ((hfwc _ 0 (by first | assumption | (simp; done) | (simp; omega))).trans (by first | assumption | (simp (maxDischargeDepth := 9) [go_sem, *]; done))); have xc1 : wc.cell? ⟨w.heap.size, 1, none⟩ = some (.int .i64 0) := ((hcwc _ 1 (by first | assumption | (simp; done) | (simp; omega))).trans (by first | assumption | (simp (maxDischargeDepth := 9) [go_sem, *]; done))); have xf1 : wc.frozen? ⟨w.heap.size, 1, none⟩ = false := ((hfwc _ 1 (by first | assumption | (simp; done) | (simp; omega))).trans (by first | assumption | (simp (maxDischargeDepth := 9) [go_sem, *]; done))); have yc1 : wc.cell? ⟨w.heap.size + 1, 1, none⟩ = some (.int .i64 m0) := ((hcwc _ 1 (by first | assumption | (simp; done) | (simp; omega))).trans (by first | assumption | (simp (maxDischargeDepth := 9) [go_sem, *]; done))); have yf1 : wc.frozen? ⟨w.heap.size + 1, 1, none⟩ = false := ((hfwc _ 1 (by first | assumption | (simp; done) | (simp; omega))).trans (by first | assumption | (simp (maxDischargeDepth := 9) [go_sem, *]; done))); have xc2 : wc.cell? ⟨w.heap.size, 2, none⟩ = some (.int .i64 0) := ((hcwc _ 2 (by first | assumption | (simp; done) | (simp; omega))).trans (by first | assumption | (simp (maxDischargeDepth := 9) [go_sem, *]; done))); have xf2 : wc.frozen? ⟨w.heap.size, 2, none⟩ = false := ((hfwc _ 2 (by first | assumption | (simp; done) | (simp; omega))).trans (by first | assumption | (simp (maxDischargeDepth := 9) [go_sem, *]; done))); have yc2 : wc.cell? ⟨w.heap.size + 1, 2, none⟩ = some (.int .i64 l0) := ((hcwc _ 2 (by first | assumption | (simp; done) | (simp; omega))).trans (by first | assumption | (simp (maxDischargeDepth := 9) [go_sem, *]; done))); have yf2 : wc.frozen? ⟨w.heap.size + 1, 2, none⟩ = false := ((hfwc _ 2 (by first | assumption | (simp; done) | (simp; omega))).trans (by first | assumption | (simp (maxDischargeDepth := 9) [go_sem, *]; done))); have xc3 : wc.cell? ⟨w.heap.size, 3, none⟩ = some (.int .i64 0) := ((hcwc _ 3 (by first | assumption | (simp; done) | (simp; omega))).trans (by first | assumption | (simp (maxDischargeDepth := 9) [go_sem, *]; done))); have xf3 : wc.frozen? ⟨w.heap.size, 3, none⟩ = false := ((hfwc _ 3 (by first | assumption | (simp; done) | (simp; omega))).trans (by first | assumption | (simp (maxDischargeDepth := 9) [go_sem, *]; done))); have yc3 : wc.cell? ⟨w.heap.size + 1, 3, none⟩ = some (.int .i64 t0) := ((hcwc _ 3 (by first | assumption | (simp; done) | (simp; omega))).trans (by first | assumption | (simp (maxDischargeDepth := 9) [go_sem, *]; done))); have yf3 : wc.frozen? ⟨w.heap.size + 1, 3, none⟩ = false := ((hfwc _ 3 (by first | assumption | (simp; done) | (simp; omega))).trans (by first | assumption | (simp (maxDischargeDepth := 9) [go_sem, *]; done)))))
      all_goals
        go_wp2
        go_roundw
        case rel =>
          refine ⟨k', n1, m1, l1, t1, by omega, by go_num, by omega, ⟨?_, ?_, ?_, ?_, ?_, ?_, ?_, ?_, ?_, ?_, ?_, ?_, ?_, ?_, ?_, ?_, ?_, ?_, ?_, ?_, ?_, ?_⟩, p' + 1, by omega, hide ((unhide rwb).up (by repeat (first | (with_reducible exact Below.refl _ _) | (with_reducible refine Below.setCell ?_ (by first | (simp; omega) | omega) _) | (with_reducible refine up_alloc ?_ (by first | omega | (simp; omega)) _) | (with_reducible refine Below.drew ?_) | (with_reducible exact Below.mono (by assumption) (by omega)))))⟩
          all_goals first | omega | (simp (maxDischargeDepth := 9) [go_sem, *]; done) | (simp; omega) | exact (by repeat (first | (with_reducible refine Kp.trans ?_ (Kp.of_bel (by omega) (by with_reducible assumption))) | (with_reducible refine kp_setN ?_ (sA) (by with_reducible assumption) _) | (with_reducible assumption) | (with_reducible exact Kp.refl _ _) | (with_reducible refine kp_set ?_ _) | (with_reducible refine kp_alloc (by with_reducible assumption) ?_ _) | (with_reducible refine kp_drew ?_) | (with_reducible refine kp_drewN ?_ _) | (with_reducible refine Kp.trans ?_ (by with_reducible assumption))))
        case measure => simp [intOf]
    · obtain rfl : k = 0 := by omega
      go_wp2_with (first
        | (go_at_call 15; (with_reducible refine (pick_any R a len cap p' n _ (by omega) (by omega) ((unhide rd).kp hRk (by repeat (first | (with_reducible exact Below.refl _ _) | (with_reducible refine bel_alloc ?_ _) | (with_reducible refine bel_drew ?_) | (with_reducible refine bel_drewN ?_ _))))).mono ?_); rintro e wd ⟨v, rfl, bv1, bv2, kwd, qwd⟩; have rwd := hide (qwd (by omega)); clear qwd; have zwd := kwd.low.size; have hRwd : R < wd.heap.size := (by (try simp at zwd); omega); have hnwd : wd.heap.size ≠ R := (by omega); have hcwd := (fun b o hb hn => kwd.cell (b := b) (o := o) hb hn); have hfwd := (fun b o hb hn => kwd.frozen (b := b) (o := o) hb hn); have hzwd : w.heap.size < wd.heap.size := (by (try simp at zwd); omega); (try have ywcwd : wc.heap.size < wd.heap.size := (by (try simp at zwd); omega)); (try have ywbwd : wb.heap.size < wd.heap.size := (by (try simp at zwd); omega)); (try have ywawd : wa.heap.size < wd.heap.size := (by (try simp at zwd); omega)); have xzwd : w.heap.size < wd.heap.size := (by (try simp at zwd); omega); have xywd : w.heap.size ≤ wd.heap.size := (by omega); have x0wd : wd.cell? ⟨w.heap.size, 0, none⟩ = some (.int .i64 0) := ((hcwd _ 0 (by first | assumption | (simp; done) | (simp; omega)) hn0).trans (by first | assumption | (simp (maxDischargeDepth := 9) [go_sem, *]; done))); have xf0wd : wd.frozen? ⟨w.heap.size, 0, none⟩ = false := ((hfwd _ 0 (by first | assumption | (simp; done) | (simp; omega)) hn0).trans (by first | assumption | (simp (maxDischargeDepth := 9) [go_sem, *]; done))); have x1wd : wd.cell? ⟨w.heap.size, 1, none⟩ = some (.int .i64 0) := ((hcwd _ 1 (by first | assumption | (simp; done) | (simp; omega)) hn0).trans (by first | assumption | (simp (maxDischargeDepth := 9) [go_sem, *]; done))); have xf1wd : wd.frozen? ⟨w.heap.size, 1, none⟩ = false := ((hfwd _ 1 (by first | assumption | (simp; done) | (simp; omega)) hn0).trans (by first | assumption | (simp (maxDischargeDepth := 9) [go_sem, *]; done))); have x2wd : wd.cell? ⟨w.heap.size, 2, none⟩ = some (.int .i64 0) := ((hcwd _ 2 (by first | assumption | (simp; done) | (simp; omega)) hn0).trans (by first | assumption | (simp (maxDischargeDepth := 9) [go_sem, *]; done))); have xf2wd : wd.frozen? ⟨w.heap.size, 2, none⟩ = false := ((hfwd _ 2 (by first | assumption | (simp; done) | (simp; omega)) hn0).trans (by first | assumption | (simp (maxDischargeDepth := 9) [go_sem, *]; done))); have x3wd : wd.cell? ⟨w.heap.size, 3, none⟩ = some (.int .i64 0) := ((hcwd _ 3 (by first | assumption | (simp; done) | (simp; omega)) hn0).trans (by first | assumption | (simp (maxDischargeDepth := 9) [go_sem, *]; done))); have xf3wd : wd.frozen? ⟨w.heap.size, 3, none⟩ = false := ((hfwd _ 3 (by first | assumption | (simp; done) | (simp; omega)) hn0).trans (by first | assumption | (simp (maxDischargeDepth := 9) [go_sem, *]; done))); have yzwd : w.heap.size + 1 < wd.heap.size := (by (try simp at zwd); omega); have yywd : w.heap.size + 1 ≤ wd.heap.size := (by omega); have y0wd : wd.cell? ⟨w.heap.size + 1, 0, none⟩ = some (.int .i64 n0) := ((hcwd _ 0 (by first | assumption | (simp; done) | (simp; omega)) hn1).trans (by first | assumption | (simp (maxDischargeDepth := 9) [go_sem, *]; done))); have yf0wd : wd.frozen? ⟨w.heap.size + 1, 0, none⟩ = false := ((hfwd _ 0 (by first | assumption | (simp; done) | (simp; omega)) hn1).trans (by first | assumption | (simp (maxDischargeDepth := 9) [go_sem, *]; done))); have y1wd : wd.cell? ⟨w.heap.size + 1, 1, none⟩ = some (.int .i64 m0) := ((hcwd _ 1 (by first | assumption | (simp; done) | (simp; omega)) hn1).trans (by first | assumption | (simp (maxDischargeDepth := 9) [go_sem, *]; done))); have yf1wd : wd.frozen? ⟨w.heap.size + 1, 1, none⟩ = false := ((hfwd _ 1 (by first | assumption | (simp; done) | (simp; omega)) hn1).trans (by first | assumption | (simp (maxDischargeDepth := 9) [go_sem, *]; done))); have y2wd : wd.cell? ⟨w.heap.size + 1, 2, none⟩ = some (.int .i64 l0) := ((hcwd _ 2 (by first | assumption | (simp; done) | (simp; omega)) hn1).trans (by first | assumption | (simp (maxDischargeDepth := 9) [go_sem, *]; done))); have yf2wd : wd.frozen? ⟨w.heap.size + 1, 2, none⟩ = false := ((hfwd _ 2 (by first | assumption | (simp; done) | (simp; omega)) hn1).trans (by first | assumption | (simp (maxDischargeDepth := 9) [go_sem, *]; done))); have y3wd : wd.cell? ⟨w.heap.size + 1, 3, none⟩ = some (.int .i64 t0) := ((hcwd _ 3 (by first | assumption | (simp; done) | (simp; omega)) hn1).trans (by first | assumption | (simp (maxDischargeDepth := 9) [go_sem, *]; done))); have yf3wd : wd.frozen? ⟨w.heap.size + 1, 3, none⟩ = false := ((hfwd _ 3 (by first | assumption | (simp; done) | (simp; omega)) hn1).trans (by first | assumption | (simp (maxDischargeDepth := 9) [go_sem, *]; done))); have hn2wd : wd.heap.size + 1 ≠ R := (by omega); have KD : Kp R w wd := (by repeat (first | (with_reducible refine kp_setN ?_ (sA) (by with_reducible assumption) _) | (with_reducible assumption) | (with_reducible exact Kp.refl _ _) | (with_reducible refine kp_set ?_ _) | (with_reducible refine kp_alloc (by with_reducible assumption) ?_ _) | (with_reducible refine kp_drew ?_) | (with_reducible refine kp_drewN ?_ _) | (with_reducible refine Kp.trans ?_ (by with_reducible assumption)))))
        | (go_at_call 15; (with_reducible refine (pick_any R a len cap (p' + 1) 6 _ (by omega) (by omega) ((unhide rwd).kp hRwd (by repeat (first | (with_reducible exact Below.refl _ _) | (with_reducible refine bel_alloc ?_ _) | (with_reducible refine bel_drew ?_) | (with_reducible refine bel_drewN ?_ _))))).mono ?_); rintro e wf ⟨q, rfl, bq1, bq2, kwf, qwf⟩; have rwf := hide (qwf (by omega)); clear qwf; have zwf := kwf.low.size; have hRwf : R < wf.heap.size := (by (try simp at zwf); omega); have hnwf : wf.heap.size ≠ R := (by omega); have hcwf := (fun b o hb hn => kwf.cell (b := b) (o := o) hb hn); have hfwf := (fun b o hb hn => kwf.frozen (b := b) (o := o) hb hn); have hzwf : w.heap.size < wf.heap.size := (by (try simp at zwf); omega); (try have ywdwf : wd.heap.size < wf.heap.size := (by (try simp at zwf); omega)); (try have ywcwf : wc.heap.size < wf.heap.size := (by (try simp at zwf); omega)); (try have ywbwf : wb.heap.size < wf.heap.size := (by (try simp at zwf); omega)); (try have ywawf : wa.heap.size < wf.heap.size := (by (try simp at zwf); omega)); have xzwf : w.heap.size < wf.heap.size := (by (try simp at zwf); omega); have xywf : w.heap.size ≤ wf.heap.size := (by omega); have x0wf : wf.cell? ⟨w.heap.size, 0, none⟩ = some (.int .i64 0) := ((hcwf _ 0 (by first | assumption | (simp; done) | (simp; omega)) hn0).trans (by first | assumption | (simp (maxDischargeDepth := 9) [go_sem, *]; done))); have xf0wf : wf.frozen? ⟨w.heap.size, 0, none⟩ = false := ((hfwf _ 0 (by first | assumption | (simp; done) | (simp; omega)) hn0).trans (by first | assumption | (simp (maxDischargeDepth := 9) [go_sem, *]; done))); have x1wf : wf.cell? ⟨w.heap.size, 1, none⟩ = some (.int .i64 0) := ((hcwf _ 1 (by first | assumption | (simp; done) | (simp; omega)) hn0).trans (by first | assumption | (simp (maxDischargeDepth := 9) [go_sem, *]; done))); have xf1wf : wf.frozen? ⟨w.heap.size, 1, none⟩ = false := ((hfwf _ 1 (by first | assumption | (simp; done) | (simp; omega)) hn0).trans (by first | assumption | (simp (maxDischargeDepth := 9) [go_sem, *]; done))); have x2wf : wf.cell? ⟨w.heap.size, 2, none⟩ = some (.int .i64 0) := ((hcwf _ 2 (by first | assumption | (simp; done) | (simp; omega)) hn0).trans (by first | assumption | (simp (maxDischargeDepth := 9) [go_sem, *]; done))); have xf2wf : wf.frozen? ⟨w.heap.size, 2, none⟩ = false := ((hfwf _ 2 (by first | assumption | (simp; done) | (simp; omega)) hn0).trans (by first | assumption | (simp (maxDischargeDepth := 9) [go_sem, *]; done))); have x3wf : wf.cell? ⟨w.heap.size, 3, none⟩ = some (.int .i64 0) := ((hcwf _ 3 (by first | assumption | (simp; done) | (simp; omega)) hn0).trans (by first | assumption | (simp (maxDischargeDepth := 9) [go_sem, *]; done))); have xf3wf : wf.frozen? ⟨w.heap.size, 3, none⟩ = false := ((hfwf _ 3 (by first | assumption | (simp; done) | (simp; omega)) hn0).trans (by first | assumption | (simp (maxDischargeDepth := 9) [go_sem, *]; done))); have yzwf : w.heap.size + 1 < wf.heap.size := (by (try simp at zwf); omega); have yywf : w.heap.size + 1 ≤ wf.heap.size := (by omega); have y0wf : wf.cell? ⟨w.heap.size + 1, 0, none⟩ = some (.int .i64 n0) := ((hcwf _ 0 (by first | assumption | (simp; done) | (simp; omega)) hn1).trans (by first | assumption | (simp (maxDischargeDepth := 9) [go_sem, *]; done))); have yf0wf : wf.frozen? ⟨w.heap.size + 1, 0, none⟩ = false := ((hfwf _ 0 (by first | assumption | (simp; done) | (simp; omega)) hn1).trans (by first | assumption | (simp (maxDischargeDepth := 9) [go_sem, *]; done))); have y1wf : wf.cell? ⟨w.heap.size + 1, 1, none⟩ = some (.int .i64 m0) := ((hcwf _ 1 (by first | assumption | (simp; done) | (simp; omega)) hn1).trans (by first | assumption | (simp (maxDischargeDepth := 9) [go_sem, *]; done))); have yf1wf : wf.frozen? ⟨w.heap.size + 1, 1, none⟩ = false := ((hfwf _ 1 (by first | assumption | (simp; done) | (simp; omega)) hn1).trans (by first | assumption | (simp (maxDischargeDepth := 9) [go_sem, *]; done))); have y2wf : wf.cell? ⟨w.heap.size + 1, 2, none⟩ = some (.int .i64 l0) := ((hcwf _ 2 (by first | assumption | (simp; done) | (simp; omega)) hn1).trans (by first | assumption | (simp (maxDischargeDepth := 9) [go_sem, *]; done))); have yf2wf : wf.frozen? ⟨w.heap.size + 1, 2, none⟩ = false := ((hfwf _ 2 (by first | assumption | (simp; done) | (simp; omega)) hn1).trans (by first | assumption | (simp (maxDischargeDepth := 9) [go_sem, *]; done))); have y3wf : wf.cell? ⟨w.heap.size + 1, 3, none⟩ = some (.int .i64 t0) := ((hcwf _ 3 (by first | assumption | (simp; done) | (simp; omega)) hn1).trans (by first | assumption | (simp (maxDischargeDepth := 9) [go_sem, *]; done))); have yf3wf : wf.frozen? ⟨w.heap.size + 1, 3, none⟩ = false := ((hfwf _ 3 (by first | assumption | (simp; done) | (simp; omega)) hn1).trans (by first | assumption | (simp (maxDischargeDepth := 9) [go_sem, *]; done))); have hn2wf : wf.heap.size + 1 ≠ R := (by omega); have KF : Kp R w wf := (by repeat (first | (with_reducible refine kp_setN ?_ (sA) (by with_reducible assumption) _) | (with_reducible assumption) | (with_reducible exact Kp.refl _ _) | (with_reducible refine kp_set ?_ _) | (with_reducible refine kp_alloc (by with_reducible assumption) ?_ _) | (with_reducible refine kp_drew ?_) | (with_reducible refine kp_drewN ?_ _) | (with_reducible refine Kp.trans ?_ (by with_reducible assumption)))); obtain ⟨t, ht, ht', ht'', bt1, bt2⟩ := el6 q bq1 bq2)
        | (go_at_call 15; (with_reducible refine (pick_any R a len cap (p' + 2) 4 _ (by omega) (by omega) ((unhide rwf).kp hRwf (by repeat (first | (with_reducible exact Below.refl _ _) | (with_reducible refine bel_alloc ?_ _) | (with_reducible refine bel_drew ?_) | (with_reducible refine bel_drewN ?_ _))))).mono ?_); rintro e wg ⟨y, rfl, by1, by2, kwg, qwg⟩; have rwg := hide (qwg (by omega)); clear qwg; have zwg := kwg.low.size; have hRwg : R < wg.heap.size := (by (try simp at zwg); omega); have hnwg : wg.heap.size ≠ R := (by omega); have hcwg := (fun b o hb hn => kwg.cell (b := b) (o := o) hb hn); have hfwg := (fun b o hb hn => kwg.frozen (b := b) (o := o) hb hn); have hzwg : w.heap.size < wg.heap.size := (by (try simp at zwg); omega); (try have ywfwg : wf.heap.size < wg.heap.size := (by (try simp at zwg); omega)); (try have ywdwg : wd.heap.size < wg.heap.size := (by (try simp at zwg); omega)); (try have ywcwg : wc.heap.size < wg.heap.size := (by (try simp at zwg); omega)); (try have ywbwg : wb.heap.size < wg.heap.size := (by (try simp at zwg); omega)); (try have ywawg : wa.heap.size < wg.heap.size := (by (try simp at zwg); omega)); have xzwg : w.heap.size < wg.heap.size := (by (try simp at zwg); omega); have xywg : w.heap.size ≤ wg.heap.size := (by omega); have x0wg : wg.cell? ⟨w.heap.size, 0, none⟩ = some (.int .i64 0) := ((hcwg _ 0 (by first | assumption | (simp; done) | (simp; omega)) hn0).trans (by first | assumption | (simp (maxDischargeDepth := 9) [go_sem, *]; done))); have xf0wg : wg.frozen? ⟨w.heap.size, 0, none⟩ = false := ((hfwg _ 0 (by first | assumption | (simp; done) | (simp; omega)) hn0).trans (by first | assumption | (simp (maxDischargeDepth := 9) [go_sem, *]; done))); have x1wg : wg.cell? ⟨w.heap.size, 1, none⟩ = some (.int .i64 0) := ((hcwg _ 1 (by first | assumption | (simp; done) | (simp; omega)) hn0).trans (by first | assumption | (simp (maxDischargeDepth := 9) [go_sem, *]; done))); have xf1wg : wg.frozen? ⟨w.heap.size, 1, none⟩ = false := ((hfwg _ 1 (by first | assumption | (simp; done) | (simp; omega)) hn0).trans (by first | assumption | (simp (maxDischargeDepth := 9) [go_sem, *]; done))); have x2wg : wg.cell? ⟨w.heap.size, 2, none⟩ = some (.int .i64 0) := ((hcwg _ 2 (by first | assumption | (simp; done) | (simp; omega)) hn0).trans (by first | assumption | (simp (maxDischargeDepth := 9) [go_sem, *]; done))); have xf2wg : wg.frozen? ⟨w.heap.size, 2, none⟩ = false := ((hfwg _ 2 (by first | assumption | (simp; done) | (simp; omega)) hn0).trans (by first | assumption | (simp (maxDischargeDepth := 9) [go_sem, *]; done))); have x3wg : wg.cell? ⟨w.heap.size, 3, none⟩ = some (.int .i64 0) := ((hcwg _ 3 (by first | assumption | (simp; done) | (simp; omega)) hn0).trans (by first | assumption | (simp (maxDischargeDepth := 9) [go_sem, *]; done))); have xf3wg : wg.frozen? ⟨w.heap.size, 3, none⟩ = false := ((hfwg _ 3 (by first | assumption | (simp; done) | (simp; omega)) hn0).trans (by first | assumption | (simp (maxDischargeDepth := 9) [go_sem, *]; done))); have yzwg : w.heap.size + 1 < wg.heap.size := (by (try simp at zwg); omega); have yywg : w.heap.size + 1 ≤ wg.heap.size := (by omega); have y0wg : wg.cell? ⟨w.heap.size + 1, 0, none⟩ = some (.int .i64 n0) := ((hcwg _ 0 (by first | assumption | (simp; done) | (simp; omega)) hn1).trans (by first | assumption | (simp (maxDischargeDepth := 9) [go_sem, *]; done))); have yf0wg : wg.frozen? ⟨w.heap.size + 1, 0, none⟩ = false := ((hfwg _ 0 (by first | assumption | (simp; done) | (simp; omega)) hn1).trans (by first | assumption | (simp (maxDischargeDepth := 9) [go_sem, *]; done))); have y1wg : wg.cell? ⟨w.heap.size + 1, 1, none⟩ = some (.int .i64 m0) := ((hcwg _ 1 (by first | assumption | (simp; done) | (simp; omega)) hn1).trans (by first | assumption | (simp (maxDischargeDepth := 9) [go_sem, *]; done))); have yf1wg : wg.frozen? ⟨w.heap.size + 1, 1, none⟩ = false := ((hfwg _ 1 (by first | assumption | (simp; done) | (simp; omega)) hn1).trans (by first | assumption | (simp (maxDischargeDepth := 9) [go_sem, *]; done))); have y2wg : wg.cell? ⟨w.heap.size + 1, 2, none⟩ = some (.int .i64 l0) := ((hcwg _ 2 (by first | assumption | (simp; done) | (simp; omega)) hn1).trans (by first | assumption | (simp (maxDischargeDepth := 9) [go_sem, *]; done))); have yf2wg : wg.frozen? ⟨w.heap.size + 1, 2, none⟩ = false := ((hfwg _ 2 (by first | assumption | (simp; done) | (simp; omega)) hn1).trans (by first | assumption | (simp (maxDischargeDepth := 9) [go_sem, *]; done))); have y3wg : wg.cell? ⟨w.heap.size + 1, 3, none⟩ = some (.int .i64 t0) := ((hcwg _ 3 (by first | assumption | (simp; done) | (simp; omega)) hn1).trans (by first | assumption | (simp (maxDischargeDepth := 9) [go_sem, *]; done))); have yf3wg : wg.frozen? ⟨w.heap.size + 1, 3, none⟩ = false := ((hfwg _ 3 (by first | assumption | (simp; done) | (simp; omega)) hn1).trans (by first | assumption | (simp (maxDischargeDepth := 9) [go_sem, *]; done))); have hn2wg : wg.heap.size + 1 ≠ R := (by omega); have KG : Kp R w wg := (by repeat (first | (with_reducible refine kp_setN ?_ (sA) (by with_reducible assumption) _) | (with_reducible assumption) | (with_reducible exact Kp.refl _ _) | (with_reducible refine kp_set ?_ _) | (with_reducible refine kp_alloc (by with_reducible assumption) ?_ _) | (with_reducible refine kp_drew ?_) | (with_reducible refine kp_drewN ?_ _) | (with_reducible refine Kp.trans ?_ (by with_reducible assumption)))); have hw7 : IntKind.i64.wrap (t * 7) = t * 7 := IntWalk.i64_in _ (by omega)))
      · refine bodyPost_ret (v := .agg #[.int .i64 n0, .int .i64 m0, .int .i64 l0, .int .i64 t0]) (by simp (maxDischargeDepth := 9) [results, Try.results39, go_sem, *]) rfl ⟨n0, m0, l0, t0, rfl, by omega, by omega, by omega, by omega, (by repeat (first | (with_reducible refine kp_setN ?_ (sA) (by with_reducible assumption) _) | (with_reducible assumption) | (with_reducible exact Kp.refl _ _) | (with_reducible refine kp_set ?_ _) | (with_reducible refine kp_alloc (by with_reducible assumption) ?_ _) | (with_reducible refine kp_drew ?_) | (with_reducible refine kp_drewN ?_ _) | (with_reducible refine Kp.trans ?_ (by with_reducible assumption)))), p' + 1, by omega, (unhide rwd).up (by repeat (first | (with_reducible exact Below.refl _ _) | (with_reducible refine Below.setCell ?_ (by first | (simp; omega) | omega) _) | (with_reducible refine up_alloc ?_ (by first | omega | (simp; omega)) _) | (with_reducible refine Below.drew ?_)))⟩
      · refine bodyPost_ret (v := .agg #[.int .i64 t, .int .i64 m0, .int .i64 l0, .int .i64 t0]) (by simp (maxDischargeDepth := 9) [results, Try.results39, go_sem, *]) rfl ⟨t, m0, l0, t0, rfl, by omega, by omega, by omega, by omega, (by repeat (first | (with_reducible refine kp_setN ?_ (sA) (by with_reducible assumption) _) | (with_reducible assumption) | (with_reducible exact Kp.refl _ _) | (with_reducible refine kp_set ?_ _) | (with_reducible refine kp_alloc (by with_reducible assumption) ?_ _) | (with_reducible refine kp_drew ?_) | (with_reducible refine kp_drewN ?_ _) | (with_reducible refine Kp.trans ?_ (by with_reducible assumption)))), p' + 3, by omega, (unhide rwg).up (by repeat (first | (with_reducible exact Below.refl _ _) | (with_reducible refine Below.setCell ?_ (by first | (simp; omega) | omega) _) | (with_reducible refine up_alloc ?_ (by first | omega | (simp; omega)) _) | (with_reducible refine Below.drew ?_)))⟩
      · refine bodyPost_ret (v := .agg #[.int .i64 n0, .int .i64 (t * 7), .int .i64 l0, .int .i64 t0]) (by simp (maxDischargeDepth := 9) [results, Try.results39, go_sem, *]) rfl ⟨n0, (t * 7), l0, t0, rfl, by omega, by omega, by omega, by omega, (by repeat (first | (with_reducible refine kp_setN ?_ (sA) (by with_reducible assumption) _) | (with_reducible assumption) | (with_reducible exact Kp.refl _ _) | (with_reducible refine kp_set ?_ _) | (with_reducible refine kp_alloc (by with_reducible assumption) ?_ _) | (with_reducible refine kp_drew ?_) | (with_reducible refine kp_drewN ?_ _) | (with_reducible refine Kp.trans ?_ (by with_reducible assumption)))), p' + 3, by omega, (unhide rwg).up (by repeat (first | (with_reducible exact Below.refl _ _) | (with_reducible refine Below.setCell ?_ (by first | (simp; omega) | omega) _) | (with_reducible refine up_alloc ?_ (by first | omega | (simp; omega)) _) | (with_reducible refine Below.drew ?_)))⟩
      · refine bodyPost_ret (v := .agg #[.int .i64 n0, .int .i64 m0, .int .i64 t, .int .i64 t0]) (by simp (maxDischargeDepth := 9) [results, Try.results39, go_sem, *]) rfl ⟨n0, m0, t, t0, rfl, by omega, by omega, by omega, by omega, (by repeat (first | (with_reducible refine kp_setN ?_ (sA) (by with_reducible assumption) _) | (with_reducible assumption) | (with_reducible exact Kp.refl _ _) | (with_reducible refine kp_set ?_ _) | (with_reducible refine kp_alloc (by with_reducible assumption) ?_ _) | (with_reducible refine kp_drew ?_) | (with_reducible refine kp_drewN ?_ _) | (with_reducible refine Kp.trans ?_ (by with_reducible assumption)))), p' + 3, by omega, (unhide rwg).up (by repeat (first | (with_reducible exact Below.refl _ _) | (with_reducible refine Below.setCell ?_ (by first | (simp; omega) | omega) _) | (with_reducible refine up_alloc ?_ (by first | omega | (simp; omega)) _) | (with_reducible refine Below.drew ?_)))⟩
      · refine bodyPost_ret (v := .agg #[.int .i64 n0, .int .i64 m0, .int .i64 l0, .int .i64 t]) (by simp (maxDischargeDepth := 9) [results, Try.results39, go_sem, *]) rfl ⟨n0, m0, l0, t, rfl, by omega, by omega, by omega, by omega, (by repeat (first | (with_reducible refine kp_setN ?_ (sA) (by with_reducible assumption) _) | (with_reducible assumption) | (with_reducible exact Kp.refl _ _) | (with_reducible refine kp_set ?_ _) | (with_reducible refine kp_alloc (by with_reducible assumption) ?_ _) | (with_reducible refine kp_drew ?_) | (with_reducible refine kp_drewN ?_ _) | (with_reducible refine Kp.trans ?_ (by with_reducible assumption)))), p' + 3, by omega, (unhide rwg).up (by repeat (first | (with_reducible exact Below.refl _ _) | (with_reducible refine Below.setCell ?_ (by first | (simp; omega) | omega) _) | (with_reducible refine up_alloc ?_ (by first | omega | (simp; omega)) _) | (with_reducible refine Below.drew ?_)))⟩
end Go.Proofs.Ytblmhpngaccllaa
