/- Proved here: what the reader of a code answers: a number below the one asked for; it turns nothing but its own place. -/
import Derived.Test.YtcokdcehjibanaaGreatDoorRows
import Derived.Test.YtcokdcehjibanaaGreatDoorGenA

namespace Go.Proofs.YtcokdcehjibanaaGreatDoor
open Go.ChangeShapes Go.WideShapes Go.ChangeAt Go.RowKit
set_option linter.unusedVariables false

/-- Bytes that lie behind a slice. -/
def BytesAt (w : World) (a : Option Addr) (len : Nat) : Prop := len = 0 ∨ ∃ g o, a = some ⟨g, o, none⟩ ∧ ∀ i, i < len → ∃ z : Int, w.cell? ⟨g, o + i, none⟩ = some (.int .u8 z) ∧ 0 ≤ z ∧ z ≤ 255

/-- The reader at block R: the code's bytes, and the place p. -/
structure Rd (R : Nat) (w : World) (a : Option Addr) (len cap p : Nat) : Prop where
  cb : w.cell? ⟨R, 0, none⟩ = some (.slice a len cap)
  cp : w.cell? ⟨R, 1, none⟩ = some (.int .i64 (p : Int))
  fr : w.frozen? ⟨R, 1, none⟩ = false
  small : p ≤ 1000000
  short : len ≤ 2000
  bytes : BytesAt w a len
  apart : ∀ g o, a = some ⟨g, o, none⟩ → 0 < len → g < R

/-- All but the reader's block stays. -/
structure Kp (R : Nat) (w w' : World) : Prop where
  low : Below R w w'
  all : ∀ b, b < w.heap.size → b ≠ R → w'.heap[b]? = w.heap[b]?

theorem Kp.refl (R : Nat) (w : World) : Kp R w w := ⟨Below.refl _ _, fun _ _ _ => rfl⟩

theorem Kp.trans {R : Nat} {w w1 w2 : World} (h : Kp R w w1) (k : Kp R w1 w2) : Kp R w w2 := ⟨h.low.trans k.low, fun b hb hn => (k.all b (Nat.lt_of_lt_of_le hb h.low.size) hn).trans (h.all b hb hn)⟩

theorem Kp.of_bel {R : Nat} {w w' : World} (hR : R ≤ w.heap.size) (h : Below w.heap.size w w') : Kp R w w' := ⟨h.mono hR, fun b hb _ => h.block b hb⟩

theorem Kp.set {R o : Nat} {w : World} (v : Value) : Kp R w (w.setCell ⟨R, o, none⟩ v) := ⟨(Below.refl R w).setCell (p := ⟨R, o, none⟩) (Nat.le_refl _) v, fun b hb hn => Below.heap_setCell _ _ _ _ hn⟩

theorem Kp.cell {R b o : Nat} {w w' : World} (h : Kp R w w') (hb : b < w.heap.size) (hn : b ≠ R) : w'.cell? ⟨b, o, none⟩ = w.cell? ⟨b, o, none⟩ := World.cell?_of_block (h.all b hb hn)

theorem rem_lt (x : Int) {n : Int} (hn : 1 ≤ n) : 0 ≤ x % n ∧ x % n < n := ⟨Int.emod_nonneg _ (by omega), Int.emod_lt_of_pos _ (by omega)⟩

theorem dec_ff {n : Int} (hn : 1 ≤ n) : decide (n < 1) = false := by simp; omega

theorem len_ff {len : Nat} (h : ¬ len = 0) : ((len : Int) == 0) = false := by rw [beq_eq_false_iff_ne]; omega

theorem tmod_lt {x n : Int} (h0 : 0 ≤ x) (hn : 1 ≤ n) : 0 ≤ x.tmod n ∧ x.tmod n < n := by
  rw [Int.tmod_eq_emod_of_nonneg h0]
  exact rem_lt x hn

theorem xor_nn {X : Int} (h0 : 0 ≤ X) (h1 : X < 4611686018427387904) : 0 ≤ bits .xor .i64 X (X / 64) := by
  obtain ⟨a, rfl⟩ := Int.eq_ofNat_of_zero_le h0
  have d : ((a : Int) / 64) = ((a / 64 : Nat) : Int) := by simp
  rw [d]
  have ha : a < 4611686018427387904 := by omega
  have hb : a / 64 < 4611686018427387904 := Nat.lt_of_le_of_lt (Nat.div_le_self _ _) ha
  have hx : a ^^^ (a / 64) < 2 ^ 62 := Nat.xor_lt_two_pow (by omega) (by omega)
  have k1 : (BitVec.ofInt 64 (a : Int)).toNat = a := by
    rw [BitVec.ofInt_natCast, BitVec.toNat_ofNat]; exact Nat.mod_eq_of_lt (by omega)
  have k2 : (BitVec.ofInt 64 ((a / 64 : Nat) : Int)).toNat = a / 64 := by
    rw [BitVec.ofInt_natCast, BitVec.toNat_ofNat]; exact Nat.mod_eq_of_lt (by omega)
  show 0 ≤ IntKind.i64.wrap ((BitVec.ofInt 64 (a : Int) ^^^ BitVec.ofInt 64 ((a / 64 : Nat) : Int)).toNat : Int)
  rw [BitVec.toNat_xor, k1, k2, IntKind.wrap_i64]
  omega

theorem Kp.draws (R : Nat) (w : World) (n : Nat) : Kp R w (w.drewN n) := ⟨⟨rfl, rfl, rfl, Nat.le_refl _, fun _ _ => rfl⟩, fun _ _ _ => rfl⟩

theorem Rd.draws {R : Nat} {w : World} {a : Option Addr} {len cap p : Nat} (h : Rd R w a len cap p) (n : Nat) : Rd R (w.drewN n) a len cap p := ⟨h.1, h.2, h.3, h.4, h.5, h.6, h.7⟩

theorem mod_nat (p : Nat) {len : Nat} (h : ¬ len = 0) : ∃ i : Nat, (p : Int) % (len : Int) = (i : Int) ∧ i < len := ⟨p % len, by simp, Nat.mod_lt _ (by omega)⟩

theorem div_nat (p len : Nat) : ∃ q : Nat, (p : Int) / (len : Int) = (q : Int) ∧ q ≤ p := ⟨p / len, by simp, Nat.div_le_self _ _⟩

theorem Rd.step {R : Nat} {w : World} {a : Option Addr} {len cap p : Nat} (h : Rd R w a len cap p) (hp : p < 1000000) : Rd R (w.setCell ⟨R, 1, none⟩ (.int .i64 ((p : Int) + 1))) a len cap (p + 1) := by
  obtain ⟨h1, h2, h3, h4, h5, h6, h7⟩ := h
  refine ⟨?_, ?_, ?_, by omega, h5, ?_, h7⟩
  · rw [World.cell?_setCell_other _ _ _ _ (by simp)]; exact h1
  · exact World.cell?_setCell_same' _ _ _ (by rw [h2]; rfl)
  · rw [← h3]; simp [go_sem]
  · rcases h6 with h6 | ⟨g, o, ha, h6⟩
    · exact Or.inl h6
    · refine Or.inr ⟨g, o, ha, fun i hi => ?_⟩
      obtain ⟨z, hz, hb⟩ := h6 i hi
      have := h7 g o ha (by omega)
      exact ⟨z, (cell_set_ne (by simp; omega)).trans hz, hb⟩

def PickP (R : Nat) (w : World) (a : Option Addr) (len cap p : Nat) (n : Int) (e : Ending) (w' : World) : Prop := ∃ x : Int, e = .returned (.int .i64 x) ∧ 0 ≤ x ∧ x < n ∧ Kp R w w' ∧ (p < 1000000 → Rd R w' a len cap (p + 1))

set_option maxRecDepth 20000 in
set_option maxHeartbeats 1000000 in
theorem pick_any (R : Nat) (a : Option Addr) (len cap p : Nat) (n : Int) (w : World) (hn : 1 ≤ n) (hn2 : n ≤ 100000) (h : Rd R w a len cap p) : Calls Tryz.prog 14 #[.pointer (some ⟨R, 0, none⟩), .int .i64 n] w fun e w' => PickP R w a len cap p n e w' := by
  have hst := hide (fun q => h.step q)
  obtain ⟨hb, hp, hf, hs1, hs2, hby, hap⟩ := h
  by_cases hz : len = 0
  · subst hz
    clear hby hap
    go_enter Tryz.func14, Tryz.ntmps14
    go_wp2
    go_ret
    exact ⟨0, rfl, by omega, by omega, Kp.set _, unhide hst⟩
  · obtain ⟨g, o, rfl, hby'⟩ := hby.resolve_left hz
    have hgR := hap g o rfl (by omega)
    have HB := hide hby'
    clear hby hby' hap
    by_cases hk : (p : Int) < (len : Int)
    · obtain ⟨z, hc, z0, z1⟩ := unhide HB p (by omega)
      have hc' : (w.setCell ⟨R, 1, none⟩ (.int .i64 ((p : Int) + 1))).cell? ⟨g, o + p, none⟩ = some (.int .u8 z) := (cell_set_ne (by simp; omega)).trans hc
      have hr := hide (rem_lt z hn)
      have q1 := dec_ff hn
      have q2 := len_ff hz
      go_enter Tryz.func14, Tryz.ntmps14
      go_wp2
      go_ret
      exact ⟨_, rfl, (unhide hr).1, (unhide hr).2, Kp.set _, unhide hst⟩
    · obtain ⟨i1, e1, l1⟩ := mod_nat p hz
      obtain ⟨i2, e2, l2⟩ := mod_nat (p * 7 + 3) hz
      obtain ⟨q, e3, l3⟩ := div_nat p len
      obtain ⟨z1, c1, z10, z11⟩ := unhide HB i1 l1
      obtain ⟨z2, c2, z20, z21⟩ := unhide HB i2 l2
      have c1' : (w.setCell ⟨R, 1, none⟩ (.int .i64 ((p : Int) + 1))).cell? ⟨g, o + i1, none⟩ = some (.int .u8 z1) := (cell_set_ne (by simp; omega)).trans c1
      have c2' : (w.setCell ⟨R, 1, none⟩ (.int .i64 ((p : Int) + 1))).cell? ⟨g, o + i2, none⟩ = some (.int .u8 z2) := (cell_set_ne (by simp; omega)).trans c2
      have e2' : ((p : Int) * 7 + 3) % (len : Int) = (i2 : Int) := by rw [← e2]; simp
      have q1 := dec_ff hn
      have q2 := len_ff hz
      have hk' : decide ((p : Int) < (len : Int)) = false := by simp; omega
      clear e2 c1 c2 HB
      go_enter Tryz.func14, Tryz.ntmps14
      go_wp2
      go_quiet (fail)
      go_wp2
      have hr := tmod_lt (xor_nn (X := z1 * 131 + z2 * 1117 + (p : Int) * 29 + (q : Int) * 53) (by omega) (by omega)) hn
      go_ret
      exact ⟨_, rfl, hr.1, hr.2, (Kp.set _).trans (Kp.draws _ _ _), fun hq => (unhide hst hq).draws _⟩
end Go.Proofs.YtcokdcehjibanaaGreatDoor
