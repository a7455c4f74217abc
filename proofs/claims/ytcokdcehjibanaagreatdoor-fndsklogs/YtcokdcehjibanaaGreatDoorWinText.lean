/- Proved here: a window's text is the same in the program and in the specification. -/
import Derived.Test.YtcokdcehjibanaaGreatDoorDig
import Derived.Test.YtcokdcehjibanaaGreatDoorShelf
import Derived.Deep.RegionHeld3
import Derived.Lib.SmallJoins

namespace Go.Proofs.YtcokdcehjibanaaGreatDoor
open Go.ChangeShapes Go.WideShapes Go.ChangeAt Go.RowKit
set_option linter.unusedVariables false

theorem gPow : Tryz.prog.globalNamed "internal/strconv.uint64pow10" = some 5 := by kernel_rfl

theorem tab_bel {w W : World} (h : Lib.TabIs Tryz.prog w "internal/strconv.uint64pow10" .u64 Lib.pow10Tab) (hb : Below w.heap.size w W) : Lib.TabIs Tryz.prog W "internal/strconv.uint64pow10" .u64 Lib.pow10Tab := Joins.tab_stays gPow h hb (Nat.le_refl _)

theorem below_gr (w : World) (k : Nat) (os : Array Obj) : Below w.heap.size w (Go.Sort.grow (w.drewN k) os) := by
  refine ⟨rfl, rfl, rfl, ?_, fun i hi => ?_⟩
  · show w.heap.size ≤ (w.heap ++ os).size
    simp
  · show (w.heap ++ os)[i]? = w.heap[i]?
    rw [Array.getElem?_append_left hi]

/-- A number's decimal numeral, as a text. -/
def decS (n : Int) : ByteArray := ⟨(Lib.decDigits n.toNat).toArray⟩

theorem decS_size (n : Int) (h1 : n ≤ 99999999) : (decS n).size ≤ 21 := by
  show (Lib.decDigits n.toNat).toArray.size ≤ 21
  have := dec_len n.toNat (by omega)
  simpa using this

theorem itoa_any (n : Int) (w : World) (h0 : 0 ≤ n) (h1 : n ≤ 99999999) (htab : Lib.TabIs Tryz.prog w "internal/strconv.uint64pow10" .u64 Lib.pow10Tab) : Calls Tryz.prog 57 #[.int .i64 n] w fun e w' => e = .returned (.string (decS n)) ∧ Below w.heap.size w w' := by
  refine (Tryz.strconv_Itoa n (by omega) (by omega) w htab).mono ?_
  rintro e w' ⟨rfl, k, os, rfl⟩
  refine ⟨?_, below_gr w k os⟩
  unfold decS Lib.itoa
  rw [if_neg (by omega)]

theorem dig_any (n : Int) (w : World) (h0 : 0 ≤ n) (h1 : n ≤ 99999999) : Calls Tryz.prog 41 #[.int .i64 n] w fun e w' => e = .returned (.string (decS n)) ∧ Below w.heap.size w w' := by
  have h := digits_any n.toNat w (by omega)
  rw [show ((n.toNat : Nat) : Int) = n by omega] at h
  exact h

theorem hd_2 {b0 o0x0 o0x1 : Nat} {v0x0 v0x1 : Value} {W W' : World} (h : ((W.cell? ⟨b0, o0x0, none⟩ = some (v0x0) ∧ W.cell? ⟨b0, o0x1, none⟩ = some (v0x1)) ∧ b0 < W.heap.size)) (hb : Below W.heap.size W W') : ((W'.cell? ⟨b0, o0x0, none⟩ = some (v0x0) ∧ W'.cell? ⟨b0, o0x1, none⟩ = some (v0x1)) ∧ b0 < W'.heap.size) := by
  obtain ⟨⟨h0, h1⟩, s0⟩ := h
  refine ⟨⟨?_, ?_⟩, Nat.lt_of_lt_of_le s0 hb.size⟩
  · rw [hb.cell s0]; exact h0
  · rw [hb.cell s0]; exact h1

theorem hd_2_set {b0 o0x0 o0x1 : Nat} {v0x0 v0x1 : Value} {W : World} {p : Addr} (h : ((W.cell? ⟨b0, o0x0, none⟩ = some (v0x0) ∧ W.cell? ⟨b0, o0x1, none⟩ = some (v0x1)) ∧ b0 < W.heap.size)) (p0 : p.block ≠ b0) (u : Value) : (((W.setCell p u).cell? ⟨b0, o0x0, none⟩ = some (v0x0) ∧ (W.setCell p u).cell? ⟨b0, o0x1, none⟩ = some (v0x1)) ∧ b0 < (W.setCell p u).heap.size) := by
  obtain ⟨⟨h0, h1⟩, s0⟩ := h
  have hb : W.heap.size ≤ (W.setCell p u).heap.size := by simp [World.setCell]
  refine ⟨⟨?_, ?_⟩, Nat.lt_of_lt_of_le s0 hb⟩
  · rw [cell_set_ne p0]; exact h0
  · rw [cell_set_ne p0]; exact h1

theorem hd_2_re {b0 o0x0 o0x1 : Nat} {v0x0 v0x1 : Value} {W : World} {o o' : Obj} (h : (((W.alloc o).cell? ⟨b0, o0x0, none⟩ = some (v0x0) ∧ (W.alloc o).cell? ⟨b0, o0x1, none⟩ = some (v0x1)) ∧ b0 < (W.alloc o).heap.size)) (p0 : b0 < W.heap.size) : (((W.alloc o').cell? ⟨b0, o0x0, none⟩ = some (v0x0) ∧ (W.alloc o').cell? ⟨b0, o0x1, none⟩ = some (v0x1)) ∧ b0 < (W.alloc o').heap.size) := by
  obtain ⟨⟨h0, h1⟩, s0⟩ := h
  have hb : Below W.heap.size (W.alloc o) (W.alloc o') := bel_re W o o'
  refine ⟨⟨?_, ?_⟩, Nat.lt_of_lt_of_le s0 hb.size⟩
  · rw [hb.cell p0]; exact h0
  · rw [hb.cell p0]; exact h1


/-- A window's text. -/
def winTxt (a b : Int) : ByteArray := decS a ++ ⟨#[46, 46]⟩ ++ decS b

def winText (a b : Int) : ByteArray := if okWin a b = true then winTxt a b else ⟨#[]⟩

theorem winText_ok {a b : Int} (h : okWin a b = true) : winText a b = winTxt a b := if_pos h

theorem winText_no {a b : Int} (h : okWin a b = false) : winText a b = ⟨#[]⟩ := if_neg (by simp [h])

theorem okWin_bd {a b : Int} (h : okWin a b = true) : 0 ≤ a ∧ a ≤ 60 ∧ 1 ≤ b ∧ b ≤ 120 := by
  unfold okWin at h
  rw [Bool.and_eq_true, inB_iff, inB_iff] at h
  omega

theorem ret_s {a b : ByteArray} (h : a = b) : Ending.returned (.string a) = .returned (.string b) := by rw [h]
end Go.Proofs.YtcokdcehjibanaaGreatDoor
