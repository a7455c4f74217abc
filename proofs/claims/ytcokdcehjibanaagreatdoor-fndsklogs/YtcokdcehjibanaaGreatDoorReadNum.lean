/- Proved here: what the program reads as a number. -/
import Derived.Test.YtcokdcehjibanaaGreatDoorWinRead
import Derived.Lib.AtoiTie
import Derived.Lib.AtoiErrMem

namespace Go.Proofs.YtcokdcehjibanaaGreatDoor
open Go.ChangeShapes Go.WideShapes Go.ChangeAt Go.RowKit
set_option linter.unusedVariables false

theorem pu_fold (l : List UInt8) : ∀ a : Nat, l.all digB = true → (a + 1) * 10 ^ l.length ≤ 10 ^ 18 → ∃ u : Nat, Lib.parseUint10 a l = .ok u ∧ (u : Int) = l.foldl (fun n c => n * 10 + ((c.toNat : Int) - 48)) (a : Int) := by
  induction l with
  | nil => intro a _ _; exact ⟨a, rfl, rfl⟩
  | cons c r ih =>
    intro a hall hb
    simp only [List.all_cons, Bool.and_eq_true] at hall
    have hd := hall.1
    simp only [digB, Bool.and_eq_true, decide_eq_true_eq] at hd
    have hpos : 1 ≤ 10 ^ r.length := Nat.pos_of_ne_zero (by simp)
    rw [List.length_cons, Nat.pow_succ] at hb
    have hb2 : (a * 10 + (c.toNat - 48) + 1) * 10 ^ r.length ≤ 10 ^ 18 := by
      refine Nat.le_trans ?_ hb
      rw [show (a + 1) * (10 ^ r.length * 10) = ((a + 1) * 10) * 10 ^ r.length by rw [Nat.mul_comm (10 ^ r.length) 10, Nat.mul_assoc]]
      exact Nat.mul_le_mul_right _ (by omega)
    have ha : a * 10 + (c.toNat - 48) + 1 ≤ 10 ^ 18 := Nat.le_trans (Nat.le_mul_of_pos_right _ hpos) hb2
    obtain ⟨u, h1, h2⟩ := ih (a * 10 + (c.toNat - 48)) hall.2 hb2
    refine ⟨u, ?_, ?_⟩
    · unfold Lib.parseUint10
      rw [if_pos (by omega), if_neg (by omega), if_neg (by omega)]
      exact h1
    · rw [h2, List.foldl_cons]
      congr 1
      omega

theorem atoi_dec (u : Nat) (h : u < 10000000) : Lib.atoiAll (Lib.decDigits u) = .ok (u : Int) := by
  have hall := dec_all u
  have hl := dec_lenk 6 u (by omega)
  obtain ⟨x, h1, h2⟩ := pu_fold (Lib.decDigits u) 0 hall (by
    have : 10 ^ (Lib.decDigits u).length ≤ 10 ^ 18 := Nat.pow_le_pow_right (by omega) (by omega)
    omega)
  have hx : (x : Int) = (u : Int) := by rw [h2]; exact dec_acc u
  obtain rfl : x = u := by omega
  obtain ⟨c, r, he, _⟩ := dec_head x
  have hd : digB c = true := by
    rw [he] at hall
    simp only [List.all_cons, Bool.and_eq_true] at hall
    exact hall.1
  simp only [digB, Bool.and_eq_true, decide_eq_true_eq] at hd
  rw [he, Lib.atoiAll_plain c r (by omega) (by omega)]
  rw [he] at h1
  unfold Lib.parseMag
  rw [if_neg (by simp), h1]
  show (if 9223372036854775808 ≤ x then _ else _) = _
  rw [if_neg (by omega)]

theorem end_cases (x : Lib.NumEnd Int) : (∃ v, x = .ok v) ∨ x = Lib.atoiAll [] ∨ x = .range := by
  cases x
  · exact Or.inl ⟨_, rfl⟩
  · exact Or.inr (Or.inl rfl)
  · exact Or.inr (Or.inr rfl)

/-- What a word is read as: the number whose numeral it is, or nothing. -/
def RdP (s : ByteArray) (n : Int) (b : Bool) : Prop := (b = true ∧ Lib.atoiAll s.data.toList = .ok n ∧ Lib.itoa n = s.data.toList) ∨ (b = false ∧ n = 0 ∧ ∀ v, Lib.atoiAll s.data.toList = .ok v → Lib.itoa v ≠ s.data.toList)

def RdE (s : ByteArray) (w : World) (e : Ending) (w' : World) : Prop := ∃ n b, e = .returned (.tuple #[.int .i64 n, .bool b]) ∧ RdP s n b ∧ Below w.heap.size w w'

theorem RdE.mk {s : ByteArray} {w w' : World} {n : Int} {b : Bool} (h : RdP s n b) (hb : Below w.heap.size w w') : RdE s w (.returned (.tuple #[.int .i64 n, .bool b])) w' := ⟨n, b, rfl, h, hb⟩

/-- A number's numeral, as a text. -/
def itoaS (v : Int) : ByteArray := ⟨(Lib.itoa v).toArray⟩

theorem itoaS_any (n : Int) (w : World) (h0 : -9223372036854775808 ≤ n) (h1 : n ≤ 9223372036854775807) (htab : Lib.TabIs Tryz.prog w "internal/strconv.uint64pow10" .u64 Lib.pow10Tab) : Calls Tryz.prog 57 #[.int .i64 n] w fun e w' => e = .returned (.string (itoaS n)) ∧ Below w.heap.size w w' := by
  refine (Tryz.strconv_Itoa n h0 h1 w htab).mono ?_
  rintro e w' ⟨rfl, k, os, rfl⟩
  exact ⟨rfl, below_gr w k os⟩

set_option maxRecDepth 20000 in
set_option maxHeartbeats 1000000 in
theorem readnum_any (s : ByteArray) (w : World) (hs : s.size ≤ 1048576) (tp1 tp2 : TypeId) (p1 p2 : Value) (htab : Lib.TabIs Tryz.prog w "internal/strconv.uint64pow10" .u64 Lib.pow10Tab) (hes : w.var? Tryz.prog "strconv.ErrSyntax" = some #[.iface tp1 p1]) (her : w.var? Tryz.prog "strconv.ErrRange" = some #[.iface tp2 p2]) : Calls Tryz.prog 52 #[.string s] w fun e w' => RdE s w e w' := by
  rcases end_cases (Lib.atoiAll s.data.toList) with ⟨v, hat⟩ | hat | hat
  case inl =>
    obtain ⟨b1, b2⟩ := Lib.atoiAll_bounds hat
    have hA := Tryz.strconv_Atoi_ok s (by omega) v hat w
    have HB := hide (And.intro b1 b2)
    by_cases he : Lib.itoa v = s.data.toList
    · have hR := hide (show RdP s v true from Or.inl ⟨rfl, hat, he⟩)
      have heq : ((itoaS v).toList == s.toList) = true := by
        rw [Go.ByteArray.toList_eq, Go.ByteArray.toList_eq]
        simp [itoaS, he]
      clear hat he b1 b2
      have HA := hide hA
      clear hA
      go_enter Tryz.func52, Tryz.ntmps52
      go_wp2_with fail
      refine (unhide HA).mono ?_
      rintro e w1 ⟨rfl, hw⟩
      have hb1 : Below w.heap.size w w1 := by
        rcases hw with rfl | ⟨t, rfl⟩
        · exact Below.refl _ _
        · exact Lib.bytesWorld_below _ _ _
      clear hw
      go_wp2_with fail
      refine (itoaS_any v _ (unhide HB).1 (unhide HB).2 (tab_bel htab hb1)).mono ?_
      rintro e w2 ⟨rfl, hb2⟩
      go_wp2_with fail
      go_ret2
      exact RdE.mk (unhide hR) (bel_trans hb1 hb2)
    · have hR := hide (show RdP s 0 false from Or.inr ⟨rfl, rfl, fun v' hv' => by rw [hat] at hv'; cases hv'; exact he⟩)
      have heq : ((itoaS v).toList == s.toList) = false := by
        rw [Go.ByteArray.toList_eq, Go.ByteArray.toList_eq]
        simpa [itoaS] using he
      clear hat he b1 b2
      have HA := hide hA
      clear hA
      go_enter Tryz.func52, Tryz.ntmps52
      go_wp2_with fail
      refine (unhide HA).mono ?_
      rintro e w1 ⟨rfl, hw⟩
      have hb1 : Below w.heap.size w w1 := by
        rcases hw with rfl | ⟨t, rfl⟩
        · exact Below.refl _ _
        · exact Lib.bytesWorld_below _ _ _
      clear hw
      go_wp2_with fail
      refine (itoaS_any v _ (unhide HB).1 (unhide HB).2 (tab_bel htab hb1)).mono ?_
      rintro e w2 ⟨rfl, hb2⟩
      go_wp2_with fail
      go_ret2
      exact RdE.mk (unhide hR) (bel_trans hb1 hb2)
  case inr.inl =>
    have hR := hide (show RdP s 0 false from Or.inr ⟨rfl, rfl, fun v' hv' => by rw [hat] at hv'; cases hv'⟩)
    have HA := hide (Tryz.strconv_Atoi_syntax_var s (by omega) hat tp1 p1 w hes)
    clear hat
    go_enter Tryz.func52, Tryz.ntmps52
    go_wp2_with fail
    refine (unhide HA).mono ?_
    rintro e w1 ⟨N, rfl, _, _, hb1⟩
    go_wp2_with fail
    go_ret2
    exact RdE.mk (unhide hR) hb1
  case inr.inr =>
    have hR := hide (show RdP s 0 false from Or.inr ⟨rfl, rfl, fun v' hv' => by rw [hat] at hv'; cases hv'⟩)
    have HA := hide (Tryz.strconv_Atoi_range_var s (by omega) hat tp2 p2 w her)
    clear hat
    go_enter Tryz.func52, Tryz.ntmps52
    go_wp2_with fail
    refine (unhide HA).mono ?_
    rintro e w1 ⟨N, rfl, _, _, hb1⟩
    go_wp2_with fail
    go_ret2
    exact RdE.mk (unhide hR) hb1
end Go.Proofs.YtcokdcehjibanaaGreatDoor
