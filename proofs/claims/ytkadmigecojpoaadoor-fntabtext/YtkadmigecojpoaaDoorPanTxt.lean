/- Proved here: a pane's text, in the program and in the specification. -/
import Derived.Test.YtkadmigecojpoaaDoorDigI
import Derived.Test.YtkadmigecojpoaaDoorPan
namespace Go.Proofs.YtkadmigecojpoaaDoor
open Go.ChangeShapes Go.WideShapes Go.ChangeAt Go.RowKit
set_option linter.unusedVariables false

theorem hd_3 {b0 o0x0 o0x1 o0x2 : Nat} {v0x0 v0x1 v0x2 : Value} {W W' : World} (h : ((W.cell? ⟨b0, o0x0, none⟩ = some (v0x0) ∧ W.cell? ⟨b0, o0x1, none⟩ = some (v0x1) ∧ W.cell? ⟨b0, o0x2, none⟩ = some (v0x2)) ∧ b0 < W.heap.size)) (hb : Below W.heap.size W W') : ((W'.cell? ⟨b0, o0x0, none⟩ = some (v0x0) ∧ W'.cell? ⟨b0, o0x1, none⟩ = some (v0x1) ∧ W'.cell? ⟨b0, o0x2, none⟩ = some (v0x2)) ∧ b0 < W'.heap.size) := by
  obtain ⟨⟨h0, h1, h2⟩, s0⟩ := h
  refine ⟨⟨?_, ?_, ?_⟩, Nat.lt_of_lt_of_le s0 hb.size⟩
  · rw [hb.cell s0]; exact h0
  · rw [hb.cell s0]; exact h1
  · rw [hb.cell s0]; exact h2

theorem hd_3_set {b0 o0x0 o0x1 o0x2 : Nat} {v0x0 v0x1 v0x2 : Value} {W : World} {p : Addr} (h : ((W.cell? ⟨b0, o0x0, none⟩ = some (v0x0) ∧ W.cell? ⟨b0, o0x1, none⟩ = some (v0x1) ∧ W.cell? ⟨b0, o0x2, none⟩ = some (v0x2)) ∧ b0 < W.heap.size)) (p0 : p.block ≠ b0) (u : Value) : (((W.setCell p u).cell? ⟨b0, o0x0, none⟩ = some (v0x0) ∧ (W.setCell p u).cell? ⟨b0, o0x1, none⟩ = some (v0x1) ∧ (W.setCell p u).cell? ⟨b0, o0x2, none⟩ = some (v0x2)) ∧ b0 < (W.setCell p u).heap.size) := by
  obtain ⟨⟨h0, h1, h2⟩, s0⟩ := h
  have hb : W.heap.size ≤ (W.setCell p u).heap.size := by simp [World.setCell]
  refine ⟨⟨?_, ?_, ?_⟩, Nat.lt_of_lt_of_le s0 hb⟩
  · rw [cell_set_ne p0]; exact h0
  · rw [cell_set_ne p0]; exact h1
  · rw [cell_set_ne p0]; exact h2

theorem hd_3_re {b0 o0x0 o0x1 o0x2 : Nat} {v0x0 v0x1 v0x2 : Value} {W : World} {o o' : Obj} (h : (((W.alloc o).cell? ⟨b0, o0x0, none⟩ = some (v0x0) ∧ (W.alloc o).cell? ⟨b0, o0x1, none⟩ = some (v0x1) ∧ (W.alloc o).cell? ⟨b0, o0x2, none⟩ = some (v0x2)) ∧ b0 < (W.alloc o).heap.size)) (p0 : b0 < W.heap.size) : (((W.alloc o').cell? ⟨b0, o0x0, none⟩ = some (v0x0) ∧ (W.alloc o').cell? ⟨b0, o0x1, none⟩ = some (v0x1) ∧ (W.alloc o').cell? ⟨b0, o0x2, none⟩ = some (v0x2)) ∧ b0 < (W.alloc o').heap.size) := by
  obtain ⟨⟨h0, h1, h2⟩, s0⟩ := h
  have hb : Below W.heap.size (W.alloc o) (W.alloc o') := bel_re W o o'
  refine ⟨⟨?_, ?_, ?_⟩, Nat.lt_of_lt_of_le s0 hb.size⟩
  · rw [hb.cell p0]; exact h0
  · rw [hb.cell p0]; exact h1
  · rw [hb.cell p0]; exact h2

/-- The text of a window of a key; of a pane. -/
def placeTxt (ky st en : Int) : ByteArray := ⟨#[107, 101, 121, 32]⟩ ++ decI ky ++ ⟨#[32, 119, 105, 110, 100, 111, 119, 32]⟩ ++ winTxt st en
def panHead (ky st en no : Int) : ByteArray := placeTxt ky st en ++ ⟨#[32, 112, 97, 110, 101, 32]⟩ ++ decI no
def panTail (kd v : Int) : ByteArray := if kd = 1 then ⟨#[32, 116, 105, 109, 101, 108, 121, 32]⟩ ++ decI v else if kd = 2 then ⟨#[32, 108, 97, 116, 101, 32]⟩ ++ decI v else ⟨#[32, 103, 111, 110, 101]⟩
def panText (ky st en no kd n s l m k : Int) : ByteArray := if (okPan ky st en no kd n s l m && inB k 1 4) = true then panHead ky st en no ++ panTail kd (tellI n s l m k) else ⟨#[]⟩
theorem winTxt_size (a b : Int) (h1 : a ≤ 99999999) (h2 : b ≤ 99999999) : (winTxt a b).size ≤ 44 := by
  have s1 := decS_size a h1
  have s2 := decS_size b h2
  unfold winTxt
  rw [ByteArray.size_append, ByteArray.size_append]
  have e : (⟨#[46, 46]⟩ : ByteArray).size = 2 := rfl
  omega
theorem panText_no {ky st en no kd n s l m k : Int} (h : okPan ky st en no kd n s l m = false) : panText ky st en no kd n s l m k = ⟨#[]⟩ := by unfold panText; rw [if_neg (by simp [h])]
theorem panText_nk {ky st en no kd n s l m k : Int} (h : inB k 1 4 = false) : panText ky st en no kd n s l m k = ⟨#[]⟩ := by unfold panText; rw [if_neg (by simp [h])]
theorem panText_ok {ky st en no kd n s l m k : Int} (h : okPan ky st en no kd n s l m = true) (h' : inB k 1 4 = true) : panText ky st en no kd n s l m k = panHead ky st en no ++ panTail kd (tellI n s l m k) := by unfold panText; rw [if_pos (by simp [h, h'])]
theorem bapp (a b c : ByteArray) : a ++ b ++ c = a ++ (b ++ c) := ByteArray.append_assoc
theorem okPan_bd {ky st en no kd n s l m : Int} (h : okPan ky st en no kd n s l m = true) : (0 ≤ ky ∧ ky ≤ 3) ∧ (0 ≤ st ∧ st ≤ 60 ∧ 1 ≤ en ∧ en ≤ 120) ∧ (0 ≤ no ∧ no ≤ 1500) ∧ okAgg n s l m = true ∧ okWin st en = true ∧ (kd = 1 ∨ kd = 2 ∨ kd = 3) := by
  unfold okPan at h
  simp only [Bool.and_eq_true] at h
  obtain ⟨⟨⟨⟨h1, h2⟩, h3⟩, h4⟩, h5⟩ := h
  refine ⟨inB_iff.1 h1, okWin_bd h2, inB_iff.1 h3, h4, h2, ?_⟩
  unfold kindB at h5
  by_cases k3 : kd = 3
  · exact Or.inr (Or.inr k3)
  · rw [if_neg k3] at h5
    simp only [Bool.and_eq_true, Bool.or_eq_true, beq_iff_eq, decide_eq_true_eq] at h5
    rcases h5.2 with h | h
    · exact Or.inl h.1
    · exact Or.inr (Or.inl h.1)
theorem tell_bd {n s l m k : Int} (h : okAgg n s l m = true) : -99999999 ≤ tellI n s l m k ∧ tellI n s l m k ≤ 99999999 := by
  have hb : (0 ≤ n ∧ n ≤ 1000) ∧ (-9000 ≤ s ∧ s ≤ 9000) ∧ (-9 ≤ l ∧ l ≤ 9) ∧ (-9 ≤ m ∧ m ≤ 9) := by
    by_cases h0 : n = 0
    · subst h0
      rw [okAgg_0] at h
      simp only [Bool.and_eq_true, beq_iff_eq] at h
      omega
    · rw [okAgg_n h0] at h
      simp only [Bool.and_eq_true] at h
      obtain ⟨⟨⟨h1, h2⟩, h3⟩, h4⟩ := h
      have a1 := mul_in h1 h2
      have a2 := mul_in h1 (inB_up h2 h3)
      rw [inB_iff] at h1 h2 h3 h4
      omega
  unfold tellI
  split
  · omega
  · split
    · omega
    · split
      · omega
      · split
        · omega
        · omega

set_option maxHeartbeats 1000000 in
theorem placetext_any (ky st en : Int) (w : World) (hk : 0 ≤ ky ∧ ky ≤ 3) (hw : 0 ≤ st ∧ st ≤ 60 ∧ 1 ≤ en ∧ en ≤ 120) (htab : Lib.TabIs Tryd.prog w "internal/strconv.uint64pow10" .u64 Lib.pow10Tab) : Calls Tryd.prog 42 #[.agg #[.int .i64 ky, .int .i64 st, .int .i64 en]] w fun e w' => e = .returned (.string (placeTxt ky st en)) ∧ Below w.heap.size w w' := by
  have sA := decI_size ky (by omega) (by omega)
  have sW := winTxt_size st en (by omega) (by omega)
  have n0 : ¬ 9223372036854775807 < 4 + (decI ky).size := by omega
  have n1 : ¬ 9223372036854775807 < 4 + (decI ky).size + 8 := by omega
  have n2 : ¬ 9223372036854775807 < 4 + (decI ky).size + 8 + (winTxt st en).size := by omega
  go_enter Tryd.func42, Tryd.ntmps42
  go_wp2
  go_region_held3 (fun W => ((W.cell? ⟨w.heap.size, 0, none⟩ = some (.int .i64 ky) ∧ W.cell? ⟨w.heap.size, 1, none⟩ = some (.int .i64 st) ∧ W.cell? ⟨w.heap.size, 2, none⟩ = some (.int .i64 en)) ∧ w.heap.size < W.heap.size)) ((first | ((repeat (first | (with_reducible assumption) | (with_reducible refine hd_3 ?_ (by with_reducible assumption)) | (with_reducible refine hd_3 ?_ (bel_drew (Below.refl _ _))) | (with_reducible exact hd_3_re (by with_reducible assumption) (by first | omega | (simp; done) | (simp; omega))) | (with_reducible refine hd_3 ?_ (bel_one _ _)) | (with_reducible refine hd_3_set ?_ (by first | omega | (simp; done) | (simp; omega)) _))); done) | (refine ⟨⟨?_, ?_, ?_⟩, ?_⟩ <;> first | (go_keep; done) | (simp; done) | (simp; omega) | omega)))
    (first
    | (go_at_call 43; refine (itoaI_any _ _ (by omega) (by omega) (by exact tab_bel htab (by repeat (first | (with_reducible exact Below.refl _ _) | (with_reducible assumption) | (with_reducible refine bel_set ?_ (by first | (simp; done) | (simp; omega)) _) | (with_reducible refine bel_alloc ?_ _) | (with_reducible refine bel_drew ?_) | (with_reducible refine bel_drewN ?_ _) | (with_reducible refine bel_trans ?_ (by with_reducible assumption)))))).mono ?_; rintro e w' ⟨rfl, hb⟩)
    | (go_at_call 30; refine (wintxt_any _ _ _ (by omega) (by omega) (by omega) (by omega) (by exact tab_bel htab (by repeat (first | (with_reducible exact Below.refl _ _) | (with_reducible assumption) | (with_reducible refine bel_set ?_ (by first | (simp; done) | (simp; omega)) _) | (with_reducible refine bel_alloc ?_ _) | (with_reducible refine bel_drew ?_) | (with_reducible refine bel_drewN ?_ _) | (with_reducible refine bel_trans ?_ (by with_reducible assumption)))))).mono ?_; rintro e w' ⟨rfl, hb⟩))
  go_wp2
  go_ret
  exact ⟨rfl, (by repeat (first | (with_reducible exact Below.refl _ _) | (with_reducible assumption) | (with_reducible refine bel_set ?_ (by first | (simp; done) | (simp; omega)) _) | (with_reducible refine bel_alloc ?_ _) | (with_reducible refine bel_drew ?_) | (with_reducible refine bel_drewN ?_ _) | (with_reducible refine bel_trans ?_ (by with_reducible assumption))))⟩

end Go.Proofs.YtkadmigecojpoaaDoor
