/- Proved here: a text's words: cut at its blanks there is one list of them. -/
import Derived.Test.YtcokdcehjibanaaGreatDoorNum2
import Derived.Lib.SplitLaws
import Derived.Lib.IndexMore
namespace Go.Proofs.YtcokdcehjibanaaGreatDoor
open Go.ChangeShapes Go.WideShapes Go.ChangeAt Go.RowKit
set_option linter.unusedVariables false

/-- Words with one blank between two. -/
def joinW : List (List UInt8) → List UInt8
  | [] => []
  | [x] => x
  | x :: y :: t => x ++ 32 :: joinW (y :: t)
/-- Words of a text: none has a blank. -/
def Wo (L : List (List UInt8)) (s : List UInt8) : Prop := L ≠ [] ∧ (∀ x ∈ L, (32 : UInt8) ∉ x) ∧ joinW L = s
theorem sepW {c : UInt8} {l1 l2 r1 r2 : List UInt8} (h1 : c ∉ l1) (h2 : c ∉ l2) (h : l1 ++ c :: r1 = l2 ++ c :: r2) : l1 = l2 ∧ r1 = r2 := by
  induction l1 generalizing l2 with
  | nil =>
    cases l2 with
    | nil => simp at h; exact ⟨rfl, h⟩
    | cons d l2 => simp at h; exact absurd (by rw [← h.1]; simp) h2
  | cons e l1 ih =>
    cases l2 with
    | nil => simp at h; exact absurd (by rw [h.1]; simp) h1
    | cons d l2 =>
      simp at h h1 h2
      obtain ⟨e1, e2⟩ := ih (l2 := l2) (by simpa using h1.2) (by simpa using h2.2) h.2
      exact ⟨by rw [h.1, e1], e2⟩
theorem joinW_none {x : List UInt8} {L : List (List UInt8)} (hx : (32 : UInt8) ∉ x) (h : joinW L = x) (hL : L ≠ []) : L = [x] := by
  match L, hL with
  | [y], _ => simp [joinW] at h; rw [h]
  | y :: z :: t, _ =>
    simp [joinW] at h
    exact absurd (by rw [← h]; simp) hx
theorem wo_uniq (L : List (List UInt8)) : ∀ {M : List (List UInt8)} {s : List UInt8}, Wo L s → Wo M s → L = M := by
  induction L with
  | nil => intro M s h; exact absurd rfl h.1
  | cons x t ih =>
    intro M s h k
    match t, M, h, k with
    | [], M, h, k =>
      have hs : x = s := h.2.2
      have hx := h.2.1 x (by simp)
      exact (joinW_none hx (k.2.2.trans hs.symm) k.1).symm
    | y :: t, [], h, k => exact absurd rfl k.1
    | y :: t, [z], h, k =>
      have hs : z = s := k.2.2
      have hz := k.2.1 z (by simp)
      exact joinW_none hz (h.2.2.trans hs.symm) h.1
    | y :: t, z :: u :: v, h, k =>
      have e : x ++ 32 :: joinW (y :: t) = z ++ 32 :: joinW (u :: v) := h.2.2.trans k.2.2.symm
      obtain ⟨e1, e2⟩ := sepW (h.2.1 x (by simp)) (k.2.1 z (by simp)) e
      have := ih (M := u :: v) (s := joinW (y :: t)) ⟨by simp, fun a ha => h.2.1 a (by simp at ha ⊢; exact Or.inr ha), rfl⟩ ⟨by simp, fun a ha => k.2.1 a (by simp at ha ⊢; exact Or.inr ha), e2.symm⟩
      rw [e1, this]
theorem joinW_snoc (L : List (List UInt8)) (x y : List UInt8) : joinW (L ++ [x] ++ [y]) = joinW (L ++ [x]) ++ 32 :: y := by
  induction L with
  | nil => simp [joinW]
  | cons a L ih =>
    cases L with
    | nil => simp [joinW]
    | cons b L =>
      simp only [List.cons_append, List.append_assoc] at ih ⊢
      simp only [joinW]
      rw [ih]
      simp
theorem joinW_more (L : List (List UInt8)) (x y : List UInt8) : joinW (L ++ [x ++ y]) = joinW (L ++ [x]) ++ y := by
  induction L with
  | nil => simp [joinW]
  | cons a L ih =>
    cases L with
    | nil => simp [joinW]
    | cons b L =>
      simp only [List.cons_append] at ih ⊢
      simp only [joinW]
      rw [ih]
      simp
theorem indexByte_at (a b : List UInt8) (c : UInt8) (h : c ∉ a) : Lib.indexByte (a ++ c :: b) c = a.length := by
  induction a with
  | nil => simp [Lib.indexByte]
  | cons d a ih =>
    simp at h
    have := ih (by simpa using h.2)
    simp [Lib.indexByte, this, Ne.symm h.1]
theorem split_wo : ∀ (k : Nat) (l : List UInt8), l.count 32 = k → Wo (Lib.splitK [32] 0 k l) l := by
  intro k
  induction k with
  | zero =>
    intro l h
    refine ⟨by simp [Lib.splitK], fun x hx => ?_, by simp [Lib.splitK, joinW]⟩
    simp [Lib.splitK] at hx
    rw [hx]
    exact List.count_eq_zero.1 h
  | succ k ih =>
    intro l h
    have hm : (32 : UInt8) ∈ l := List.count_pos_iff.1 (by omega)
    obtain ⟨a, b, rfl, ha⟩ := List.eq_append_cons_of_mem hm
    have hi : Lib.index (a ++ 32 :: b) [32] = a.length := by rw [Lib.index_one, indexByte_at a b 32 ha]
    have hc : b.count 32 = k := by
      rw [List.count_append, List.count_cons_self, List.count_eq_zero.2 ha] at h
      omega
    have hk := ih b hc
    have hs : Lib.splitK [32] 0 (k + 1) (a ++ 32 :: b) = a :: Lib.splitK [32] 0 k b := by
      rw [Lib.splitK, hi]
      have : ((a.length : Int) == -1) = false := by rw [beq_eq_false_iff_ne]; omega
      rw [this]
      simp
    rw [hs]
    refine ⟨by simp, fun x hx => ?_, ?_⟩
    · rcases List.mem_cons.1 hx with rfl | hx
      · exact ha
      · exact hk.2.1 x hx
    · obtain ⟨h1, _, h3⟩ := hk
      match hq : Lib.splitK [32] 0 k b, h1 with
      | y :: t, _ =>
        rw [hq] at h3
        simp [joinW, h3]
/-- What strings.Split gives are the words. -/
theorem splitB_wo (s : ByteArray) : Wo ((Lib.splitB ⟨#[32]⟩ 0 (Lib.countB s ⟨#[32]⟩) s).map (·.data.toList)) s.data.toList := by
  rw [Lib.splitB_data]
  exact split_wo _ _ (Lib.count_one 32 s.data.toList).symm
end Go.Proofs.YtcokdcehjibanaaGreatDoor
