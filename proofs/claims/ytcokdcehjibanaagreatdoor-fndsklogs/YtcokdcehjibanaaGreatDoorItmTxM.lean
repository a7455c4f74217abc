/- Proved here: what an item's text says of its words. -/
import Derived.Test.YtcokdcehjibanaaGreatDoorItmTx
import Derived.Test.YtcokdcehjibanaaGreatDoorWordsI
namespace Go.Proofs.YtcokdcehjibanaaGreatDoor
open Go.ChangeShapes Go.WideShapes Go.ChangeAt Go.RowKit
set_option linter.unusedVariables false

theorem no_by (u : Nat) (c : UInt8) (hc : digB c = false) : c ∉ Lib.decDigits u := by
  intro h
  have := List.all_eq_true.1 (dec_all u) c h
  rw [hc] at this
  cases this
theorem app_l (a b : ByteArray) : (a ++ b).data.toList = a.data.toList ++ b.data.toList := by simp
theorem decI_l (n : Int) : (decI n).data.toList = if n < 0 then 45 :: Lib.decDigits (-n).toNat else Lib.decDigits n.toNat := by
  unfold decI
  by_cases h : n < 0
  · rw [if_pos h, if_pos h, app_l]; rfl
  · rw [if_neg h, if_neg h]; rfl
theorem itoa_decI (n : Int) : Lib.itoa n = (decI n).data.toList := by
  rw [decI_l]
  unfold Lib.itoa
  by_cases h : n < 0
  · rw [if_pos h, if_pos h, show n.natAbs = (-n).toNat by omega]
  · rw [if_neg h, if_neg h]
theorem no32 (n : Int) : (32 : UInt8) ∉ (decI n).data.toList := by
  rw [decI_l]
  split
  · intro h
    rcases List.mem_cons.1 h with h | h
    · exact absurd h (by decide)
    · exact no_by _ 32 (by decide) h
  · exact no_by _ 32 (by decide)
theorem bl_inj {L M : List ByteArray} (h : bl L = bl M) : L = M := by
  unfold bl at h
  induction L generalizing M with
  | nil => cases M with
    | nil => rfl
    | cons m M => simp at h
  | cons x L ih => cases M with
    | nil => simp at h
    | cons m M =>
      simp only [List.map_cons, List.cons.injEq] at h
      rw [ih h.2, ByteArray.ext (Array.toList_inj.1 h.1)]
/-- An item's words. -/
def itW (q t k v n : Int) : List ByteArray := if q = 1 then [⟨#[114, 101, 99]⟩, decI t, decI k, decI v] else if q = 2 then [⟨#[109, 97, 114, 107]⟩, decI t] else [⟨#[119, 97, 108, 108]⟩, decI n]
theorem wo_itm (q t k v n : Int) (hq : q = 1 ∨ q = 2 ∨ q = 3) : Wo (bl (itW q t k v n)) (itmTxt q t k v n).data.toList := by
  have a1 := no32 t
  have a2 := no32 k
  have a3 := no32 v
  have a4 := no32 n
  rcases hq with rfl | rfl | rfl
  · refine ⟨by simp [itW, bl], fun x hx => ?_, ?_⟩
    · simp [itW, bl] at hx
      rcases hx with rfl | rfl | rfl | rfl
      · decide
      · exact a1
      · exact a2
      · exact a3
    · simp [itW, bl, itmTxt, joinW]
  · refine ⟨by simp [itW, bl], fun x hx => ?_, ?_⟩
    · simp [itW, bl] at hx
      rcases hx with rfl | rfl
      · decide
      · exact a1
    · simp [itW, bl, itmTxt, joinW]
  · refine ⟨by simp [itW, bl], fun x hx => ?_, ?_⟩
    · simp [itW, bl] at hx
      rcases hx with rfl | rfl
      · decide
      · exact a4
    · simp [itW, bl, itmTxt, joinW]
theorem words_itm {L : List ByteArray} {s : ByteArray} {q t k v n : Int} (h : Wo (bl L) s.data.toList) (ho : okItm q t k v n = true) (e : itmTxt q t k v n = s) : L = itW q t k v n := by
  have h1 := wo_itm q t k v n (okItm_bd ho).1
  rw [e] at h1
  exact bl_inj (wo_uniq _ h h1)
theorem text_words {L : List ByteArray} {s : ByteArray} {q t k v n : Int} (h : Wo (bl L) s.data.toList) (hq : q = 1 ∨ q = 2 ∨ q = 3) (e : L = itW q t k v n) : itmTxt q t k v n = s := by
  have h1 := wo_itm q t k v n hq
  rw [← e] at h1
  exact ByteArray.ext (Array.toList_inj.1 (h1.2.2.symm.trans h.2.2))
theorem itmTxt_size (q t k v n : Int) (ho : okItm q t k v n = true) : (itmTxt q t k v n).size ≤ 80 := by
  obtain ⟨hq, bt, bk, bv, bn, -⟩ := okItm_bd ho
  have s1 := decI_size t (by omega) (by omega)
  have s2 := decI_size k (by omega) (by omega)
  have s3 := decI_size v (by omega) (by omega)
  have s4 := decI_size n (by omega) (by omega)
  have e1 : (⟨#[114, 101, 99, 32]⟩ : ByteArray).size = 4 := rfl
  have e2 : (⟨#[32]⟩ : ByteArray).size = 1 := rfl
  have e3 : (⟨#[109, 97, 114, 107, 32]⟩ : ByteArray).size = 5 := rfl
  have e4 : (⟨#[119, 97, 108, 108, 32]⟩ : ByteArray).size = 5 := rfl
  rcases hq with rfl | rfl | rfl <;> simp only [itmTxt, if_true, if_false, Int.reduceEq, ByteArray.size_append] <;> omega
theorem nine {v : Int} (h : -9 ≤ v ∧ v < 0) : v = -9 ∨ v = -8 ∨ v = -7 ∨ v = -6 ∨ v = -5 ∨ v = -4 ∨ v = -3 ∨ v = -2 ∨ v = -1 := by omega
theorem num1_decI {v : Int} (h0 : -9 ≤ v) (h1 : v ≤ 1000) : num1 (decI v).data.toList = (v, true) := by
  rw [decI_l]
  by_cases h : v < 0
  · rw [if_pos h]
    rcases nine ⟨h0, h⟩ with rfl | rfl | rfl | rfl | rfl | rfl | rfl | rfl | rfl <;> (rw [dec_lt (by decide)]; decide)
  · rw [if_neg h, num1_dec _ (by omega)]
    simp
    omega
theorem rd_decI {s : ByteArray} {x n : Int} {b : Bool} (h0 : -9 ≤ x) (h1 : x ≤ 1000) (hs : s = decI x) (h : RdP s n b) : b = true ∧ n = x := by
  subst hs
  by_cases hx : x < 0
  · have ha : Lib.atoiAll (decI x).data.toList = .ok x := by
      rw [decI_l, if_pos hx]
      rcases nine ⟨h0, hx⟩ with rfl | rfl | rfl | rfl | rfl | rfl | rfl | rfl | rfl <;> (rw [dec_lt (by decide)]; rfl)
    rcases h with ⟨rfl, h2, h3⟩ | ⟨rfl, rfl, h2⟩
    · rw [ha] at h2
      cases h2
      exact ⟨rfl, rfl⟩
    · exact absurd (itoa_decI x) (h2 x ha)
  · exact rd_dec (by omega) (by omega) (by rw [decI_l, if_neg hx]) h
theorem rd_txt {s : ByteArray} {n : Int} (h : RdP s n true) : s = decI n := by
  rcases h with ⟨_, _, h3⟩ | ⟨h1, _⟩
  · rw [itoa_decI] at h3
    exact ByteArray.ext (Array.toList_inj.1 h3.symm)
  · cases h1
/-- What reading an item from a text gives. -/
def ItR (s : ByteArray) (q t k v n : Int) (c : Bool) : Prop := (c = true ∧ okItm q t k v n = true ∧ itmTxt q t k v n = s) ∨ (c = false ∧ (q = 0 ∧ t = 0 ∧ k = 0 ∧ v = 0 ∧ n = 0) ∧ ∀ q t k v n, okItm q t k v n = true → itmTxt q t k v n ≠ s)
theorem decI_injB {a b : Int} (ha : -9 ≤ a ∧ a ≤ 1000) (hb : -9 ≤ b ∧ b ≤ 1000) (h : decI a = decI b) : a = b := by
  have h1 := num1_decI ha.1 ha.2
  rw [h, num1_decI hb.1 hb.2] at h1
  exact (Prod.mk.inj h1).1.symm
theorem itW_inj {q t k v n q' t' k' v' n' : Int} (h1 : okItm q t k v n = true) (h2 : okItm q' t' k' v' n' = true) (h : itW q t k v n = itW q' t' k' v' n') : q = q' ∧ t = t' ∧ k = k' ∧ v = v' ∧ n = n' := by
  obtain ⟨hq, bt, bk, bv, bn, c1, c2, c3⟩ := okItm_bd h1
  obtain ⟨hq', bt', bk', bv', bn', c1', c2', c3'⟩ := okItm_bd h2
  rcases hq with rfl | rfl | rfl <;> rcases hq' with rfl | rfl | rfl <;> simp [itW] at h
  · obtain ⟨e1, e2, e3⟩ := h
    have := decI_injB (by omega) (by omega) e1
    have := decI_injB (by omega) (by omega) e2
    have := decI_injB (by omega) (by omega) e3
    have := c1 rfl
    have := c1' rfl
    omega
  · have := decI_injB (by omega) (by omega) h
    have := c2 rfl
    have := c2' rfl
    omega
  · have := decI_injB (by omega) (by omega) h
    have := c3 rfl
    have := c3' rfl
    omega
theorem itmTxt_inj {q t k v n q' t' k' v' n' : Int} (h1 : okItm q t k v n = true) (h2 : okItm q' t' k' v' n' = true) (h : itmTxt q t k v n = itmTxt q' t' k' v' n') : q = q' ∧ t = t' ∧ k = k' ∧ v = v' ∧ n = n' :=
  itW_inj h1 h2 (words_itm (wo_itm q t k v n (okItm_bd h1).1) h2 h.symm)
theorem ItR.same {s : ByteArray} {q t k v n q' t' k' v' n' : Int} {c d : Bool} (h : ItR s q t k v n c) (g : ItR s q' t' k' v' n' d) : q = q' ∧ t = t' ∧ k = k' ∧ v = v' ∧ n = n' ∧ c = d := by
  rcases h with ⟨rfl, h1, h2⟩ | ⟨rfl, h1, h2⟩
  · rcases g with ⟨rfl, g1, g2⟩ | ⟨rfl, g1, g2⟩
    · obtain ⟨e1, e2, e3, e4, e5⟩ := itmTxt_inj h1 g1 (h2.trans g2.symm)
      exact ⟨e1, e2, e3, e4, e5, rfl⟩
    · exact absurd h2 (g2 _ _ _ _ _ h1)
  · rcases g with ⟨rfl, g1, g2⟩ | ⟨rfl, g1, g2⟩
    · exact absurd g2 (h2 _ _ _ _ _ g1)
    · obtain ⟨rfl, rfl, rfl, rfl, rfl⟩ := h1
      obtain ⟨rfl, rfl, rfl, rfl, rfl⟩ := g1
      exact ⟨rfl, rfl, rfl, rfl, rfl, rfl⟩
end Go.Proofs.YtcokdcehjibanaaGreatDoor
