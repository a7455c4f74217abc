/- Proved here: two panes with one text are alike, but for what is not told. -/
import Derived.Test.YtkadmigecojpoaaDoorPanTxt
import Derived.Test.YtkadmigecojpoaaDoorWinRead
namespace Go.Proofs.YtkadmigecojpoaaDoor
open Go.ChangeShapes Go.WideShapes Go.ChangeAt Go.RowKit
set_option linter.unusedVariables false

theorem sep_inj {c : UInt8} {l1 l2 r1 r2 : List UInt8} (h1 : c ∉ l1) (h2 : c ∉ l2) (h : l1 ++ c :: r1 = l2 ++ c :: r2) : l1 = l2 ∧ r1 = r2 := by
  induction l1 generalizing l2 with
  | nil =>
    cases l2 with
    | nil => simp at h; exact ⟨rfl, h⟩
    | cons d l2 => simp at h; exact absurd (by rw [← h.1]; simp) h2
  | cons e l1 ih =>
    cases l2 with
    | nil => simp at h; exact absurd (by rw [h.1]; simp) h1
    | cons d l2 =>
      simp at h h1 h2
      obtain ⟨e1, e2⟩ := ih (l2 := l2) (by simpa using h1.2) (by simpa using h2.2) h.2
      exact ⟨by rw [h.1, e1], e2⟩
theorem no_byte (u : Nat) (c : UInt8) (hc : digB c = false) : c ∉ Lib.decDigits u := by
  intro h
  have := List.all_eq_true.1 (dec_all u) c h
  rw [hc] at this
  cases this
theorem app_list (a b : ByteArray) : (a ++ b).data.toList = a.data.toList ++ b.data.toList := by simp
theorem decI_list (n : Int) : (decI n).data.toList = if n < 0 then 45 :: Lib.decDigits (-n).toNat else Lib.decDigits n.toNat := by
  unfold decI
  by_cases h : n < 0
  · rw [if_pos h, if_pos h, app_list]; rfl
  · rw [if_neg h, if_neg h]; rfl
theorem decI_nn {n : Int} (h : 0 ≤ n) : (decI n).data.toList = Lib.decDigits n.toNat := by rw [decI_list, if_neg (by omega)]
theorem decI_inj {a b : Int} (h : (decI a).data.toList = (decI b).data.toList) : a = b := by
  rw [decI_list, decI_list] at h
  have nd : ∀ u (l : List UInt8), Lib.decDigits u ≠ 45 :: l := fun u l e => no_byte u 45 (by decide) (by rw [e]; simp)
  by_cases ha : a < 0
  · by_cases hb : b < 0
    · rw [if_pos ha, if_pos hb] at h
      have := dec_inj (List.cons.inj h).2
      omega
    · rw [if_pos ha, if_neg hb] at h
      exact absurd h.symm (nd _ _)
  · by_cases hb : b < 0
    · rw [if_neg ha, if_pos hb] at h
      exact absurd h (nd _ _)
    · rw [if_neg ha, if_neg hb] at h
      have := dec_inj h
      omega
theorem tail_inj {kd v kd' v' : Int} (h1 : kd = 1 ∨ kd = 2 ∨ kd = 3) (h2 : kd' = 1 ∨ kd' = 2 ∨ kd' = 3) (h3 : kd = 3 → v = 0) (h4 : kd' = 3 → v' = 0) (h : (panTail kd v).data.toList = (panTail kd' v').data.toList) : kd = kd' ∧ v = v' := by
  rcases h1 with rfl | rfl | rfl <;> rcases h2 with rfl | rfl | rfl <;> simp only [panTail, app_list, if_true, if_false, Int.reduceEq] at h
  · refine ⟨rfl, decI_inj ?_⟩
    exact List.append_cancel_left h
  · simp at h
  · simp at h
  · simp at h
  · refine ⟨rfl, decI_inj ?_⟩
    exact List.append_cancel_left h
  · simp at h
  · simp at h
  · simp at h
  · exact ⟨rfl, by rw [h3 rfl, h4 rfl]⟩
theorem tail_head (kd v : Int) (h : kd = 1 ∨ kd = 2 ∨ kd = 3) : ∃ r, (panTail kd v).data.toList = 32 :: r := by
  rcases h with rfl | rfl | rfl <;> simp only [panTail, app_list, if_true, if_false, Int.reduceEq]
  · exact ⟨_, rfl⟩
  · exact ⟨_, rfl⟩
  · exact ⟨_, rfl⟩
theorem tell_gone {ky st en no n s l m k : Int} (h : okPan ky st en no 3 n s l m = true) : tellI n s l m k = 0 := by
  unfold okPan at h
  simp only [Bool.and_eq_true] at h
  have h5 := h.2
  have h4 := h.1.2
  unfold kindB at h5
  simp at h5
  obtain ⟨rfl, _⟩ := h5
  rw [okAgg_0] at h4
  simp at h4
  obtain ⟨⟨rfl, rfl⟩, rfl⟩ := h4
  unfold tellI
  repeat (split; rfl)
  rfl
theorem head_list (ky st en no : Int) (h1 : 0 ≤ ky) (h2 : 0 ≤ no) : (panHead ky st en no).data.toList = [107, 101, 121, 32] ++ (Lib.decDigits ky.toNat ++ 32 :: ([119, 105, 110, 100, 111, 119, 32] ++ (Lib.decDigits st.toNat ++ 46 :: 46 :: (Lib.decDigits en.toNat ++ 32 :: ([112, 97, 110, 101, 32] ++ Lib.decDigits no.toNat))))) := by
  unfold panHead placeTxt
  rw [app_list, app_list, app_list, app_list, app_list, txt_list, decI_nn h1, decI_nn h2]
  simp
theorem pan_inj {ky st en no kd n s l m ky' st' en' no' kd' n' s' l' m' k : Int} (h1 : okPan ky st en no kd n s l m = true) (h2 : okPan ky' st' en' no' kd' n' s' l' m' = true) (h : panHead ky st en no ++ panTail kd (tellI n s l m k) = panHead ky' st' en' no' ++ panTail kd' (tellI n' s' l' m' k)) : ky = ky' ∧ st = st' ∧ en = en' ∧ no = no' ∧ kd = kd' ∧ tellI n s l m k = tellI n' s' l' m' k := by
  obtain ⟨a1, a2, a3, a4, a5, a6⟩ := okPan_bd h1
  obtain ⟨b1, b2, b3, b4, b5, b6⟩ := okPan_bd h2
  obtain ⟨r, hr⟩ := tail_head kd (tellI n s l m k) a6
  obtain ⟨r', hr'⟩ := tail_head kd' (tellI n' s' l' m' k) b6
  have hl := congrArg (fun z : ByteArray => z.data.toList) h
  simp only [app_list] at hl
  rw [head_list _ _ _ _ a1.1 a3.1, head_list _ _ _ _ b1.1 b3.1, hr, hr'] at hl
  simp only [List.append_assoc, List.cons_append, List.nil_append, List.cons.injEq, true_and] at hl
  obtain ⟨e1, f1⟩ := sep_inj (no_byte _ 32 (by decide)) (no_byte _ 32 (by decide)) hl
  simp only [List.cons.injEq, true_and] at f1
  obtain ⟨e2, f2⟩ := sep_inj (no_byte _ 46 (by decide)) (no_byte _ 46 (by decide)) f1
  simp only [List.cons.injEq, true_and] at f2
  obtain ⟨e3, f3⟩ := sep_inj (no_byte _ 32 (by decide)) (no_byte _ 32 (by decide)) f2
  simp only [List.cons.injEq, true_and] at f3
  obtain ⟨e4, f4⟩ := sep_inj (no_byte _ 32 (by decide)) (no_byte _ 32 (by decide)) f3
  have q1 := dec_inj e1
  have q2 := dec_inj e2
  have q3 := dec_inj e3
  have q4 := dec_inj e4
  have ht : (panTail kd (tellI n s l m k)).data.toList = (panTail kd' (tellI n' s' l' m' k)).data.toList := by rw [hr, hr', f4]
  obtain ⟨q5, q6⟩ := tail_inj a6 b6 (fun e => by subst e; exact tell_gone h1) (fun e => by subst e; exact tell_gone h2) ht
  exact ⟨by omega, by omega, by omega, by omega, q5, q6⟩
theorem panText_list {ky st en no kd n s l m k : Int} (h1 : okPan ky st en no kd n s l m = true) (h2 : inB k 1 4 = true) : (panText ky st en no kd n s l m k).toList.isEmpty = false := by
  rw [Go.ByteArray.toList_eq, panText_ok h1 h2, app_list]
  obtain ⟨a1, _, a3, _⟩ := okPan_bd h1
  rw [head_list _ _ _ _ a1.1 a3.1]
  rfl
theorem gone5 : panText 0 0 5 1 3 0 0 0 0 1 = ⟨#[107, 101, 121, 32, 48, 32, 119, 105, 110, 100, 111, 119, 32, 48, 46, 46, 53, 32, 112, 97, 110, 101, 32, 49, 32, 103, 111, 110, 101]⟩ := by
  rw [panText_ok (by decide) (by decide)]
  apply ByteArray.ext
  apply Array.toList_inj.1
  rw [app_list, head_list _ _ _ _ (by decide) (by decide)]
  rw [show (0 : Int).toNat = 0 from rfl, show (5 : Int).toNat = 5 from rfl, show (1 : Int).toNat = 1 from rfl, dec_lt (by omega), dec_lt (by omega), dec_lt (by omega)]
  rfl
end Go.Proofs.YtkadmigecojpoaaDoor
