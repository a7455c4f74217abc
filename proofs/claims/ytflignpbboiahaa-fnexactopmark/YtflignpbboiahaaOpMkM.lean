/- Proved here, over lists alone: what a mark does to an operator's rows. -/
import Derived.Test.YtflignpbboiahaaOpPs
namespace Go.Proofs.Ytflignpbboiahaa
open Go.ChangeShapes Go.WideShapes Go.ChangeAt Go.RowKit
set_option linter.unusedVariables false

set_option linter.unusedSimpArgs false
/-- A row is told by a mark, in time; the rows and the panes behind it. -/
def mkTel (mark : Int) (x : OrR) : Bool := !x.tm && decide (x.en ≤ mark)
def mkRow (mark : Int) (x : OrR) : OrR := if mkTel mark x = true then toldX x else x
def mkPan (pc : Bool) (x : OrR) : PnR := ⟨x.ky, x.st, x.en, x.td, 1, if pc = true then x.fn else x.an, if pc = true then x.fsu else x.asu, if pc = true then x.fle else x.ale, if pc = true then x.fmo else x.amo⟩
def mkRows (l mark : Int) (xs : List OrR) : List OrR := (xs.map (mkRow mark)).filter (fun x => decide (mark < x.en + l))
def mkPans (pc : Bool) (mark : Int) (xs : List OrR) : List PnR := (xs.filter (mkTel mark)).map (mkPan pc)
def markF (s t k z q l e : Int) (b : Bool) (v r m : Int) (xs : List OrR) (mark : Int) : Int × List OrR × List PnR := if (okOp s t k z q l e v r m xs && inB mark 0 1000) = true then (if m < mark then (mark, mkRows l mark xs, mkPans b mark xs) else (m, xs, [])) else (0, [], [])
theorem okOp_at {s t k z q l e v r m : Int} {xs : List OrR} (h : okOp s t k z q l e v r m xs = true) : xs.length ≤ 300 ∧ (0 ≤ l ∧ l ≤ 20) ∧ (0 ≤ m ∧ m ≤ 1000) ∧ (∀ x ∈ xs, x.okB l m = true) ∧ xs.Pairwise (fun x y => ltPl (plO x) (plO y)) := by
  unfold okOp at h
  simp only [Bool.and_eq_true, decide_eq_true_eq] at h
  refine ⟨h.1.2, okJob_l h.1.1.1, inB_iff.1 h.1.1.2, fun x hx => ?_, ?_⟩
  · obtain ⟨i, hi⟩ := List.mem_iff_getElem?.1 hx
    exact okAt_ok hi (okUp_at h.2 (List.getElem?_eq_some_iff.1 hi).1)
  · have hstep : ∀ (i : Nat) (x y : OrR), xs[i]? = some x → xs[i + 1]? = some y → ltPl (plO x) (plO y) := by
      intro i x y hx hy
      have h9 := okUp_at h.2 (List.getElem?_eq_some_iff.1 hy).1
      rw [okAt_s hy hx] at h9
      simp only [Bool.and_eq_true, nextO, nextP] at h9
      have h8 := aheadP_iff.1 h9.2.2
      unfold ltPl plO
      simp only
      omega
    rw [List.pairwise_iff_getElem]
    intro i j hi hj hij
    obtain ⟨d, rfl⟩ : ∃ d, j = i + 1 + d := ⟨j - i - 1, by omega⟩
    clear hij
    induction d with
    | zero => exact hstep i _ _ (List.getElem?_eq_getElem hi) (List.getElem?_eq_getElem hj)
    | succ d ih =>
      have h1 := ih (by omega)
      exact ltPl_tr h1 (hstep (i + 1 + d) _ _ (List.getElem?_eq_getElem (by omega)) (List.getElem?_eq_getElem hj))
theorem okB_all {l m : Int} {x : OrR} (h : x.okB l m = true) : (0 ≤ x.ky ∧ x.ky ≤ 3) ∧ (0 ≤ x.st ∧ x.st < x.en ∧ x.en ≤ 120) ∧ 0 ≤ x.fn ∧ (0 ≤ x.td ∧ x.td ≤ 1500) ∧ m < x.en + l ∧ x.tm = decide (x.en ≤ m) ∧ (x.fn = 0 ↔ x.en ≤ m) := by
  have hw := okB_win h
  simp only [OrR.okB, okRow, Bool.and_eq_true, decide_eq_true_eq] at h
  obtain ⟨⟨⟨⟨⟨⟨⟨⟨⟨⟨h1, h2⟩, h3⟩, h4⟩, h5⟩, h6⟩, h7⟩, h8⟩, h9⟩, h10⟩, h11⟩ := h
  refine ⟨inB_iff.1 h1, hw, ?_, inB_iff.1 h5, h8, by simpa using h9, ?_⟩
  · unfold okAgg at h4
    split at h4
    · omega
    · simp only [Bool.and_eq_true] at h4
      have := inB_iff.1 h4.1.1.1
      omega
  · have h12 := h11
    simp only [beq_iff_eq] at h12
    by_cases hc : x.en ≤ m
    · simp [hc] at h12
      simp [hc, h12]
    · simp [hc] at h12
      simp [hc, h12]
theorem ok_ok3 {l m : Int} {x : OrR} (h : x.okB l m = true) : ok3 (plO x) := by
  obtain ⟨h1, h2, _⟩ := okB_all h
  exact ⟨WalkArith.wf_i64 (show _ from ⟨by simp [plO]; omega, by simp [plO]; omega⟩), WalkArith.wf_i64 (show _ from ⟨by simp [plO]; omega, by simp [plO]; omega⟩), WalkArith.wf_i64 (show _ from ⟨by simp [plO]; omega, by simp [plO]; omega⟩)⟩
theorem tel_of {l m mark : Int} {x : OrR} (h : x.okB l m = true) (hm : m < mark) : telB mark x = mkTel mark x := by
  obtain ⟨_, _, h3, _, _, h6, h7⟩ := okB_all h
  unfold telB mkTel
  rw [h6]
  by_cases hc : x.en ≤ m
  · have : x.fn = 0 := h7.2 hc
    simp [hc, this]
  · have : 0 < x.fn := by
      have := fun h9 => hc (h7.1 h9)
      omega
    simp [hc, this]
theorem tel_no {l m : Int} {x : OrR} (h : x.okB l m = true) : telB m x = false := by
  obtain ⟨_, _, h3, _, _, h6, h7⟩ := okB_all h
  unfold telB
  by_cases hc : x.en ≤ m
  · have : x.fn = 0 := h7.2 hc
    simp [this]
  · simp [hc]
theorem pan_of {l m mark : Int} {x : OrR} (pc : Bool) (h : x.okB l m = true) (ht : mkTel mark x = true) : panX pc x = mkPan pc x := by
  unfold mkTel at ht
  simp at ht
  unfold panX mkPan
  simp [ht.1]
theorem impl_mark (s t k z q l e : Int) (b : Bool) (v r m : Int) {xs : List OrR} {mark : Int} (h : okOp s t k z q l e v r m xs = true) (hi : inB mark 0 1000 = true) {es : List Ent} (hE : es.map (fun e => e.2) = xs) : markF s t k z q l e b v r m xs mark = (max m mark, (sEs l (max m mark) (gEs (max m mark) es)).map (fun e => e.2), (es.filter (fun e => telB (max m mark) e.2)).map (fun e => panX b e.2)) := by
  obtain ⟨_, _, _, hok, _⟩ := okOp_at h
  have hes : ∀ e ∈ es, e.2.okB l m = true := fun e he => hok _ (by rw [← hE]; exact List.mem_map.2 ⟨e, he, rfl⟩)
  unfold markF
  rw [h, hi]
  simp only [Bool.and_self, if_true]
  by_cases hm : m < mark
  · rw [if_pos hm, Int.max_eq_right (by omega)]
    congr 1
    congr 1
    · unfold mkRows sEs gEs
      rw [← hE, List.map_map, List.filter_map, List.filter_map, List.map_map]
      have e1 : (es.filter ((fun x : OrR => decide (mark < x.en + l)) ∘ (mkRow mark ∘ fun e : Ent => e.2))) = es.filter ((fun e : Ent => !shutB l mark e.2.en) ∘ fun e : Ent => (e.1, if telB mark e.2 = true then toldX e.2 else e.2)) := by
        refine List.filter_congr (fun e he => ?_)
        show decide (mark < (mkRow mark e.2).en + l) = !shutB l mark (if telB mark e.2 = true then toldX e.2 else e.2).en
        have e2 : (mkRow mark e.2).en = e.2.en := by unfold mkRow; split <;> rfl
        have e3 : (if telB mark e.2 = true then toldX e.2 else e.2).en = e.2.en := by split <;> rfl
        simp only [e2, e3]
        unfold shutB
        by_cases hc : e.2.en + l ≤ mark
        · have : ¬ mark < e.2.en + l := by omega
          simp [hc, this]
        · have : mark < e.2.en + l := by omega
          simp [hc, this]
      rw [e1]
      refine List.map_congr_left (fun e he => ?_)
      simp only [Function.comp]
      unfold mkRow
      rw [tel_of (hes e (List.mem_filter.1 he).1) hm]
    · unfold mkPans
      rw [← hE, List.filter_map, List.map_map]
      have e1 : es.filter (mkTel mark ∘ fun e : Ent => e.2) = es.filter (fun e => telB mark e.2) := List.filter_congr (fun e he => by simp only [Function.comp]; rw [tel_of (hes e he) hm])
      rw [e1]
      refine List.map_congr_left (fun e he => ?_)
      have h9 := List.mem_filter.1 he
      simp only [Function.comp]
      exact (pan_of b (hes e h9.1) (by rw [← tel_of (hes e h9.1) hm]; simpa using h9.2)).symm
  · rw [if_neg hm, Int.max_eq_left (by omega)]
    have g1 : gEs m es = es := by
      unfold gEs
      have : es.map (fun e : Ent => (e.1, if telB m e.2 = true then toldX e.2 else e.2)) = es.map id := List.map_congr_left (fun e he => by rw [tel_no (hes e he)]; rfl)
      rw [this, List.map_id]
    have g2 : sEs l m es = es := by
      unfold sEs
      rw [List.filter_eq_self]
      intro e he
      have := (okB_all (hes e he)).2.2.2.2.1
      unfold shutB
      simp
      omega
    have g3 : es.filter (fun e => telB m e.2) = [] := List.filter_eq_nil_iff.2 (fun e he => by rw [tel_no (hes e he)]; simp)
    rw [g1, g2, g3, hE]
    rfl
end Go.Proofs.Ytflignpbboiahaa
