/- Laid together: texts that were built one by one. -/
import Derived.Test.YtbockbdlojkpiaaGreatPkA5
import Derived.Test.YtbockbdlojkpiaaGreatPkA1
import Derived.Test.YtbockbdlojkpiaaGreatWin
/- Proved here: what is known of all windows of all keys, in the program. -/
namespace Go.Proofs.YtbockbdlojkpiaaGreat
open Go.ChangeShapes Go.WideShapes Go.ChangeAt Go.RowKit Go.Shelf
set_option linter.unusedVariables false

set_option linter.unusedSimpArgs false
theorem slideGo_bd (z p t : Int) (hp : 0 ≤ p) : ∀ (n : Nat) (s : Int), 0 ≤ s → ∀ x ∈ slideGo z p t n s, 0 ≤ x.a ∧ x.a ≤ t ∧ x.b = x.a + z
  | 0, _, _, x, hx => by simp [slideGo] at hx
  | n + 1, s, hs, x, hx => by
    by_cases h1 : s ≤ t
    · by_cases h2 : t < s + z
      · rw [slideGo_in h1 h2] at hx
        rcases List.mem_cons.1 hx with rfl | hx
        · exact ⟨hs, h1, rfl⟩
        · exact slideGo_bd z p t hp n (s + p) (by omega) x hx
      · rw [slideGo_out h1 h2] at hx
        exact slideGo_bd z p t hp n (s + p) (by omega) x hx
    · rw [slideGo_end h1] at hx
      cases hx
theorem winsOf_bd {k z p t : Int} (hz : 1 ≤ z ∧ z ≤ 20) (hp : 0 ≤ p) (ht : 0 ≤ t ∧ t ≤ 60) : ∀ x ∈ winsOf k z p t, 0 ≤ x.a ∧ x.a ≤ 60 ∧ 0 ≤ x.b ∧ x.b ≤ 80 := by
  intro x hx
  unfold winsOf at hx
  have h1 := Int.emod_nonneg t (b := z) (by omega)
  have h2 := Int.emod_lt_of_pos t (b := z) (by omega)
  have h3 : t % z ≤ t := by have := Int.emod_add_mul_ediv t z; have := Int.ediv_nonneg (a := t) (b := z) (by omega) (by omega); have := Int.mul_nonneg (a := z) (b := t / z) (by omega) (by omega); omega
  split at hx
  · simp at hx; subst hx; simp; omega
  · split at hx
    · simp at hx; subst hx; simp; omega
    · have := slideGo_bd z p t hp 61 0 (by omega) x hx
      omega
theorem pairsT_pb (s t k z p l e v r : Int) (xs : List IwR) : ∀ x ∈ pairsT s t k z p l e v r xs, PB x := by
  intro x hx
  unfold pairsT at hx
  split at hx
  · rename_i hc
    simp only [Bool.and_eq_true] at hc
    obtain ⟨hj, hr⟩ := hc
    have ha := (recsB_iff hr).2
    unfold prsT at hx
    obtain ⟨y, hy, hx⟩ := List.mem_flatMap.1 hx
    unfold prsOf at hx
    obtain ⟨q, hq, rfl⟩ := List.mem_map.1 hx
    have hb := List.all_eq_true.1 ha y hy
    have hk : 0 ≤ y.ke ∧ y.ke ≤ 1000000 := by
      unfold IwR.isB isRecB okRec at hb
      simp only [Bool.and_eq_true] at hb
      have := inB_iff.1 hb.2.1.1.2
      omega
    unfold okJob at hj
    simp only [Bool.and_eq_true] at hj
    have hz := inB_iff.1 hj.1.1.1.1.1.2
    have hs := hj.1.1.1.1.2
    have hp : 0 ≤ p := by
      unfold stepB at hs
      split at hs
      · simp only [Bool.and_eq_true] at hs
        have := inB_iff.1 hs.1
        omega
      · simp at hs
        omega
    have h4 := winsOf_bd hz hp (isB_tm hb) q hq
    exact ⟨WalkArith.wf_i64 (by simp [mkP]; omega), WalkArith.wf_i64 (by simp [mkP]; omega), WalkArith.wf_i64 (by simp [mkP]; omega)⟩
  · cases hx
theorem pairsOf_is (s t k z p l e : Int) (b : Bool) (v r : Int) (a : Option Addr) (len cap : Nat) (w : World) : Calls Tryz.prog 22 #[.agg #[.int .i64 s, .int .i64 t, .int .i64 k, .int .i64 z, .int .i64 p, .int .i64 l, .int .i64 e, .bool b, .int .i64 v, .int .i64 r], .slice a len cap] w fun e' w' => e' = .returned (.func (.func 44) #[] #[.pointer (some ⟨w.heap.size + 1, 0, none⟩), .pointer (some ⟨w.heap.size, 0, none⟩)]) ∧ w' = (w.alloc (.cells #[.int .i64 s, .int .i64 t, .int .i64 k, .int .i64 z, .int .i64 p, .int .i64 l, .int .i64 e, .bool b, .int .i64 v, .int .i64 r] 24)).alloc (.cells #[.slice a len cap] 25) := by
  go_enter Tryz.func22, Tryz.ntmps22
  go_wp2
  go_ret
  exact ⟨rfl, rfl⟩
set_option maxRecDepth 20000 in
set_option maxHeartbeats 2000000 in
theorem impltable_any (s t k z p l e : Int) (b : Bool) (v r : Int) (a : Option Addr) (len cap : Nat) (xs : List IwR) (w : World) (h : IwRs w a len xs) : Calls Tryz.prog 8 #[.agg #[.int .i64 s, .int .i64 t, .int .i64 k, .int .i64 z, .int .i64 p, .int .i64 l, .int .i64 e, .bool b, .int .i64 v, .int .i64 r], .slice a len cap] w fun e' w' => ∃ v', e' = .returned v' ∧ OwnTb w' w.heap.size v' (tabP k (pairsT s t k z p l e v r xs)) ∧ Below w.heap.size w w' := by
  obtain ⟨PR, hPR0⟩ := lift_pb _ (pairsT_pb s t k z p l e v r xs)
  have hPR : PR.map (·.1) = pairsI s t k z p l e v r xs := hPR0.trans (pairsI_eq s t k z p l e v r xs).symm
  have hPl : PR.length ≤ 7320 := by
    have h1 := pairsT_le s t k z p l e v r xs
    rw [← hPR0, List.length_map] at h1
    exact h1
  have HP0 := hide hPR0
  clear hPR0
  go_enter Tryz.func8, Tryz.ntmps8
  by_cases hk : k = 3
  · subst hk
    go_wp2_with fail
    refine (pairsOf_is _ _ _ _ _ _ _ _ _ _ _ _ _ _).mono ?_
    rintro e' w1 ⟨rfl, hw⟩
    have hb1 : Below w.heap.size w w1 := by rw [hw]; exact bel_alloc (bel_alloc (bel_one _ _) _) _
    have hs1 : w1.heap.size = w.heap.size + 1 + 1 + 1 := by rw [hw]; simp
    have hBr : w1.cell? ⟨w.heap.size + 1 + 1, 0, none⟩ = some (.slice a len cap) := by rw [hw]; simp [go_sem]
    have hBj : w1.cell? ⟨w.heap.size + 1, 0, none⟩ = some (.int .i64 s) ∧ w1.cell? ⟨w.heap.size + 1, 1, none⟩ = some (.int .i64 t) ∧ w1.cell? ⟨w.heap.size + 1, 2, none⟩ = some (.int .i64 3) ∧ w1.cell? ⟨w.heap.size + 1, 3, none⟩ = some (.int .i64 z) ∧ w1.cell? ⟨w.heap.size + 1, 4, none⟩ = some (.int .i64 p) ∧ w1.cell? ⟨w.heap.size + 1, 5, none⟩ = some (.int .i64 l) ∧ w1.cell? ⟨w.heap.size + 1, 6, none⟩ = some (.int .i64 e) ∧ w1.cell? ⟨w.heap.size + 1, 7, none⟩ = some (.bool b) ∧ w1.cell? ⟨w.heap.size + 1, 8, none⟩ = some (.int .i64 v) ∧ w1.cell? ⟨w.heap.size + 1, 9, none⟩ = some (.int .i64 r) := by
      rw [hw]
      exact ⟨by simp [go_sem], by simp [go_sem], by simp [go_sem], by simp [go_sem], by simp [go_sem], by simp [go_sem], by simp [go_sem], by simp [go_sem], by simp [go_sem], by simp [go_sem]⟩
    clear hw
    go_wp2_with fail
    refine (sessionsof_any 44 _ (enters_of Tryz.func44 (by kernel_rfl) rfl) PR (by omega) w1 (pairsB_stops 29 (by omega) (w.heap.size + 1 + 1) (w.heap.size + 1) len cap a xs s t 3 z p l e b v r w1 w1.heap.size (Nat.le_refl _) hBr (by omega) hBj (by omega) (h.below hb1) (fun g o hp ha => by subst ha; exact (h.below hb1).lt hp) PR hPR)).mono ?_
    rintro e' w' ⟨v', rfl, hO, hb⟩
    go_wp2_with fail
    go_ret
    refine ⟨_, rfl, ?_, bel_trans hb1 hb⟩
    rw [← unhide HP0]
    exact World.ownsRow.mono hO (by omega)
  · skip
    go_wp2_with fail
    refine (pairsOf_is _ _ _ _ _ _ _ _ _ _ _ _ _ _).mono ?_
    rintro e' w1 ⟨rfl, hw⟩
    have hb1 : Below w.heap.size w w1 := by rw [hw]; exact bel_alloc (bel_alloc (bel_one _ _) _) _
    have hs1 : w1.heap.size = w.heap.size + 1 + 1 + 1 := by rw [hw]; simp
    have hBr : w1.cell? ⟨w.heap.size + 1 + 1, 0, none⟩ = some (.slice a len cap) := by rw [hw]; simp [go_sem]
    have hBj : w1.cell? ⟨w.heap.size + 1, 0, none⟩ = some (.int .i64 s) ∧ w1.cell? ⟨w.heap.size + 1, 1, none⟩ = some (.int .i64 t) ∧ w1.cell? ⟨w.heap.size + 1, 2, none⟩ = some (.int .i64 k) ∧ w1.cell? ⟨w.heap.size + 1, 3, none⟩ = some (.int .i64 z) ∧ w1.cell? ⟨w.heap.size + 1, 4, none⟩ = some (.int .i64 p) ∧ w1.cell? ⟨w.heap.size + 1, 5, none⟩ = some (.int .i64 l) ∧ w1.cell? ⟨w.heap.size + 1, 6, none⟩ = some (.int .i64 e) ∧ w1.cell? ⟨w.heap.size + 1, 7, none⟩ = some (.bool b) ∧ w1.cell? ⟨w.heap.size + 1, 8, none⟩ = some (.int .i64 v) ∧ w1.cell? ⟨w.heap.size + 1, 9, none⟩ = some (.int .i64 r) := by
      rw [hw]
      exact ⟨by simp [go_sem], by simp [go_sem], by simp [go_sem], by simp [go_sem], by simp [go_sem], by simp [go_sem], by simp [go_sem], by simp [go_sem], by simp [go_sem], by simp [go_sem]⟩
    clear hw
    go_wp2_with fail
    refine (windows_any 44 _ (enters_of Tryz.func44 (by kernel_rfl) rfl) PR (by omega) w1 (pairsB_stops 29 (by omega) (w.heap.size + 1 + 1) (w.heap.size + 1) len cap a xs s t k z p l e b v r w1 w1.heap.size (Nat.le_refl _) hBr (by omega) hBj (by omega) (h.below hb1) (fun g o hp ha => by subst ha; exact (h.below hb1).lt hp) PR hPR)).mono ?_
    rintro e' w' ⟨v', rfl, hO, hb⟩
    go_wp2_with fail
    go_ret
    refine ⟨_, rfl, ?_, bel_trans hb1 hb⟩
    rw [← unhide HP0, tabP_panes hk, List.map_map]
    exact World.ownsRow.mono hO (by omega)
end Go.Proofs.YtbockbdlojkpiaaGreat
/- Proved here, over lists alone: what sessions are, and that they hang on no order. -/
namespace Go.Proofs.YtbockbdlojkpiaaGreat
open Go.RowKit
set_option linter.unusedVariables false
set_option linter.unusedSimpArgs false

def sumI : List Int → Int
  | [] => 0
  | v :: t => v + sumI t
theorem sumI_app : ∀ (a b : List Int), sumI (a ++ b) = sumI a + sumI b
  | [], b => by simp [sumI]
  | v :: t, b => by simp [sumI, sumI_app t b]; omega
theorem sumI_perm {a b : List Int} (h : a.Perm b) : sumI a = sumI b := by
  induction h with
  | nil => rfl
  | cons x _ ih => simp [sumI, ih]
  | swap x y l => simp [sumI]; omega
  | trans _ _ ih1 ih2 => exact ih1.trans ih2
/-- Values that do not run over. -/
def SmallL (vs : List Int) : Prop := vs.length ≤ 1000000 ∧ ∀ v ∈ vs, -1000000 ≤ v ∧ v ≤ 1000000
theorem sumI_le : ∀ (vs : List Int), (∀ v ∈ vs, -1000000 ≤ v ∧ v ≤ 1000000) → -1000000 * (vs.length : Int) ≤ sumI vs ∧ sumI vs ≤ 1000000 * (vs.length : Int)
  | [], _ => by simp [sumI]
  | v :: t, h => by
    have h1 := sumI_le t (fun x hx => h x (List.mem_cons_of_mem _ hx))
    have h2 := h v (by simp)
    simp only [sumI, List.length_cons]
    omega
theorem SmallL.perm {a b : List Int} (h : SmallL a) (p : a.Perm b) : SmallL b := ⟨by rw [← p.length_eq]; exact h.1, fun v hv => h.2 v (p.mem_iff.2 hv)⟩
/-- What is known of values. -/
def IsAgg (g : Ag4) (vs : List Int) : Prop := (vs = [] ∧ g = ag0) ∨ (vs ≠ [] ∧ g.1 = vs.length ∧ g.2.1 = sumI vs ∧ (g.2.2.1 ∈ vs ∧ ∀ v ∈ vs, g.2.2.1 ≤ v) ∧ (g.2.2.2 ∈ vs ∧ ∀ v ∈ vs, v ≤ g.2.2.2))
theorem IsAgg.perm {g : Ag4} {vs us : List Int} (h : IsAgg g vs) (p : vs.Perm us) : IsAgg g us := by
  rcases h with ⟨rfl, rfl⟩ | ⟨h0, h1, h2, ⟨h3, h4⟩, h5, h6⟩
  · exact .inl ⟨List.nil_perm.1 p, rfl⟩
  · refine .inr ⟨fun e => h0 ?_, by rw [h1, p.length_eq], by rw [h2, sumI_perm p], ⟨p.mem_iff.1 h3, fun v hv => h4 v (p.mem_iff.2 hv)⟩, p.mem_iff.1 h5, fun v hv => h6 v (p.mem_iff.2 hv)⟩
    subst e
    exact List.perm_nil.1 p
theorem IsAgg.uniq {g g' : Ag4} {vs : List Int} (h : IsAgg g vs) (k : IsAgg g' vs) : g = g' := by
  rcases h with ⟨rfl, rfl⟩ | ⟨h0, h1, h2, ⟨h3, h4⟩, h5, h6⟩ <;> rcases k with ⟨k0, k1⟩ | ⟨k0, k1, k2, ⟨k3, k4⟩, k5, k6⟩
  · exact k1.symm
  · exact absurd rfl k0
  · exact absurd k0 h0
  · have e3 := h4 _ k3
    have e4 := k4 _ h3
    have e5 := h6 _ k5
    have e6 := k6 _ h5
    exact Prod.ext (by rw [h1, k1]) (Prod.ext (by rw [h2, k2]) (Prod.ext (by omega) (by omega)))
theorem wrs {x : Int} (h1 : -9223372036854775808 ≤ x) (h2 : x ≤ 9223372036854775807) : wrap64 x = x := by unfold wrap64; omega
theorem IsAgg.both {g h : Ag4} {vs us : List Int} (hg : IsAgg g vs) (hh : IsAgg h us) (sv : SmallL vs) (su : SmallL us) : IsAgg (bothF g h.1 h.2.1 h.2.2.1 h.2.2.2) (vs ++ us) := by
  rcases hg with ⟨rfl, rfl⟩ | ⟨h0, h1, h2, ⟨h3, h4⟩, h5, h6⟩
  · have e : bothF ag0 h.1 h.2.1 h.2.2.1 h.2.2.2 = h := by simp [bothF, bo, ag0]
    rw [e]
    exact hh
  · have n1 : g.1 ≠ 0 := by
      rw [h1]
      have : vs.length ≠ 0 := fun e => h0 (List.eq_nil_of_length_eq_zero e)
      omega
    rcases hh with ⟨rfl, rfl⟩ | ⟨k0, k1, k2, ⟨k3, k4⟩, k5, k6⟩
    · have e : bothF g ag0.1 ag0.2.1 ag0.2.2.1 ag0.2.2.2 = g := by simp [bothF, bo, ag0, n1]
      rw [e, List.append_nil]
      exact .inr ⟨h0, h1, h2, ⟨h3, h4⟩, h5, h6⟩
    · have n2 : h.1 ≠ 0 := by
        rw [k1]
        have : us.length ≠ 0 := fun e => k0 (List.eq_nil_of_length_eq_zero e)
        omega
      have b1 := sumI_le vs sv.2
      have b2 := sumI_le us su.2
      have l1 := sv.1
      have l2 := su.1
      have e : bothF g h.1 h.2.1 h.2.2.1 h.2.2.2 = (g.1 + h.1, g.2.1 + h.2.1, loI g.2.2.1 h.2.2.1, hiI g.2.2.2 h.2.2.2) := by
        simp only [bothF, bo, n1, n2, if_false]
        rw [wrs (by omega) (by omega), wrs (by omega) (by omega)]
      rw [e]
      refine .inr ⟨by simp [h0], by rw [List.length_append, h1, k1]; omega, by rw [sumI_app, h2, k2], ?_, ?_⟩
      · show loI _ _ ∈ _ ∧ ∀ v ∈ _, loI _ _ ≤ v
        unfold loI
        split
        · exact ⟨List.mem_append_right _ k3, fun v hv => (List.mem_append.1 hv).elim (fun q => by have := h4 v q; omega) (k4 v)⟩
        · exact ⟨List.mem_append_left _ h3, fun v hv => (List.mem_append.1 hv).elim (h4 v) (fun q => by have := k4 v q; omega)⟩
      · show hiI _ _ ∈ _ ∧ ∀ v ∈ _, v ≤ hiI _ _
        unfold hiI
        split
        · exact ⟨List.mem_append_right _ k5, fun v hv => (List.mem_append.1 hv).elim (fun q => by have := h6 v q; omega) (k6 v)⟩
        · exact ⟨List.mem_append_left _ h5, fun v hv => (List.mem_append.1 hv).elim (h6 v) (fun q => by have := k6 v q; omega)⟩
theorem isAgg_one (v : Int) : IsAgg (1, v, v, v) [v] := .inr ⟨by simp, by simp, by simp [sumI], ⟨by simp, by simp⟩, by simp, by simp⟩
theorem addF_one (v : Int) : addF ag0 v = (1, v, v, v) := by simp [addF, bo, ag0]
theorem IsAgg.add {g : Ag4} {vs : List Int} (hg : IsAgg g vs) (v : Int) (sv : SmallL vs) (hv : -1000000 ≤ v ∧ v ≤ 1000000) : IsAgg (addF g v) (vs ++ [v]) := by
  rw [addF_both]
  exact hg.both (isAgg_one v) sv ⟨by simp, by simpa using hv⟩
/-- Two ways of one filter. -/
theorem filter_or_perm {α : Type} (p q : α → Bool) : ∀ (l : List α), (∀ y ∈ l, ¬ (p y = true ∧ q y = true)) → (l.filter (fun y => p y || q y)).Perm (l.filter p ++ l.filter q)
  | [], _ => by simp
  | y :: t, h => by
    have ih := filter_or_perm p q t (fun z hz => h z (List.mem_cons_of_mem _ hz))
    have hy := h y (by simp)
    cases hp : p y <;> cases hq : q y
    · simpa [hp, hq] using ih
    · have : (List.filter p t ++ y :: List.filter q t).Perm (y :: (List.filter p t ++ List.filter q t)) := List.perm_middle
      simp only [List.filter_cons, hp, hq, Bool.or_true, Bool.false_or, if_true, Bool.false_eq_true, if_false]
      exact (List.Perm.cons y ih).trans this.symm
    · simp only [List.filter_cons, hp, hq, Bool.or_false, if_true, Bool.false_eq_true, if_false, List.cons_append]
      exact List.Perm.cons y ih
    · exact absurd ⟨hp, hq⟩ hy
/-- A pair lies in a row. -/
def inR (r : TbR) (x : LpR) : Bool := decide (x.ke = r.ky ∧ r.st ≤ x.st ∧ x.en ≤ r.en)
theorem inR_iff {r : TbR} {x : LpR} : inR r x = true ↔ (x.ke = r.ky ∧ r.st ≤ x.st ∧ x.en ≤ r.en) := by simp [inR]
def vin (r : TbR) (prs : List LpR) : List Int := (prs.filter (inR r)).map (·.va)
theorem flat_perm (prs : List LpR) : ∀ (M : List TbR), M.Pairwise (fun m n => ∀ y ∈ prs, ¬ (inR m y = true ∧ inR n y = true)) → (M.flatMap fun m => prs.filter (inR m)).Perm (prs.filter (fun y => M.any (fun m => inR m y)))
  | [], _ => by
    have e : (prs.filter fun y => ([] : List TbR).any fun m => inR m y) = [] := List.filter_eq_nil_iff.2 (by simp)
    rw [e]
    simp
  | m :: t, h => by
    have hc := List.pairwise_cons.1 h
    have ih := flat_perm prs t hc.2
    have e : (prs.filter (fun y => (m :: t).any (fun n => inR n y))) = prs.filter (fun y => inR m y || t.any (fun n => inR n y)) := by congr 1
    rw [e, List.flatMap_cons]
    refine (List.Perm.append_left _ ih).trans (filter_or_perm _ _ prs ?_).symm
    rintro y hy ⟨h1, h2⟩
    obtain ⟨n, hn, hn2⟩ := List.any_eq_true.1 h2
    exact hc.1 n hn y hy ⟨h1, hn2⟩
theorem rise_mem_eq {rows : List TbR} (h : RiseT rows) {r s : TbR} (hr : r ∈ rows) (hs : s ∈ rows) (e : plT r = plT s) : r = s := by
  have h1 := val_some h hr
  have h2 := val_some h hs
  rw [e, h2] at h1
  have h3 : agT s = agT r := by simpa using h1
  cases r
  cases s
  simp [plT, agT] at e h3
  simp [e, h3]
theorem rise_same {a b : List TbR} (ha : RiseT a) (hb : RiseT b) (h1 : ∀ r ∈ a, r ∈ b) (h2 : ∀ r ∈ b, r ∈ a) : a = b := by
  have e : a.map plT = b.map plT := rise_eq _ _ (List.pairwise_map.2 ha) (List.pairwise_map.2 hb) (fun q => by
    constructor
    · intro h
      obtain ⟨r, hr, rfl⟩ := List.mem_map.1 h
      exact List.mem_map.2 ⟨r, h1 r hr, rfl⟩
    · intro h
      obtain ⟨r, hr, rfl⟩ := List.mem_map.1 h
      exact List.mem_map.2 ⟨r, h2 r hr, rfl⟩)
  have el : a.length = b.length := by have := congrArg List.length e; simpa using this
  refine List.ext_getElem el fun i hi hj => ?_
  have e1 : (a.map plT)[i]? = (b.map plT)[i]? := by rw [e]
  rw [List.getElem?_map, List.getElem?_map, List.getElem?_eq_getElem hi, List.getElem?_eq_getElem hj] at e1
  exact rise_mem_eq hb (h1 _ (List.getElem_mem hi)) (List.getElem_mem hj) (by simpa using e1)
/-- A point inside of a pair's window. -/
def Inner (prs : List LpR) (k p : Int) : Prop := ∃ x ∈ prs, x.ke = k ∧ x.st < p ∧ p < x.en
structure SesOk (prs : List LpR) (rows : List TbR) : Prop where
  rise : RiseT rows
  inn : ∀ r ∈ rows, ∀ p, r.st < p → p < r.en → Inner prs r.ky p
  lo : ∀ r ∈ rows, ¬ Inner prs r.ky r.st
  hi : ∀ r ∈ rows, ¬ Inner prs r.ky r.en
  all : ∀ x ∈ prs, ∃ r ∈ rows, inR r x = true
  has : ∀ r ∈ rows, ∃ x ∈ prs, inR r x = true
  agg : ∀ r ∈ rows, IsAgg (agT r) (vin r prs)
theorem SesOk.nil : SesOk [] [] := ⟨List.Pairwise.nil, by simp, by simp, by simp, by simp, by simp, by simp⟩
theorem SesOk.apart {prs : List LpR} {rows : List TbR} (h : SesOk prs rows) {r s : TbR} (hr : r ∈ rows) (hs : s ∈ rows) (e : r.ky = s.ky) (h1 : r.st < s.en) (h2 : s.st < r.en) : r = s := by
  refine rise_mem_eq h.rise hr hs ?_
  have a1 : ¬ (r.st < s.st) := fun q => h.lo s hs (by rw [← e]; exact h.inn r hr s.st q h2)
  have a2 : ¬ (s.st < r.st) := fun q => h.lo r hr (by rw [e]; exact h.inn s hs r.st q h1)
  have a3 : ¬ (r.en < s.en) := fun q => h.hi r hr (by rw [e]; exact h.inn s hs r.en h2 q)
  have a4 : ¬ (s.en < r.en) := fun q => h.hi s hs (by rw [← e]; exact h.inn r hr s.en h1 q)
  have e1 : r.st = s.st := by omega
  have e2 : r.en = s.en := by omega
  simp [plT, e, e1, e2]
theorem inner_perm {a b : List LpR} (p : a.Perm b) {k q : Int} (h : Inner a k q) : Inner b k q := by
  obtain ⟨x, hx, h2⟩ := h
  exact ⟨x, p.mem_iff.1 hx, h2⟩
theorem ses_in {prs prs' : List LpR} {rows rows' : List TbR} (hw : ∀ x ∈ prs, x.st < x.en) (h : SesOk prs rows) (h' : SesOk prs' rows') (p : prs.Perm prs') : ∀ r ∈ rows, r ∈ rows' := by
  intro r hr
  obtain ⟨x, hx, hxr⟩ := h.has r hr
  obtain ⟨s, hs, hxs⟩ := h'.all x (p.mem_iff.1 hx)
  have w := hw x hx
  have i1 := inR_iff.1 hxr
  have i2 := inR_iff.1 hxs
  have e : r.ky = s.ky := i1.1.symm.trans i2.1
  have a1 : ¬ (r.st < s.st) := fun q => h'.lo s hs (by rw [← e]; exact inner_perm p (h.inn r hr s.st q (by omega)))
  have a2 : ¬ (s.st < r.st) := fun q => h.lo r hr (by rw [e]; exact inner_perm p.symm (h'.inn s hs r.st q (by omega)))
  have a3 : ¬ (r.en < s.en) := fun q => h.hi r hr (by rw [e]; exact inner_perm p.symm (h'.inn s hs r.en (by omega) q))
  have a4 : ¬ (s.en < r.en) := fun q => h'.hi s hs (by rw [← e]; exact inner_perm p (h.inn r hr s.en (by omega) q))
  have e1 : r.st = s.st := by omega
  have e2 : r.en = s.en := by omega
  have ev : vin r prs' = vin s prs' := by unfold vin inR; rw [e, e1, e2]
  have pv : (vin r prs).Perm (vin r prs') := (p.filter _).map _
  have g1 := (h.agg r hr).perm pv
  rw [ev] at g1
  have g2 := g1.uniq (h'.agg s hs)
  have er : r = s := by
    cases r
    cases s
    simp [agT] at e e1 e2 g2
    simp [e, e1, e2, g2]
  rw [er]
  exact hs
/-- Sessions hang on no order. -/
theorem ses_uniq {prs prs' : List LpR} {rows rows' : List TbR} (hw : ∀ x ∈ prs, x.st < x.en) (h : SesOk prs rows) (h' : SesOk prs' rows') (p : prs.Perm prs') : rows = rows' :=
  rise_same h.rise h'.rise (ses_in hw h h' p) (ses_in (fun x hx => hw x (p.mem_iff.2 hx)) h' h p.symm)
end Go.Proofs.YtbockbdlojkpiaaGreat
/- Proved here, over lists alone: sessions stay what they are, pair by pair. -/
namespace Go.Proofs.YtbockbdlojkpiaaGreat
open Go.RowKit
set_option linter.unusedVariables false
set_option linter.unusedSimpArgs false

/-- A row that grows together with a new window. -/
def mB (k a b : Int) (r : TbR) : Bool := decide (r.ky = k) && touchB r.st r.en a b
theorem mB_iff {k a b : Int} {r : TbR} : mB k a b r = true ↔ (r.ky = k ∧ r.st < b ∧ a < r.en) := by simp [mB, touchB]
theorem sesStep_y {k a b : Int} {q : Ses} {r : TbR} (h : mB k a b r = true) : sesStep k a b q r = ⟨loI q.a r.st, hiI q.b r.en, bothF q.g r.n r.su r.le r.mo, q.l⟩ := by
  unfold sesStep
  exact if_pos (by simpa [mB] using h)
theorem sesStep_n {k a b : Int} {q : Ses} {r : TbR} (h : mB k a b r = false) : sesStep k a b q r = ⟨q.a, q.b, q.g, q.l ++ [r]⟩ := by
  unfold sesStep
  exact if_neg (by intro c; rw [show mB k a b r = true by simpa [mB] using c] at h; cases h)
structure SesF (k a b : Int) (prs : List LpR) (q0 : Ses) (vs0 : List Int) (rows : List TbR) (q : Ses) : Prop where
  l : q.l = q0.l ++ rows.filter (fun r => !mB k a b r)
  a1 : q.a ≤ q0.a
  a2 : ∀ m ∈ rows, mB k a b m = true → q.a ≤ m.st
  a3 : q.a = q0.a ∨ ∃ m ∈ rows, mB k a b m = true ∧ q.a = m.st
  b1 : q0.b ≤ q.b
  b2 : ∀ m ∈ rows, mB k a b m = true → m.en ≤ q.b
  b3 : q.b = q0.b ∨ ∃ m ∈ rows, mB k a b m = true ∧ q.b = m.en
  g : IsAgg q.g (vs0 ++ (rows.filter (mB k a b)).flatMap (fun m => vin m prs))
theorem ses_fold (k a b : Int) (prs : List LpR) : ∀ (rows : List TbR) (q0 : Ses) (vs0 : List Int), IsAgg q0.g vs0 → (∀ r ∈ rows, IsAgg (agT r) (vin r prs)) → SmallL (vs0 ++ (rows.filter (mB k a b)).flatMap (fun m => vin m prs)) → SesF k a b prs q0 vs0 rows (rows.foldl (sesStep k a b) q0)
  | [], q0, vs0, h0, _, _ => ⟨by simp, Int.le_refl _, by simp, .inl rfl, Int.le_refl _, by simp, .inl rfl, by simpa using h0⟩
  | r :: t, q0, vs0, h0, hr, hs => by
    cases hm : mB k a b r with
    | true =>
      have ef : (r :: t).filter (mB k a b) = r :: t.filter (mB k a b) := by simp [List.filter_cons, hm]
      rw [ef, List.flatMap_cons, ← List.append_assoc] at hs
      have hs1 : SmallL (vs0 ++ vin r prs) := ⟨by have := hs.1; simp only [List.length_append] at this ⊢; omega, fun v hv => hs.2 v (List.mem_append_left _ hv)⟩
      have sv : SmallL vs0 := ⟨by have := hs1.1; simp only [List.length_append] at this; omega, fun v hv => hs1.2 v (List.mem_append_left _ hv)⟩
      have su : SmallL (vin r prs) := ⟨by have := hs1.1; simp only [List.length_append] at this; omega, fun v hv => hs1.2 v (List.mem_append_right _ hv)⟩
      have ih := ses_fold k a b prs t ⟨loI q0.a r.st, hiI q0.b r.en, bothF q0.g r.n r.su r.le r.mo, q0.l⟩ (vs0 ++ vin r prs) (h0.both (hr r (by simp)) sv su) (fun x hx => hr x (List.mem_cons_of_mem _ hx)) hs
      rw [List.foldl_cons, sesStep_y hm]
      generalize t.foldl (sesStep k a b) _ = q at ih ⊢
      obtain ⟨il, ia1, ia2, ia3, ib1, ib2, ib3, ig⟩ := ih
      simp only [loI, hiI] at ia1 ia3 ib1 ib3
      refine ⟨?_, ?_, ?_, ?_, ?_, ?_, ?_, ?_⟩
      · rw [il]; simp [List.filter_cons, hm]
      · split at ia1 <;> omega
      · intro m hmm hmb
        rcases List.mem_cons.1 hmm with rfl | h9
        · split at ia1 <;> omega
        · exact ia2 m h9 hmb
      · rcases ia3 with h9 | ⟨m, h8, h7, h6⟩
        · split at h9
          · exact .inr ⟨r, by simp, hm, h9⟩
          · exact .inl h9
        · exact .inr ⟨m, List.mem_cons_of_mem _ h8, h7, h6⟩
      · split at ib1 <;> omega
      · intro m hmm hmb
        rcases List.mem_cons.1 hmm with rfl | h9
        · split at ib1 <;> omega
        · exact ib2 m h9 hmb
      · rcases ib3 with h9 | ⟨m, h8, h7, h6⟩
        · split at h9
          · exact .inr ⟨r, by simp, hm, h9⟩
          · exact .inl h9
        · exact .inr ⟨m, List.mem_cons_of_mem _ h8, h7, h6⟩
      · rw [ef, List.flatMap_cons, ← List.append_assoc]
        exact ig
    | false =>
      have ef : (r :: t).filter (mB k a b) = t.filter (mB k a b) := by simp [List.filter_cons, hm]
      rw [ef] at hs
      have ih := ses_fold k a b prs t ⟨q0.a, q0.b, q0.g, q0.l ++ [r]⟩ vs0 h0 (fun x hx => hr x (List.mem_cons_of_mem _ hx)) hs
      rw [List.foldl_cons, sesStep_n hm]
      generalize t.foldl (sesStep k a b) _ = q at ih ⊢
      obtain ⟨il, ia1, ia2, ia3, ib1, ib2, ib3, ig⟩ := ih
      refine ⟨?_, ia1, ?_, ?_, ib1, ?_, ?_, by rw [ef]; exact ig⟩
      · rw [il]; simp [List.filter_cons, hm]
      · intro m hmm hmb
        rcases List.mem_cons.1 hmm with rfl | h9
        · rw [hm] at hmb; cases hmb
        · exact ia2 m h9 hmb
      · exact ia3.imp id (fun ⟨m, h8, h7, h6⟩ => ⟨m, List.mem_cons_of_mem _ h8, h7, h6⟩)
      · intro m hmm hmb
        rcases List.mem_cons.1 hmm with rfl | h9
        · rw [hm] at hmb; cases hmb
        · exact ib2 m h9 hmb
      · exact ib3.imp id (fun ⟨m, h8, h7, h6⟩ => ⟨m, List.mem_cons_of_mem _ h8, h7, h6⟩)
theorem inner_snoc {prs : List LpR} {x : LpR} {k p : Int} : Inner (prs ++ [x]) k p ↔ Inner prs k p ∨ (x.ke = k ∧ x.st < p ∧ p < x.en) := by
  unfold Inner
  constructor
  · rintro ⟨y, hy, h⟩
    rcases List.mem_append.1 hy with h1 | h1
    · exact .inl ⟨y, h1, h⟩
    · simp at h1; subst h1; exact .inr h
  · rintro (⟨y, hy, h⟩ | h)
    · exact ⟨y, List.mem_append_left _ hy, h⟩
    · exact ⟨x, by simp, h⟩
theorem vin_snoc {r : TbR} {prs : List LpR} {x : LpR} : vin r (prs ++ [x]) = vin r prs ++ (if inR r x = true then [x.va] else []) := by
  unfold vin
  rw [List.filter_append, List.map_append]
  congr 1
  cases h : inR r x <;> simp [List.filter_cons, h]
/-- One more pair among sessions. -/
theorem ses_put {prs : List LpR} {rows : List TbR} (x : LpR) (h : SesOk prs rows) (hw : ∀ y ∈ prs, y.st < y.en) (hx : x.st < x.en) (hl : prs.length < 1000000) (hv : ∀ y ∈ prs, -1000000 ≤ y.va ∧ y.va ≤ 1000000) (hxv : -1000000 ≤ x.va ∧ x.va ≤ 1000000) : SesOk (prs ++ [x]) (sesPut x.ke x.st x.en (addF ag0 x.va) rows) := by
  have hne : ∀ r ∈ rows, r.st < r.en := fun r hr => by
    obtain ⟨y, hy, hyr⟩ := h.has r hr
    have := inR_iff.1 hyr
    have := hw y hy
    omega
  -- rows that grow together hold each pair once
  have hdis : (rows.filter (mB x.ke x.st x.en)).Pairwise (fun m n => ∀ y ∈ prs, ¬ (inR m y = true ∧ inR n y = true)) := by
    refine List.Pairwise.sublist List.filter_sublist ?_
    refine List.Pairwise.imp_of_mem ?_ h.rise
    rintro m n hm hn hlt y hy ⟨i1, i2⟩
    have j1 := inR_iff.1 i1
    have j2 := inR_iff.1 i2
    have w := hw y hy
    have e := h.apart hm hn (j1.1.symm.trans j2.1) (by omega) (by omega)
    rw [e] at hlt
    exact ltPl_irr _ hlt
  have hfp := flat_perm prs _ hdis
  have hfl : ((rows.filter (mB x.ke x.st x.en)).flatMap (fun m => vin m prs)).Perm ((prs.filter (fun y => (rows.filter (mB x.ke x.st x.en)).any (fun m => inR m y))).map (·.va)) := by
    have e : (rows.filter (mB x.ke x.st x.en)).flatMap (fun m => vin m prs) = ((rows.filter (mB x.ke x.st x.en)).flatMap (fun m => prs.filter (inR m))).map (·.va) := by
      rw [List.map_flatMap]
      rfl
    rw [e]
    exact hfp.map _
  have hsm : SmallL ([x.va] ++ (rows.filter (mB x.ke x.st x.en)).flatMap (fun m => vin m prs)) := by
    refine SmallL.perm ?_ (List.Perm.append_left _ hfl.symm)
    refine ⟨?_, ?_⟩
    · have := List.length_filter_le (fun y => (rows.filter (mB x.ke x.st x.en)).any (fun m => inR m y)) prs
      simp only [List.length_append, List.length_cons, List.length_nil, List.length_map]
      omega
    · intro v hv9
      rcases List.mem_append.1 hv9 with h9 | h9
      · simp at h9; subst h9; exact hxv
      · obtain ⟨y, hy, rfl⟩ := List.mem_map.1 h9
        exact hv y (List.mem_filter.1 hy).1
  have hF := ses_fold x.ke x.st x.en prs rows ⟨x.st, x.en, addF ag0 x.va, []⟩ [x.va] (by rw [addF_one]; exact isAgg_one _) h.agg hsm
  unfold sesPut sesAll
  generalize hq : rows.foldl (sesStep x.ke x.st x.en) ⟨x.st, x.en, addF ag0 x.va, []⟩ = q at hF ⊢
  obtain ⟨fl, a1, a2, a3, b1, b2, b3, fg⟩ := hF
  simp only at a1 a3 b1 b3
  rw [List.nil_append] at fl
  -- those apart
  have hA : ∀ r ∈ q.l, r ∈ rows ∧ mB x.ke x.st x.en r = false := fun r hr => by
    rw [fl] at hr
    have := List.mem_filter.1 hr
    exact ⟨this.1, by simpa using this.2⟩
  have hAi : ∀ r ∈ rows, mB x.ke x.st x.en r = false → r ∈ q.l := fun r hr hm => by
    rw [fl]
    exact List.mem_filter.2 ⟨hr, by simp [hm]⟩
  have hAn : ∀ r ∈ q.l, ¬ (r.ky = x.ke ∧ r.st < x.en ∧ x.st < r.en) := fun r hr c => by
    have h1 := (hA r hr).2
    rw [mB_iff.2 c] at h1
    cases h1
  -- the place of the new row is nobody's
  have hnp : ∀ r ∈ q.l, plT r ≠ (x.ke, q.a, q.b) := fun r hr e => by
    simp [plT] at e
    exact hAn r hr ⟨e.1, by omega, by omega⟩
  have hkp : kpTb x.ke q.a q.b q.l = q.l := by
    unfold kpTb
    rw [List.filter_eq_self]
    intro r hr
    cases hb : TbR.isB x.ke q.a q.b r with
    | false => rfl
    | true => exact absurd ((isB_iff (x.ke, q.a, q.b) r).1 hb) (hnp r hr)
  rw [hkp]
  have hRm : ∀ r, r ∈ insR (sesRow x.ke q) q.l ↔ r = sesRow x.ke q ∨ r ∈ q.l := fun r => mem_insR
  have hrise : RiseT q.l := by rw [fl]; exact List.Pairwise.sublist List.filter_sublist h.rise
  -- who lies in the new row
  have hin : ∀ y ∈ prs, inR (sesRow x.ke q) y = (rows.filter (mB x.ke x.st x.en)).any (fun m => inR m y) := fun y hy => by
    have w := hw y hy
    rw [Bool.eq_iff_iff]
    constructor
    · intro hi
      have j := inR_iff.1 hi
      simp only [sesRow] at j
      obtain ⟨r, hr, hyr⟩ := h.all y hy
      have j2 := inR_iff.1 hyr
      refine List.any_eq_true.2 ⟨r, List.mem_filter.2 ⟨hr, ?_⟩, hyr⟩
      cases hm : mB x.ke x.st x.en r with
      | true => rfl
      | false =>
        exfalso
        have hn := hAn r (hAi r hr hm)
        have hky : r.ky = x.ke := j2.1.symm.trans j.1
        have hne' := hne r hr
        by_cases c1 : r.en ≤ x.st
        · rcases a3 with c2 | ⟨m, hm1, hm2, hm3⟩
          · omega
          · have jm := mB_iff.1 hm2
            have e := h.apart hr hm1 (hky.trans jm.1.symm) (by omega) (by omega)
            rw [e, hm2] at hm
            cases hm
        · by_cases c3 : x.en ≤ r.st
          · rcases b3 with c2 | ⟨m, hm1, hm2, hm3⟩
            · omega
            · have jm := mB_iff.1 hm2
              have e := h.apart hr hm1 (hky.trans jm.1.symm) (by omega) (by omega)
              rw [e, hm2] at hm
              cases hm
          · exact hn ⟨hky, by omega, by omega⟩
    · intro hi
      obtain ⟨m, hm, hym⟩ := List.any_eq_true.1 hi
      have hm' := List.mem_filter.1 hm
      have j := inR_iff.1 hym
      have jm := mB_iff.1 hm'.2
      have k1 := a2 m hm'.1 hm'.2
      have k2 := b2 m hm'.1 hm'.2
      exact inR_iff.2 ⟨j.1.trans jm.1, by simp only [sesRow]; omega, by simp only [sesRow]; omega⟩
  have hxR : inR (sesRow x.ke q) x = true := inR_iff.2 ⟨rfl, a1, b1⟩
  have hxA : ∀ r ∈ q.l, inR r x = false := fun r hr => by
    cases hb : inR r x with
    | false => rfl
    | true =>
      have j := inR_iff.1 hb
      exact absurd ⟨j.1.symm, by omega, by omega⟩ (hAn r hr)
  refine ⟨ins_rise hrise (fun r hr => hnp r hr), ?_, ?_, ?_, ?_, ?_, ?_⟩
  · intro r hr p hp1 hp2
    rw [inner_snoc]
    rcases (hRm r).1 hr with rfl | hr'
    · simp only [sesRow] at hp1 hp2 ⊢
      by_cases c1 : p ≤ x.st
      · rcases a3 with c2 | ⟨m, hm1, hm2, hm3⟩
        · omega
        · have jm := mB_iff.1 hm2
          left
          rw [← jm.1]
          exact h.inn m hm1 p (by omega) (by omega)
      · by_cases c3 : x.en ≤ p
        · rcases b3 with c2 | ⟨m, hm1, hm2, hm3⟩
          · omega
          · have jm := mB_iff.1 hm2
            left
            rw [← jm.1]
            exact h.inn m hm1 p (by omega) (by omega)
        · exact .inr ⟨trivial, by omega, by omega⟩
    · exact .inl (h.inn r (hA r hr').1 p hp1 hp2)
  · intro r hr hi
    rw [inner_snoc] at hi
    rcases (hRm r).1 hr with rfl | hr'
    · simp only [sesRow] at hi
      rcases hi with hi | ⟨_, c1, c2⟩
      · obtain ⟨y, hy, y1, y2, y3⟩ := hi
        obtain ⟨r, hr9, hyr⟩ := h.all y hy
        have j := inR_iff.1 hyr
        have hm : mB x.ke x.st x.en r = true ∨ mB x.ke x.st x.en r = false := by cases mB x.ke x.st x.en r <;> simp
        rcases a3 with c2 | ⟨m, hm1, hm2, hm3⟩
        · have hmr : mB x.ke x.st x.en r = true := mB_iff.2 ⟨j.1.symm.trans y1, by omega, by omega⟩
          have := a2 r hr9 hmr
          omega
        · have jm := mB_iff.1 hm2
          exact h.lo m hm1 ⟨y, hy, y1.trans jm.1.symm, by omega, by omega⟩
      · omega
    · rcases hi with hi | ⟨c0, c1, c2⟩
      · exact h.lo r (hA r hr').1 hi
      · have := hne r (hA r hr').1
        exact hAn r hr' ⟨c0.symm, by omega, by omega⟩
  · intro r hr hi
    rw [inner_snoc] at hi
    rcases (hRm r).1 hr with rfl | hr'
    · simp only [sesRow] at hi
      rcases hi with hi | ⟨_, c1, c2⟩
      · obtain ⟨y, hy, y1, y2, y3⟩ := hi
        obtain ⟨r, hr9, hyr⟩ := h.all y hy
        have j := inR_iff.1 hyr
        rcases b3 with c2 | ⟨m, hm1, hm2, hm3⟩
        · have hmr : mB x.ke x.st x.en r = true := mB_iff.2 ⟨j.1.symm.trans y1, by omega, by omega⟩
          have := b2 r hr9 hmr
          omega
        · have jm := mB_iff.1 hm2
          exact h.hi m hm1 ⟨y, hy, y1.trans jm.1.symm, by omega, by omega⟩
      · omega
    · rcases hi with hi | ⟨c0, c1, c2⟩
      · exact h.hi r (hA r hr').1 hi
      · have := hne r (hA r hr').1
        exact hAn r hr' ⟨c0.symm, by omega, by omega⟩
  · intro y hy
    rcases List.mem_append.1 hy with h1 | h1
    · obtain ⟨r, hr9, hyr⟩ := h.all y h1
      cases hm : mB x.ke x.st x.en r with
      | true => exact ⟨_, (hRm _).2 (.inl rfl), by rw [hin y h1]; exact List.any_eq_true.2 ⟨r, List.mem_filter.2 ⟨hr9, hm⟩, hyr⟩⟩
      | false => exact ⟨r, (hRm _).2 (.inr (hAi r hr9 hm)), hyr⟩
    · simp at h1
      subst h1
      exact ⟨_, (hRm _).2 (.inl rfl), hxR⟩
  · intro r hr
    rcases (hRm r).1 hr with rfl | hr'
    · exact ⟨x, by simp, hxR⟩
    · obtain ⟨y, hy, hyr⟩ := h.has r (hA r hr').1
      exact ⟨y, List.mem_append_left _ hy, hyr⟩
  · intro r hr
    rw [vin_snoc]
    rcases (hRm r).1 hr with rfl | hr'
    · rw [if_pos hxR]
      have e : vin (sesRow x.ke q) prs = (prs.filter (fun y => (rows.filter (mB x.ke x.st x.en)).any (fun m => inR m y))).map (·.va) := by
        unfold vin
        congr 1
        exact List.filter_congr hin
      rw [e]
      have fg' := fg.perm (List.Perm.append_left _ hfl)
      exact fg'.perm List.perm_append_comm
    · rw [if_neg (by rw [hxA r hr']; simp), List.append_nil]
      exact h.agg r (hA r hr').1
/-- The table of pairs in sessions. -/
theorem tabP3_ok : ∀ (n : Nat) (prs : List LpR), prs.length = n → n ≤ 1000000 → (∀ y ∈ prs, y.st < y.en) → (∀ y ∈ prs, -1000000 ≤ y.va ∧ y.va ≤ 1000000) → SesOk prs (tabP 3 prs)
  | 0, prs, hn, _, _, _ => by
    obtain rfl := List.eq_nil_of_length_eq_zero hn
    exact SesOk.nil
  | n + 1, prs, hn, hl, hw, hv => by
    have hne : prs ≠ [] := fun e => by subst e; simp at hn
    obtain ⟨t, x, rfl⟩ : ∃ t x, prs = t ++ [x] := ⟨prs.dropLast, prs.getLast hne, (List.dropLast_concat_getLast hne).symm⟩
    have ht : t.length = n := by simpa using hn
    have ih := tabP3_ok n t ht (by omega) (fun y hy => hw y (List.mem_append_left _ hy)) (fun y hy => hv y (List.mem_append_left _ hy))
    rw [tabP_app]
    unfold stepP
    rw [if_pos rfl]
    exact ses_put x ih (fun y hy => hw y (List.mem_append_left _ hy)) (hw x (by simp)) (by omega) (fun y hy => hv y (List.mem_append_left _ hy)) (hv x (by simp))
end Go.Proofs.YtbockbdlojkpiaaGreat
/- Proved here, over lists alone: tables of windows that do not grow: what they are; no table hangs on the order of its pairs. -/
namespace Go.Proofs.YtbockbdlojkpiaaGreat
open Go.RowKit
set_option linter.unusedVariables false
set_option linter.unusedSimpArgs false

def plX (x : LpR) : P3 := (x.ke, x.st, x.en)
def atR (r : TbR) (x : LpR) : Bool := decide (plX x = plT r)
def vat (r : TbR) (prs : List LpR) : List Int := (prs.filter (atR r)).map (·.va)
structure WinsOk (prs : List LpR) (rows : List TbR) : Prop where
  rise : RiseT rows
  all : ∀ x ∈ prs, ∃ r ∈ rows, plX x = plT r
  has : ∀ r ∈ rows, ∃ x ∈ prs, plX x = plT r
  agg : ∀ r ∈ rows, IsAgg (agT r) (vat r prs)
theorem WinsOk.nil : WinsOk [] [] := ⟨List.Pairwise.nil, by simp, by simp, by simp⟩
theorem vat_pl {r s : TbR} (e : plT r = plT s) (prs : List LpR) : vat r prs = vat s prs := by unfold vat atR; rw [e]
theorem vat_snoc {r : TbR} {prs : List LpR} {x : LpR} : vat r (prs ++ [x]) = vat r prs ++ (if plX x = plT r then [x.va] else []) := by
  unfold vat
  rw [List.filter_append, List.map_append]
  congr 1
  by_cases h : plX x = plT r
  · simp [List.filter_cons, atR, h]
  · simp [List.filter_cons, atR, h]
theorem vat_small {prs : List LpR} (r : TbR) (hl : prs.length ≤ 1000000) (hv : ∀ y ∈ prs, -1000000 ≤ y.va ∧ y.va ≤ 1000000) : SmallL (vat r prs) := by
  refine ⟨?_, fun v h => ?_⟩
  · have := List.length_filter_le (atR r) prs
    unfold vat
    rw [List.length_map]
    omega
  · unfold vat at h
    obtain ⟨y, hy, rfl⟩ := List.mem_map.1 h
    exact hv y (List.mem_filter.1 hy).1
theorem wins_put {kd : Int} (hk : ¬ kd = 3) {prs : List LpR} {rows : List TbR} (x : LpR) (h : WinsOk prs rows) (hl : prs.length < 1000000) (hv : ∀ y ∈ prs, -1000000 ≤ y.va ∧ y.va ≤ 1000000) (hxv : -1000000 ≤ x.va ∧ x.va ≤ 1000000) : WinsOk (prs ++ [x]) (stepP kd rows x) := by
  rw [stepP_row hk]
  have ef := aggF_val rows (plX x)
  simp only [plX] at ef
  rw [ef]
  -- what was known
  have hg : ∀ r : TbR, plT r = plX x → IsAgg ((valT rows (x.ke, x.st, x.en)).getD ag0) (vat r prs) := by
    intro r hr
    by_cases c : ∃ s ∈ rows, plT s = plX x
    · obtain ⟨s, hs, es⟩ := c
      have := val_some h.rise hs
      rw [es] at this
      simp only [plX] at this
      rw [this, vat_pl (hr.trans es.symm)]
      exact h.agg s hs
    · have hn : valT rows (x.ke, x.st, x.en) = none := val_none (fun s hs e => c ⟨s, hs, e⟩)
      rw [hn]
      refine .inl ⟨?_, rfl⟩
      unfold vat
      rw [List.map_eq_nil_iff, List.filter_eq_nil_iff]
      intro y hy hb
      obtain ⟨s, hs, es⟩ := h.all y hy
      have : plX y = plT r := by simpa [atR] using hb
      exact c ⟨s, hs, es.symm.trans (this.trans hr)⟩
  generalize (valT rows (x.ke, x.st, x.en)).getD ag0 = g0 at hg ⊢
  have hno : ∀ r ∈ kpTb x.ke x.st x.en rows, plT r ≠ plX x := kp_no (q := plX x)
  have hmem : ∀ r, r ∈ kpTb x.ke x.st x.en rows ↔ (r ∈ rows ∧ plT r ≠ plX x) := by
    intro r
    unfold kpTb
    rw [List.mem_filter]
    have := isB_iff (plX x) r
    simp only [plX] at this
    constructor
    · rintro ⟨h1, h2⟩
      refine ⟨h1, fun e => ?_⟩
      rw [this.2 e] at h2
      cases h2
    · rintro ⟨h1, h2⟩
      refine ⟨h1, ?_⟩
      cases hb : TbR.isB x.ke x.st x.en r with
      | false => rfl
      | true => exact absurd (this.1 hb) h2
  refine ⟨ins_rise (kp_rise h.rise) (fun r hr => hno r hr), ?_, ?_, ?_⟩
  · intro y hy
    by_cases c : plX y = plX x
    · exact ⟨_, mem_insR.2 (.inl rfl), c⟩
    · rcases List.mem_append.1 hy with h1 | h1
      · obtain ⟨r, hr, er⟩ := h.all y h1
        exact ⟨r, mem_insR.2 (.inr ((hmem r).2 ⟨hr, fun e => c (er.trans e)⟩)), er⟩
      · simp at h1
        subst h1
        exact absurd rfl c
  · intro r hr
    rcases mem_insR.1 hr with rfl | hr'
    · exact ⟨x, by simp, rfl⟩
    · obtain ⟨y, hy, ey⟩ := h.has r ((hmem r).1 hr').1
      exact ⟨y, List.mem_append_left _ hy, ey⟩
  · intro r hr
    rw [vat_snoc]
    rcases mem_insR.1 hr with rfl | hr'
    · rw [if_pos (show plX x = plT (_ : TbR) from rfl)]
      exact (hg _ rfl).add x.va (vat_small _ (by omega) hv) hxv
    · rw [if_neg (fun e => hno r hr' e.symm), List.append_nil]
      exact h.agg r ((hmem r).1 hr').1
theorem tabPn_ok {kd : Int} (hk : ¬ kd = 3) : ∀ (n : Nat) (prs : List LpR), prs.length = n → n ≤ 1000000 → (∀ y ∈ prs, -1000000 ≤ y.va ∧ y.va ≤ 1000000) → WinsOk prs (tabP kd prs)
  | 0, prs, hn, _, _ => by
    obtain rfl := List.eq_nil_of_length_eq_zero hn
    exact WinsOk.nil
  | n + 1, prs, hn, hl, hv => by
    have hne : prs ≠ [] := fun e => by subst e; simp at hn
    obtain ⟨t, x, rfl⟩ : ∃ t x, prs = t ++ [x] := ⟨prs.dropLast, prs.getLast hne, (List.dropLast_concat_getLast hne).symm⟩
    have ht : t.length = n := by simpa using hn
    have ih := tabPn_ok hk n t ht (by omega) (fun y hy => hv y (List.mem_append_left _ hy))
    rw [tabP_app]
    exact wins_put hk x ih (by omega) (fun y hy => hv y (List.mem_append_left _ hy)) (hv x (by simp))
theorem wins_in {prs prs' : List LpR} {rows rows' : List TbR} (h : WinsOk prs rows) (h' : WinsOk prs' rows') (p : prs.Perm prs') : ∀ r ∈ rows, r ∈ rows' := by
  intro r hr
  obtain ⟨x, hx, ex⟩ := h.has r hr
  obtain ⟨s, hs, es⟩ := h'.all x (p.mem_iff.1 hx)
  have e : plT r = plT s := ex.symm.trans es
  have pv : (vat r prs).Perm (vat r prs') := (p.filter _).map _
  have g1 := (h.agg r hr).perm pv
  rw [vat_pl e] at g1
  have g2 := g1.uniq (h'.agg s hs)
  have er : r = s := by
    cases r
    cases s
    simp [plT, agT] at e g2
    simp [e, g2]
  rw [er]
  exact hs
/-- No table hangs on the order of its pairs. -/
theorem tabP_perm (kd : Int) {prs prs' : List LpR} (p : prs.Perm prs') (hl : prs.length ≤ 1000000) (hw : ∀ y ∈ prs, y.st < y.en) (hv : ∀ y ∈ prs, -1000000 ≤ y.va ∧ y.va ≤ 1000000) : tabP kd prs = tabP kd prs' := by
  have hl' : prs'.length ≤ 1000000 := by rw [← p.length_eq]; exact hl
  have hw' : ∀ y ∈ prs', y.st < y.en := fun y hy => hw y (p.mem_iff.2 hy)
  have hv' : ∀ y ∈ prs', -1000000 ≤ y.va ∧ y.va ≤ 1000000 := fun y hy => hv y (p.mem_iff.2 hy)
  by_cases hk : kd = 3
  · subst hk
    exact ses_uniq hw (tabP3_ok _ prs rfl hl hw hv) (tabP3_ok _ prs' rfl hl' hw' hv') p
  · have h1 := tabPn_ok hk _ prs rfl hl hv
    have h2 := tabPn_ok hk _ prs' rfl hl' hv'
    exact rise_same h1.rise h2.rise (wins_in h1 h2 p) (wins_in h2 h1 p.symm)
end Go.Proofs.YtbockbdlojkpiaaGreat
/- Proved here: a thing that holds of the program. -/
namespace Go.Proofs.YtbockbdlojkpiaaGreat
open Go.ChangeShapes Go.WideShapes Go.ChangeAt Go.RowKit
set_option linter.unusedVariables false

theorem frok_any (w : World) : Calls Tryz.prog 16 #[] w fun e w' => e = .returned (.bool true) ∧ Below w.heap.size w w' := by
  have ho : okWin 0 1 = true := by decide
  go_enter Tryz.func16, Tryz.ntmps16
  go_wp2_with (go_at_call 14; refine (implwinok_any _ _ _).mono ?_; rintro e w' ⟨rfl, hb⟩)
  go_ret
  exact ⟨by first | rfl | rw [ho], (by repeat (first | (with_reducible exact Below.refl _ _) | (with_reducible assumption) | (with_reducible refine bel_set ?_ (by first | (simp; done) | (simp; omega)) _) | (with_reducible refine bel_alloc ?_ _) | (with_reducible refine bel_drew ?_) | (with_reducible refine bel_drewN ?_ _) | (with_reducible refine bel_trans ?_ (by with_reducible assumption))))⟩
end Go.Proofs.YtbockbdlojkpiaaGreat
