/- Laid together: texts that were built one by one. -/
import Derived.Test.YtbockbdlojkpiaaGreatPkA7
import Derived.Test.YtbockbdlojkpiaaGreatTabCnt
/- Proved here, over lists alone: what the table of records is, row by row. -/
namespace Go.Proofs.YtbockbdlojkpiaaGreat
open Go.RowKit
set_option linter.unusedVariables false
set_option linter.unusedSimpArgs false

theorem okJob_q {s t k z p l e v r : Int} (h : okJob s t k z p l e v r = true) : (1 ≤ z ∧ z ≤ 20) ∧ (k = 1 ∨ k = 2 ∨ k = 3) ∧ (k = 2 → 1 ≤ p ∧ p ≤ z) ∧ 0 ≤ p := by
  simp only [okJob, Bool.and_eq_true] at h
  have h1 := h.1.1.1.1.1.1.2
  have h2 := h.1.1.1.1.2
  have h3 := inB_iff.1 h.1.1.1.1.1.2
  simp only [inB, decide_eq_true_eq] at h1
  unfold stepB at h2
  refine ⟨h3, by omega, ?_, ?_⟩
  · intro hk
    rw [if_pos hk] at h2
    simp only [inB, Bool.and_eq_true, decide_eq_true_eq] at h2
    omega
  · split at h2
    · simp only [inB, Bool.and_eq_true, decide_eq_true_eq] at h2
      omega
    · simp at h2
      omega
theorem slide_ge (z p t : Int) (hp : 0 ≤ p) : ∀ (n : Nat) (s : Int), ∀ x ∈ slideGo z p t n s, s ≤ x.a
  | 0, s, x, h => by simp [slideGo] at h
  | n + 1, s, x, h => by
    by_cases h1 : s ≤ t
    · by_cases h2 : t < s + z
      · rw [slideGo_in h1 h2] at h
        rcases List.mem_cons.1 h with rfl | h
        · exact Int.le_refl _
        · have := slide_ge z p t hp n (s + p) x h
          omega
      · rw [slideGo_out h1 h2] at h
        have := slide_ge z p t hp n (s + p) x h
        omega
    · rw [slideGo_end h1] at h
      cases h
theorem slide_pw (z p t : Int) (hp : 1 ≤ p) : ∀ (n : Nat) (s : Int), (slideGo z p t n s).Pairwise (fun x y => x.a < y.a)
  | 0, s => List.Pairwise.nil
  | n + 1, s => by
    by_cases h1 : s ≤ t
    · by_cases h2 : t < s + z
      · rw [slideGo_in h1 h2]
        refine List.pairwise_cons.2 ⟨fun y hy => ?_, slide_pw z p t hp n (s + p)⟩
        have := slide_ge z p t (by omega) n (s + p) y hy
        show s < y.a
        omega
      · rw [slideGo_out h1 h2]
        exact slide_pw z p t hp n (s + p)
    · rw [slideGo_end h1]
      exact List.Pairwise.nil
theorem mem_slide (z p t : Int) (hp : 1 ≤ p) (x : WnR) : ∀ (n : Nat) (s : Int), t - s < n → (x ∈ slideGo z p t n s ↔ (x.b = x.a + z ∧ s ≤ x.a ∧ x.a ≤ t ∧ t < x.a + z ∧ (x.a - s) % p = 0))
  | 0, s, h => by
    constructor
    · intro h9
      simp [slideGo] at h9
    · rintro ⟨h1, h2, h3, h4, h5⟩
      omega
  | n + 1, s, h => by
    have ih := mem_slide z p t hp x n (s + p) (by omega)
    have e1 : x.a - (s + p) = (x.a - s) + p * (-1) := by omega
    have key : (x.a - (s + p)) % p = (x.a - s) % p := by rw [e1, Int.add_mul_emod_self_left]
    rw [key] at ih
    by_cases h1 : s ≤ t
    · by_cases h2 : t < s + z
      · rw [slideGo_in h1 h2, List.mem_cons, ih]
        constructor
        · rintro (rfl | ⟨a1, a2, a3, a4, a5⟩)
          · exact ⟨rfl, Int.le_refl _, h1, h2, by simp⟩
          · exact ⟨a1, by omega, a3, a4, a5⟩
        · rintro ⟨a1, a2, a3, a4, a5⟩
          by_cases h7 : x.a = s
          · left
            cases x
            simp at a1 h7
            simp [a1, h7]
          · right
            have := Int.le_of_dvd (by omega) (Int.dvd_of_emod_eq_zero a5)
            exact ⟨a1, by omega, a3, a4, a5⟩
      · rw [slideGo_out h1 h2, ih]
        constructor
        · rintro ⟨a1, a2, a3, a4, a5⟩
          exact ⟨a1, by omega, a3, a4, a5⟩
        · rintro ⟨a1, a2, a3, a4, a5⟩
          have := Int.le_of_dvd (by omega) (Int.dvd_of_emod_eq_zero a5)
          exact ⟨a1, by omega, a3, a4, a5⟩
    · rw [slideGo_end h1]
      constructor
      · intro h9
        cases h9
      · rintro ⟨a1, a2, a3, a4, a5⟩
        omega
/-- Which windows have a time, where windows do not grow. -/
def WinA (k z p : Int) (x : WnR) : Prop := x.b = x.a + z ∧ 0 ≤ x.a ∧ (k = 1 → x.a % z = 0) ∧ (k = 2 → x.a % p = 0)
theorem wins_mem {s t k z p l e v r T : Int} (h : okJob s t k z p l e v r = true) (hT : 0 ≤ T ∧ T ≤ 60) (hk : ¬ k = 3) (x : WnR) : x ∈ winsOf k z p T ↔ (WinA k z p x ∧ x.a ≤ T ∧ T < x.a + z) := by
  obtain ⟨hz, hkk, hp2, hp0⟩ := okJob_q h
  unfold WinA
  rcases hkk with rfl | rfl | rfl
  · have e : winsOf 1 z p T = [⟨T - T % z, T - T % z + z⟩] := rfl
    have h1 := Int.emod_nonneg T (show z ≠ 0 by omega)
    have h2 := Int.emod_lt_of_pos T (show 0 < z by omega)
    have h3 : (T - T % z) % z = 0 := by rw [Int.sub_emod, Int.emod_emod, Int.sub_self, Int.zero_emod]
    have h4 : T % z ≤ T := by
      have h5 := Int.mul_nonneg (show 0 ≤ z by omega) (Int.ediv_nonneg hT.1 (show 0 ≤ z by omega))
      rw [Int.emod_def]
      omega
    rw [e, List.mem_singleton]
    constructor
    · rintro rfl
      exact ⟨⟨rfl, show 0 ≤ T - T % z by omega, fun _ => h3, fun q => by omega⟩, show T - T % z ≤ T by omega, show T < T - T % z + z by omega⟩
    · rintro ⟨⟨a1, a2, a3, a4⟩, a5, a6⟩
      obtain ⟨c, hc⟩ := Int.dvd_of_emod_eq_zero (a3 rfl)
      have e1 : T = (T - x.a) + z * c := by omega
      have e2 : ((T - x.a) + z * c) % z = (T - x.a) % z := Int.add_mul_emod_self_left _ _ _
      have e3 : (T - x.a) % z = T - x.a := Int.emod_eq_of_lt (by omega) (by omega)
      rw [← e1, e3] at e2
      clear e1 hc
      cases x
      simp at a1 e2
      simp only [WnR.mk.injEq]
      omega
  · have e : winsOf 2 z p T = slideGo z p T 61 0 := rfl
    have hp := hp2 rfl
    rw [e, mem_slide z p T hp.1 x 61 0 (by omega)]
    simp only [Int.sub_zero]
    constructor
    · rintro ⟨a1, a2, a3, a4, a5⟩
      exact ⟨⟨a1, a2, fun q => by omega, fun _ => a5⟩, a3, a4⟩
    · rintro ⟨⟨a1, a2, a3, a4⟩, a5, a6⟩
      exact ⟨a1, a2, a5, a6, a4 (by trivial)⟩
  · exact absurd rfl hk
theorem wins_nodup {s t k z p l e v r : Int} (h : okJob s t k z p l e v r = true) (T : Int) : (winsOf k z p T).Pairwise (fun x y => x.a ≠ y.a) := by
  obtain ⟨hz, hkk, hp2, hp0⟩ := okJob_q h
  rcases hkk with rfl | rfl | rfl
  · exact List.pairwise_singleton _ _
  · exact (slide_pw z p T (hp2 rfl).1 61 0).imp (fun h9 => by omega)
  · exact List.pairwise_singleton _ _
theorem filter_one {L : List WnR} (f : WnR → Bool) (w : WnR) (hn : L.Pairwise (fun x y => x.a ≠ y.a)) (hf : ∀ x ∈ L, (f x = true ↔ x = w)) (hw : w ∈ L) : L.filter f = [w] := by
  induction L with
  | nil => cases hw
  | cons x t ih =>
    have hc := List.pairwise_cons.1 hn
    by_cases e : x = w
    · subst e
      have h1 : f x = true := (hf x (by simp)).2 rfl
      have h2 : t.filter f = [] := List.filter_eq_nil_iff.2 (fun y hy hy2 => by
        have := (hf y (List.mem_cons_of_mem _ hy)).1 hy2
        exact hc.1 y hy (by rw [this]))
      simp [List.filter_cons, h1, h2]
    · have h1 : f x = false := by
        cases hb : f x with
        | false => rfl
        | true => exact absurd ((hf x (by simp)).1 hb) e
      have h3 : w ∈ t := by
        rcases List.mem_cons.1 hw with h4 | h4
        · exact absurd h4.symm e
        · exact h4
      simp [List.filter_cons, h1, ih hc.2 (fun y hy => hf y (List.mem_cons_of_mem _ hy)) h3]
theorem filter_none {L : List WnR} (f : WnR → Bool) (w : WnR) (hf : ∀ x ∈ L, (f x = true ↔ x = w)) (hw : ¬ w ∈ L) : L.filter f = [] :=
  List.filter_eq_nil_iff.2 (fun y hy hy2 => hw (by rw [← (hf y hy).1 hy2]; exact hy))
/-- A record of a key, in a window. -/
def inT (ky st en : Int) (x : IwR) : Bool := decide (x.ke = ky ∧ st ≤ x.tm ∧ x.tm < en)
theorem inT_iff {ky st en : Int} {x : IwR} : inT ky st en x = true ↔ (x.ke = ky ∧ st ≤ x.tm ∧ x.tm < en) := by simp [inT]
def addIf (ky st en : Int) (g : Ag4) (x : IwR) : Ag4 := if inT ky st en x = true then addF g x.va else g
def foldV (ky st en : Int) (xs : List IwR) : Ag4 := xs.foldl (addIf ky st en) ag0
theorem foldV_snoc {ky st en : Int} {xs : List IwR} {i : Nat} {x : IwR} (h : xs[i]? = some x) : foldV ky st en (xs.take (i + 1)) = addIf ky st en (foldV ky st en (xs.take i)) x := by
  unfold foldV
  rw [take_snocI h, List.foldl_append]
  rfl
theorem foldV_go (ky st en : Int) : ∀ (xs : List IwR) (g : Ag4) (vs : List Int), IsAgg g vs → SmallL (vs ++ xs.map (·.va)) → IsAgg (xs.foldl (addIf ky st en) g) (vs ++ (xs.filter (inT ky st en)).map (·.va))
  | [], g, vs, h, _ => by simpa using h
  | x :: t, g, vs, h, hs => by
    have s1 : SmallL vs := ⟨by have := hs.1; simp only [List.length_append] at this; omega, fun u hu => hs.2 u (List.mem_append_left _ hu)⟩
    have hx : -1000000 ≤ x.va ∧ x.va ≤ 1000000 := hs.2 x.va (List.mem_append_right _ (by simp))
    rw [List.foldl_cons]
    cases hc : inT ky st en x with
    | true =>
      have e : addIf ky st en g x = addF g x.va := if_pos hc
      rw [e]
      have s2 : SmallL ((vs ++ [x.va]) ++ t.map (·.va)) := by
        rw [List.append_assoc]
        exact hs
      have := foldV_go ky st en t _ _ (h.add x.va s1 hx) s2
      rw [List.append_assoc] at this
      simpa [List.filter_cons, hc] using this
    | false =>
      have e : addIf ky st en g x = g := if_neg (by rw [hc]; simp)
      rw [e]
      have s2 : SmallL (vs ++ t.map (·.va)) := ⟨by have := hs.1; simp only [List.length_append, List.map_cons, List.length_cons] at this ⊢; omega, fun u hu => hs.2 u (by
        rcases List.mem_append.1 hu with h9 | h9
        · exact List.mem_append_left _ h9
        · exact List.mem_append_right _ (by rw [List.map_cons]; exact List.mem_cons_of_mem _ h9))⟩
      have := foldV_go ky st en t _ _ h s2
      simpa [List.filter_cons, hc] using this
theorem foldV_is (ky st en : Int) (xs : List IwR) (hs : SmallL (xs.map (·.va))) : IsAgg (foldV ky st en xs) ((xs.filter (inT ky st en)).map (·.va)) := by
  have := foldV_go ky st en xs ag0 [] (.inl ⟨rfl, rfl⟩) (by simpa using hs)
  unfold foldV
  simpa using this
theorem vin_app (r : TbR) (a b : List LpR) : vin r (a ++ b) = vin r a ++ vin r b := by simp [vin]
theorem vat_app (r : TbR) (a b : List LpR) : vat r (a ++ b) = vat r a ++ vat r b := by simp [vat]
theorem vals_flat (F : List LpR → List Int) (h0 : F [] = []) (ha : ∀ a b, F (a ++ b) = F a ++ F b) (f : IwR → List LpR) (c : IwR → Bool) : ∀ (xs : List IwR), (∀ x ∈ xs, F (f x) = if c x = true then [x.va] else []) → F (xs.flatMap f) = (xs.filter c).map (·.va)
  | [], _ => by simpa using h0
  | x :: t, h => by
    have ih := vals_flat F h0 ha f c t (fun y hy => h y (List.mem_cons_of_mem _ hy))
    rw [List.flatMap_cons, ha, h x (by simp), ih]
    cases hc : c x <;> simp [List.filter_cons, hc]
/-- The values of a row, where windows do not grow. -/
theorem vat_of {s t k z p l e v r T0 : Int} (h : okJob s t k z p l e v r = true) (hk : ¬ k = 3) (rr : TbR) (hw : WinA k z p ⟨rr.st, rr.en⟩) (x : IwR) (hT : 0 ≤ x.tm ∧ x.tm ≤ 60) : vat rr (prsOf k z p x) = if inT rr.ky rr.st rr.en x = true then [x.va] else [] := by
  have e1 : vat rr (prsOf k z p x) = ((winsOf k z p x.tm).filter (fun y => atR rr (mkP x y))).map (fun _ => x.va) := by
    unfold vat prsOf
    rw [List.filter_map, List.map_map]
    rfl
  rw [e1]
  have hen : rr.en = rr.st + z := hw.1
  by_cases hke : x.ke = rr.ky
  · have hf : ∀ y ∈ winsOf k z p x.tm, ((fun y => atR rr (mkP x y)) y = true ↔ y = ⟨rr.st, rr.en⟩) := by
      intro y hy
      cases y
      simp [atR, plX, plT, mkP, hke]
    have hm := wins_mem h hT hk ⟨rr.st, rr.en⟩
    by_cases hc : rr.st ≤ x.tm ∧ x.tm < rr.en
    · rw [filter_one _ _ (wins_nodup h x.tm) hf (hm.2 ⟨hw, hc.1, by simp only; omega⟩), if_pos (inT_iff.2 ⟨hke, hc.1, hc.2⟩)]
      rfl
    · rw [filter_none _ _ hf (fun h9 => hc (by have := (hm.1 h9).2; simp only at this; omega)), if_neg (fun h9 => hc (inT_iff.1 h9).2)]
      rfl
  · have hf : (winsOf k z p x.tm).filter (fun y => atR rr (mkP x y)) = [] := List.filter_eq_nil_iff.2 (fun y hy h9 => by
      simp [atR, plX, plT, mkP] at h9
      exact hke h9.1)
    rw [hf, if_neg (fun h9 => hke (inT_iff.1 h9).1)]
    rfl
theorem flat_permG (P : TbR → LpR → Bool) (prs : List LpR) : ∀ (M : List TbR), M.Pairwise (fun m n => ∀ y ∈ prs, ¬ (P m y = true ∧ P n y = true)) → (M.flatMap fun m => prs.filter (P m)).Perm (prs.filter (fun y => M.any (fun m => P m y)))
  | [], _ => by
    have e : (prs.filter fun y => ([] : List TbR).any fun m => P m y) = [] := List.filter_eq_nil_iff.2 (by simp)
    rw [e]
    simp
  | m :: t, h => by
    have hc := List.pairwise_cons.1 h
    have ih := flat_permG P prs t hc.2
    have e : (prs.filter (fun y => (m :: t).any (fun n => P n y))) = prs.filter (fun y => P m y || t.any (fun n => P n y)) := by congr 1
    rw [e, List.flatMap_cons]
    refine (List.Perm.append_left _ ih).trans (filter_or_perm _ _ prs ?_).symm
    rintro y hy ⟨h1, h2⟩
    obtain ⟨n, hn, hn2⟩ := List.any_eq_true.1 h2
    exact hc.1 n hn y hy ⟨h1, hn2⟩
theorem count_go (f : TbR → Nat) : ∀ (rows : List TbR) (a : Nat), (∀ r ∈ rows, r.n = (f r : Int)) → a + (rows.map f).sum ≤ 1000000 → rows.foldl (fun (a : Int) x => wrap64 (a + x.n)) (a : Int) = ((a + (rows.map f).sum : Nat) : Int)
  | [], a, _, _ => by simp
  | r :: t, a, h, hs => by
    rw [List.map_cons, List.sum_cons] at hs ⊢
    rw [List.foldl_cons, h r (by simp), wrs (by omega) (by omega)]
    have := count_go f t (a + f r) (fun x hx => h x (List.mem_cons_of_mem _ hx)) (by omega)
    rw [show ((a : Int) + (f r : Int)) = ((a + f r : Nat) : Int) by omega, this]
    congr 1
    omega
theorem count_all (P : TbR → LpR → Bool) (prs : List LpR) (rows : List TbR) (hd : rows.Pairwise (fun m n => ∀ y ∈ prs, ¬ (P m y = true ∧ P n y = true))) (ha : ∀ x ∈ prs, ∃ r ∈ rows, P r x = true) (hn : ∀ r ∈ rows, r.n = (((prs.filter (P r)).length : Nat) : Int)) (hl : prs.length ≤ 1000000) : countT rows = (prs.length : Int) := by
  have h1 := (flat_permG P prs rows hd).length_eq
  have h2 : prs.filter (fun y => rows.any (fun m => P m y)) = prs := List.filter_eq_self.2 (fun y hy => by
    obtain ⟨r, hr, h9⟩ := ha y hy
    exact List.any_eq_true.2 ⟨r, hr, h9⟩)
  rw [h2, List.length_flatMap] at h1
  have h3 := count_go (fun r => (prs.filter (P r)).length) rows 0 hn (by omega)
  unfold countT
  rw [Nat.zero_add, h1] at h3
  exact h3
theorem IsAgg.num {g : Ag4} {vs : List Int} (h : IsAgg g vs) : g.1 = (vs.length : Int) := by
  rcases h with ⟨rfl, rfl⟩ | ⟨_, h1, _⟩
  · rfl
  · exact h1
/-- Who begins and who ends a session. -/
theorem SesOk.hiX {prs : List LpR} {rows : List TbR} (h : SesOk prs rows) (hw : ∀ y ∈ prs, y.st < y.en) {r : TbR} (hr : r ∈ rows) : ∃ x ∈ prs, inR r x = true ∧ x.en = r.en := by
  obtain ⟨y, hy, hyr⟩ := h.has r hr
  have j := inR_iff.1 hyr
  have w := hw y hy
  by_cases hc : r.st < r.en - 1
  · obtain ⟨x, hx, e1, e2, e3⟩ := h.inn r hr (r.en - 1) hc (by omega)
    obtain ⟨q, hq, hxq⟩ := h.all x hx
    have jq := inR_iff.1 hxq
    have e := h.apart hr hq (e1.symm.trans jq.1) (by omega) (by omega)
    subst e
    exact ⟨x, hx, hxq, by omega⟩
  · exact ⟨y, hy, hyr, by omega⟩
theorem SesOk.loX {prs : List LpR} {rows : List TbR} (h : SesOk prs rows) (hw : ∀ y ∈ prs, y.st < y.en) {r : TbR} (hr : r ∈ rows) : ∃ x ∈ prs, inR r x = true ∧ x.st = r.st := by
  obtain ⟨y, hy, hyr⟩ := h.has r hr
  have j := inR_iff.1 hyr
  have w := hw y hy
  by_cases hc : r.st + 1 < r.en
  · obtain ⟨x, hx, e1, e2, e3⟩ := h.inn r hr (r.st + 1) (by omega) hc
    obtain ⟨q, hq, hxq⟩ := h.all x hx
    have jq := inR_iff.1 hxq
    have e := h.apart hr hq (e1.symm.trans jq.1) (by omega) (by omega)
    subst e
    exact ⟨x, hx, hxq, by omega⟩
  · exact ⟨y, hy, hyr, by omega⟩
theorem SesOk.disj {prs : List LpR} {rows : List TbR} (h : SesOk prs rows) (hw : ∀ y ∈ prs, y.st < y.en) : rows.Pairwise (fun m n => ∀ y ∈ prs, ¬ (inR m y = true ∧ inR n y = true)) := by
  refine List.Pairwise.imp_of_mem ?_ h.rise
  rintro m n hm hn hlt y hy ⟨h1, h2⟩
  have j1 := inR_iff.1 h1
  have j2 := inR_iff.1 h2
  have w := hw y hy
  have e := h.apart hm hn (j1.1.symm.trans j2.1) (by omega) (by omega)
  rw [e] at hlt
  exact ltPl_irr _ hlt
theorem WinsOk.disj {prs : List LpR} {rows : List TbR} (h : WinsOk prs rows) : rows.Pairwise (fun m n => ∀ y ∈ prs, ¬ (atR m y = true ∧ atR n y = true)) := by
  refine List.Pairwise.imp_of_mem ?_ h.rise
  rintro m n hm hn hlt y hy ⟨h1, h2⟩
  simp [atR] at h1 h2
  rw [← h1, ← h2] at hlt
  exact ltPl_irr _ hlt
/-- What the law asks of a table. -/
structure TabQ (k : Int) (xs : List IwR) (num : Int) (rows : List TbR) : Prop where
  cnt : countT rows = num
  agg : ∀ r ∈ rows, foldV r.ky r.st r.en xs = agT r
  ok : ∀ r ∈ rows, okWin r.st r.en = true
  ord : ∀ (i : Nat) (q r : TbR), rows[i]? = some q → rows[i + 1]? = some r → q.ky ≤ r.ky ∧ (q.ky = r.ky → q.st < r.st)
  apart : k = 3 → ∀ (i j : Nat) (q r : TbR), i < j → rows[i]? = some q → rows[j]? = some r → q.ky = r.ky → touchB q.st q.en r.st r.en = false
theorem rise_at {rows : List TbR} (h : RiseT rows) {i j : Nat} {q r : TbR} (hij : i < j) (hq : rows[i]? = some q) (hr : rows[j]? = some r) : ltPl (plT q) (plT r) := by
  obtain ⟨h1, rfl⟩ := List.getElem?_eq_some_iff.1 hq
  obtain ⟨h2, rfl⟩ := List.getElem?_eq_some_iff.1 hr
  exact List.pairwise_iff_getElem.1 h i j h1 h2 hij
theorem recs_of {xs : List IwR} (h : recsB xs = true) {y : IwR} (hy : y ∈ xs) : (0 ≤ y.tm ∧ y.tm ≤ 60) ∧ (0 ≤ y.ke ∧ y.ke ≤ 3) ∧ -9 ≤ y.va ∧ y.va ≤ 9 := by
  have hb := List.all_eq_true.1 (recsB_iff h).2 y hy
  unfold IwR.isB isRecB okRec at hb
  simp only [Bool.and_eq_true] at hb
  exact ⟨inB_iff.1 hb.2.1.1.1, inB_iff.1 hb.2.1.1.2, inB_iff.1 hb.2.1.2⟩
theorem mem_prsT {k z p : Int} {xs : List IwR} {y : LpR} (h : y ∈ prsT k z p xs) : ∃ x ∈ xs, ∃ q ∈ winsOf k z p x.tm, y = mkP x q := by
  unfold prsT at h
  obtain ⟨x, hx, h⟩ := List.mem_flatMap.1 h
  unfold prsOf at h
  obtain ⟨q, hq, rfl⟩ := List.mem_map.1 h
  exact ⟨x, hx, q, hq, rfl⟩
theorem small_recs {xs : List IwR} (h : recsB xs = true) : SmallL (xs.map (·.va)) := by
  refine ⟨by have := (recsB_iff h).1; rw [List.length_map]; omega, fun u hu => ?_⟩
  obtain ⟨y, hy, rfl⟩ := List.mem_map.1 hu
  have := (recs_of h hy).2.2
  omega
/-- In sessions: a record that lies in a row's window lies in its session. -/
theorem ses_inT {z p : Int} (hz : 1 ≤ z) {xs : List IwR} {rows : List TbR} (h : SesOk (prsT 3 z p xs) rows) {r : TbR} (hr : r ∈ rows) {x : IwR} (hx : x ∈ xs) : inR r (mkP x ⟨x.tm, x.tm + z⟩) = inT r.ky r.st r.en x := by
  have hm : mkP x ⟨x.tm, x.tm + z⟩ ∈ prsT 3 z p xs := List.mem_flatMap.2 ⟨x, hx, List.mem_map.2 ⟨⟨x.tm, x.tm + z⟩, by simp [winsOf], rfl⟩⟩
  rw [Bool.eq_iff_iff, inR_iff, inT_iff]
  constructor
  · rintro ⟨a1, a2, a3⟩
    simp only [mkP] at a1 a2 a3
    exact ⟨a1, a2, by omega⟩
  · rintro ⟨a1, a2, a3⟩
    obtain ⟨q, hq, hyq⟩ := h.all _ hm
    have j := inR_iff.1 hyq
    simp only [mkP] at j ⊢
    have e := h.apart hr hq (a1.symm.trans j.1) (by omega) (by omega)
    rw [e]
    exact ⟨j.1, j.2.1, j.2.2⟩
theorem tab_q {s t k z p l e v r : Int} (hj : okJob s t k z p l e v r = true) {xs : List IwR} (hx : recsB xs = true) (hl : (prsT k z p xs).length ≤ 1000000) (hwv : ∀ x ∈ prsT k z p xs, x.st < x.en ∧ -1000000 ≤ x.va ∧ x.va ≤ 1000000) : TabQ k xs ((prsT k z p xs).length : Int) (tabP k (prsT k z p xs)) := by
  obtain ⟨hz, hkk, hp2, hp0⟩ := okJob_q hj
  have hw : ∀ x ∈ prsT k z p xs, x.st < x.en := fun x h => (hwv x h).1
  by_cases hk : k = 3
  · subst hk
    have h := tabP3_ok _ (prsT 3 z p xs) rfl hl hw (fun x h => (hwv x h).2)
    generalize tabP 3 (prsT 3 z p xs) = rows at h ⊢
    have hag : ∀ q ∈ rows, foldV q.ky q.st q.en xs = agT q := by
      intro q hq
      have h1 := foldV_is q.ky q.st q.en xs (small_recs hx)
      have h2 := h.agg q hq
      have e : vin q (prsT 3 z p xs) = (xs.filter (inT q.ky q.st q.en)).map (·.va) := by
        refine vals_flat (vin q) rfl (vin_app q) _ _ xs (fun x hx9 => ?_)
        rw [← ses_inT hz.1 h hq hx9]
        have e9 : prsOf 3 z p x = [mkP x ⟨x.tm, x.tm + z⟩] := rfl
        rw [e9]
        unfold vin
        have e8 : (mkP x ⟨x.tm, x.tm + z⟩).va = x.va := rfl
        cases hc : inR q (mkP x ⟨x.tm, x.tm + z⟩) <;> simp [List.filter_cons, hc, e8]
      rw [e] at h2
      exact h1.uniq h2
    refine ⟨?_, hag, ?_, ?_, ?_⟩
    · refine count_all inR _ rows (h.disj hw) h.all (fun q hq => ?_) hl
      have := (h.agg q hq).num
      unfold vin at this
      rw [List.length_map] at this
      exact this
    · intro q hq
      obtain ⟨x1, m1, i1, e1⟩ := h.loX hw hq
      obtain ⟨x2, m2, i2, e2⟩ := h.hiX hw hq
      obtain ⟨y1, hy1, w1, hw1, rfl⟩ := mem_prsT m1
      obtain ⟨y2, hy2, w2, hw2, rfl⟩ := mem_prsT m2
      have b1 := winsOf_bd hz hp0 (recs_of hx hy1).1 w1 hw1
      have b2 := winsOf_bd hz hp0 (recs_of hx hy2).1 w2 hw2
      have j := inR_iff.1 i1
      have c1 := hw _ m1
      simp only [mkP] at e1 e2 j c1
      simp [okWin, inB]
      omega
    · intro i q q2 h1 h2
      have hlt := rise_at h.rise (by omega) h1 h2
      have hlt2 := hlt
      unfold ltPl plT at hlt
      simp only at hlt
      refine ⟨by omega, fun c => ?_⟩
      by_cases hst : q.st < q2.st
      · exact hst
      · exfalso
        obtain ⟨x1, m1, i1, e1⟩ := h.loX hw (List.mem_of_getElem? h1)
        obtain ⟨x2, m2, i2, e2⟩ := h.loX hw (List.mem_of_getElem? h2)
        have j1 := inR_iff.1 i1
        have j2 := inR_iff.1 i2
        have c1 := hw _ m1
        have c2 := hw _ m2
        have e := h.apart (List.mem_of_getElem? h1) (List.mem_of_getElem? h2) c (by omega) (by omega)
        rw [e] at hlt2
        exact absurd hlt2 (ltPl_irr _)
    · intro _ i j q q2 hij h1 h2 hky
      have hlt := rise_at h.rise hij h1 h2
      cases hb : touchB q.st q.en q2.st q2.en with
      | false => rfl
      | true =>
        simp [touchB] at hb
        have e := h.apart (List.mem_of_getElem? h1) (List.mem_of_getElem? h2) hky (by omega) (by omega)
        rw [e] at hlt
        exact absurd hlt (ltPl_irr _)
  · have h := tabPn_ok hk _ (prsT k z p xs) rfl hl (fun x h => (hwv x h).2)
    generalize tabP k (prsT k z p xs) = rows at h ⊢
    have hwa : ∀ q ∈ rows, WinA k z p ⟨q.st, q.en⟩ ∧ 0 ≤ q.st ∧ q.st ≤ 60 ∧ q.st < q.en ∧ q.en ≤ 80 := by
      intro q hq
      obtain ⟨x, m, e⟩ := h.has q hq
      have c1 := hw _ m
      obtain ⟨y, hy, w, hw9, rfl⟩ := mem_prsT m
      have b := winsOf_bd hz hp0 (recs_of hx hy).1 w hw9
      have a := ((wins_mem hj (recs_of hx hy).1 hk w).1 hw9).1
      simp [plX, plT, mkP] at e
      simp only [mkP] at c1
      rw [← e.2.1, ← e.2.2]
      exact ⟨a, b.1, b.2.1, c1, b.2.2.2⟩
    refine ⟨?_, ?_, ?_, ?_, fun c => absurd c hk⟩
    · refine count_all atR _ rows h.disj (fun x hx9 => ?_) (fun q hq => ?_) hl
      · obtain ⟨q, hq, e⟩ := h.all x hx9
        exact ⟨q, hq, by simpa [atR] using e⟩
      · have := (h.agg q hq).num
        unfold vat at this
        rw [List.length_map] at this
        exact this
    · intro q hq
      have h1 := foldV_is q.ky q.st q.en xs (small_recs hx)
      have h2 := h.agg q hq
      have e : vat q (prsT k z p xs) = (xs.filter (inT q.ky q.st q.en)).map (·.va) :=
        vals_flat (vat q) rfl (vat_app q) _ _ xs (fun x hx9 => vat_of (T0 := 0) hj hk q (hwa q hq).1 x (recs_of hx hx9).1)
      rw [e] at h2
      exact h1.uniq h2
    · intro q hq
      have := (hwa q hq).2
      simp [okWin, inB]
      omega
    · intro i q q2 h1 h2
      have hlt := rise_at h.rise (by omega) h1 h2
      have w1 := (hwa q (List.mem_of_getElem? h1)).1.1
      have w2 := (hwa q2 (List.mem_of_getElem? h2)).1.1
      unfold ltPl plT at hlt
      simp only at hlt w1 w2
      exact ⟨by omega, fun c => by omega⟩
theorem prsT_le {xs : List IwR} (hx : recsB xs = true) (k z p : Int) : (prsT k z p xs).length ≤ 7320 := by
  have := prsT_len k z p xs
  have := (recsB_iff hx).1
  omega
theorem pairs_q (s t k z p l e v r : Int) (xs : List IwR) : TabQ k xs ((pairsT s t k z p l e v r xs).length : Int) (tabP k (pairsT s t k z p l e v r xs)) := by
  have hwv := pairsT_wv s t k z p l e v r xs
  unfold pairsT at hwv ⊢
  split
  · rename_i hc
    rw [if_pos hc] at hwv
    simp only [Bool.and_eq_true] at hc
    exact tab_q hc.1 hc.2 (Nat.le_trans (prsT_le hc.2 k z p) (by omega)) hwv
  · exact ⟨rfl, by simp [tabP], by simp [tabP], by simp [tabP], by simp [tabP]⟩
end Go.Proofs.YtbockbdlojkpiaaGreat
