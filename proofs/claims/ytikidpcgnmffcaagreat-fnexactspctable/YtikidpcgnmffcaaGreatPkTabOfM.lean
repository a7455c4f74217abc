/- Laid together: what the claim needs of the texts that were built one by one. -/
import Derived.Test.YtikidpcgnmffcaaGreatPkBase
import Derived.Test.YtikidpcgnmffcaaGreatPkTabOfS
namespace Go.Proofs.YtikidpcgnmffcaaGreat
open Go.RowKit Go.Sort Go.Lib
set_option linter.unusedVariables false

def plT (r : TbR) : P3 := (r.ky, r.st, r.en)

def agT (r : TbR) : Ag4 := (r.n, r.su, r.le, r.mo)

def plP (p : PnR) : P3 := (p.ky, p.st, p.en)

/-- Rows rise by places. -/
def RiseT (rows : List TbR) : Prop := rows.Pairwise (fun a b => ltPl (plT a) (plT b))

/-- What rows tell of a place. -/
def valT (rows : List TbR) (q : P3) : Option Ag4 := (findT q.1 q.2.1 q.2.2 rows).map agT

theorem ltPl_irr (x : P3) : ¬ ltPl x x := by unfold ltPl; omega

theorem ltPl_tr {a b c : P3} (h : ltPl a b) (k : ltPl b c) : ltPl a c := by unfold ltPl at *; omega

theorem ltPl_tri (a b : P3) : ltPl a b ∨ a = b ∨ ltPl b a := by
  obtain ⟨a1, a2, a3⟩ := a
  obtain ⟨b1, b2, b3⟩ := b
  unfold ltPl
  by_cases e1 : a1 = b1
  · by_cases e2 : a2 = b2
    · by_cases e3 : a3 = b3
      · subst e1 e2 e3; exact .inr (.inl rfl)
      · simp only; omega
    · simp only; omega
  · simp only; omega

theorem aheadR_iff (r x : TbR) : aheadR r x = true ↔ ltPl (plT r) (plT x) := by
  rw [← cfPl_iff]
  unfold aheadR cfPl plT
  exact decide_eq_true_iff

theorem isB_iff (q : P3) (x : TbR) : TbR.isB q.1 q.2.1 q.2.2 x = true ↔ plT x = q := by
  obtain ⟨a, b, c⟩ := q
  simp [TbR.isB, plT]

theorem mem_insR {r x : TbR} {xs : List TbR} : x ∈ insR r xs ↔ x = r ∨ x ∈ xs := by
  induction xs with
  | nil => simp [insR]
  | cons y t ih =>
    unfold insR
    split
    · simp
    · simp [ih]; constructor
      · rintro (h | h | h) <;> simp [h]
      · rintro (h | h | h) <;> simp [h]

theorem ins_rise {r : TbR} {xs : List TbR} (h : RiseT xs) (hn : ∀ x ∈ xs, plT x ≠ plT r) : RiseT (insR r xs) := by
  induction xs with
  | nil => simp [insR, RiseT]
  | cons y t ih =>
    obtain ⟨hy, ht⟩ := List.pairwise_cons.1 h
    unfold insR
    split
    · rename_i ha
      rw [aheadR_iff] at ha
      refine List.pairwise_cons.2 ⟨fun x hx => ?_, h⟩
      rcases List.mem_cons.1 hx with rfl | hx
      · exact ha
      · exact ltPl_tr ha (hy x hx)
    · rename_i ha
      refine List.pairwise_cons.2 ⟨fun x hx => ?_, ih ht (fun x hx => hn x (List.mem_cons_of_mem _ hx))⟩
      rcases mem_insR.1 hx with rfl | hx
      · rcases ltPl_tri (plT y) (plT x) with h1 | h1 | h1
        · exact h1
        · exact absurd h1 (hn y (by simp))
        · exact absurd ((aheadR_iff _ _).2 h1) ha
      · exact hy x hx

theorem kp_rise {ky st en : Int} {xs : List TbR} (h : RiseT xs) : RiseT (kpTb ky st en xs) := List.Pairwise.sublist List.filter_sublist h

theorem kp_no {q : P3} {xs : List TbR} : ∀ x ∈ kpTb q.1 q.2.1 q.2.2 xs, plT x ≠ q := by
  intro x hx e
  have := (List.mem_filter.1 hx).2
  rw [(isB_iff q x).2 e] at this
  cases this

theorem val_nil (q : P3) : valT [] q = none := rfl

theorem val_cons (x : TbR) (t : List TbR) (q : P3) : valT (x :: t) q = if plT x = q then some (agT x) else valT t q := by
  unfold valT findT
  rw [List.find?_cons]
  by_cases h : plT x = q
  · rw [(isB_iff q x).2 h, if_pos h]; rfl
  · rw [if_neg h]
    have : TbR.isB q.1 q.2.1 q.2.2 x = false := by
      cases hb : TbR.isB q.1 q.2.1 q.2.2 x
      · rfl
      · exact absurd ((isB_iff q x).1 hb) h
    rw [this]

theorem val_none {xs : List TbR} {q : P3} (h : ∀ x ∈ xs, plT x ≠ q) : valT xs q = none := by
  induction xs with
  | nil => rfl
  | cons x t ih => rw [val_cons, if_neg (h x (by simp)), ih (fun y hy => h y (List.mem_cons_of_mem _ hy))]

theorem val_some {xs : List TbR} (h : RiseT xs) {x : TbR} (hx : x ∈ xs) : valT xs (plT x) = some (agT x) := by
  induction xs with
  | nil => cases hx
  | cons y t ih =>
    obtain ⟨hy, ht⟩ := List.pairwise_cons.1 h
    rw [val_cons]
    rcases List.mem_cons.1 hx with rfl | hx
    · rw [if_pos rfl]
    · rw [if_neg (fun e => ltPl_irr (plT x) (by have := hy x hx; rw [e] at this; exact this)), ih ht hx]

theorem val_mem {xs : List TbR} {q : P3} : q ∈ xs.map plT ↔ valT xs q ≠ none := by
  induction xs with
  | nil => simp [val_nil]
  | cons x t ih =>
    rw [val_cons, List.map_cons, List.mem_cons, ih]
    by_cases h : plT x = q
    · rw [if_pos h]; simp [h]
    · rw [if_neg h]
      constructor
      · rintro (h1 | h1)
        · exact absurd h1.symm h
        · exact h1
      · exact .inr

theorem val_ins {r : TbR} {xs : List TbR} (hn : ∀ x ∈ xs, plT x ≠ plT r) (q : P3) : valT (insR r xs) q = if q = plT r then some (agT r) else valT xs q := by
  induction xs with
  | nil =>
    unfold insR
    rw [val_cons]
    by_cases h : q = plT r
    · rw [if_pos h, if_pos h.symm]
    · rw [if_neg h, if_neg (fun e => h e.symm)]
  | cons y t ih =>
    have ih' := ih (fun x hx => hn x (List.mem_cons_of_mem _ hx))
    unfold insR
    split
    · rw [val_cons]
      by_cases h : q = plT r
      · rw [if_pos h, if_pos h.symm]
      · rw [if_neg h, if_neg (fun e => h e.symm)]
    · rw [val_cons, ih', val_cons]
      by_cases h : q = plT r
      · have : plT y ≠ q := fun e => hn y (by simp) (e.trans h)
        rw [if_neg this]
        simp only [if_pos h]
      · simp only [if_neg h]

theorem val_kp {q0 : P3} {xs : List TbR} (q : P3) : valT (kpTb q0.1 q0.2.1 q0.2.2 xs) q = if q = q0 then none else valT xs q := by
  by_cases h : q = q0
  · rw [if_pos h, h]; exact val_none kp_no
  · rw [if_neg h]
    induction xs with
    | nil => rfl
    | cons x t ih =>
      unfold kpTb
      rw [List.filter_cons]
      by_cases hb : plT x = q0
      · rw [(isB_iff q0 x).2 hb]
        simp only [Bool.not_true, Bool.false_eq_true, if_false]
        rw [val_cons, if_neg (fun e => h (by rw [← e, hb]))]
        exact ih
      · have hb' : TbR.isB q0.1 q0.2.1 q0.2.2 x = false := by
          cases h9 : TbR.isB q0.1 q0.2.1 q0.2.2 x
          · rfl
          · exact absurd ((isB_iff q0 x).1 h9) hb
        rw [hb']
        simp only [Bool.not_false, if_true]
        rw [val_cons, val_cons]
        by_cases e : plT x = q
        · simp only [if_pos e]
        · simp only [if_neg e]; exact ih

/-- A map behind one more pane. -/
def stepF (pc : Bool) (f : P3 → Option Ag4) (p : PnR) : P3 → Option Ag4 := fun q => if q = plP p then (if p.kd = 3 then none else some (if pc then bothF ((f (plP p)).getD ag0) p.n p.su p.le p.mo else (p.n, p.su, p.le, p.mo))) else f q

def mapF (pc : Bool) (ps : List PnR) : P3 → Option Ag4 := ps.foldl (stepF pc) (fun _ => none)

theorem aggF_val (rows : List TbR) (q : P3) : aggF (findT q.1 q.2.1 q.2.2 rows) = (valT rows q).getD ag0 := by
  unfold valT
  cases findT q.1 q.2.1 q.2.2 rows <;> rfl

theorem tab_step (pc : Bool) (p : PnR) {rows : List TbR} (h : RiseT rows) : RiseT (tabStep pc rows p) ∧ valT (tabStep pc rows p) = stepF pc (valT rows) p := by
  have hk := kp_rise (ky := p.ky) (st := p.st) (en := p.en) h
  have hno : ∀ x ∈ kpTb p.ky p.st p.en rows, plT x ≠ plP p := kp_no (q := plP p)
  have hv : ∀ q, valT (kpTb p.ky p.st p.en rows) q = if q = plP p then none else valT rows q := val_kp (q0 := plP p)
  unfold tabStep stepF
  by_cases h3 : p.kd = 3
  · rw [if_pos h3]
    refine ⟨hk, funext fun q => ?_⟩
    rw [hv q]
    simp only [if_pos h3]
  · rw [if_neg h3]
    have hpl : plT (tabRow p (tabAgg pc rows p)) = plP p := rfl
    refine ⟨ins_rise hk (by rw [hpl]; exact hno), funext fun q => ?_⟩
    rw [val_ins (by rw [hpl]; exact hno) q, hv q, hpl]
    by_cases e : q = plP p
    · rw [if_pos e, if_pos e, if_neg h3]
      have : agT (tabRow p (tabAgg pc rows p)) = tabAgg pc rows p := rfl
      rw [this]
      unfold tabAgg
      have h9 := aggF_val rows (plP p)
      show some (if pc = true then bothF (aggF (findT (plP p).1 (plP p).2.1 (plP p).2.2 rows)) p.n p.su p.le p.mo else _) = _
      rw [h9]
    · rw [if_neg e, if_neg e, if_neg e]

theorem tab_fold (pc : Bool) : ∀ (ps : List PnR) (rows : List TbR), RiseT rows → RiseT (ps.foldl (tabStep pc) rows) ∧ valT (ps.foldl (tabStep pc) rows) = ps.foldl (stepF pc) (valT rows)
  | [], rows, h => ⟨h, rfl⟩
  | p :: t, rows, h => by
    obtain ⟨h1, h2⟩ := tab_step pc p h
    rw [List.foldl_cons, List.foldl_cons, ← h2]
    exact tab_fold pc t _ h1

theorem tab_map (pc : Bool) (ps : List PnR) : RiseT (tabOfL pc ps) ∧ valT (tabOfL pc ps) = mapF pc ps := tab_fold pc ps [] List.Pairwise.nil

theorem mapF_in (pc : Bool) (q : P3) : ∀ (ps : List PnR) (f : P3 → Option Ag4), (ps.foldl (stepF pc) f) q ≠ none → f q ≠ none ∨ ∃ p ∈ ps, plP p = q
  | [], f, h => .inl h
  | p :: t, f, h => by
    rcases mapF_in pc q t _ h with h1 | ⟨p', hp', e⟩
    · by_cases e : plP p = q
      · exact .inr ⟨p, by simp, e⟩
      · unfold stepF at h1
        rw [if_neg (fun e' => e e'.symm)] at h1
        exact .inl h1
    · exact .inr ⟨p', List.mem_cons_of_mem _ hp', e⟩

theorem rise_eq : ∀ (xs zs : List P3), xs.Pairwise ltPl → zs.Pairwise ltPl → (∀ q, q ∈ xs ↔ q ∈ zs) → xs = zs
  | [], [], _, _, _ => rfl
  | [], b :: zs, _, _, h => by have := (h b).2 (by simp); cases this
  | a :: xs, [], _, _, h => by have := (h a).1 (by simp); cases this
  | a :: xs, b :: zs, h1, h2, h => by
    obtain ⟨ha, ha2⟩ := List.pairwise_cons.1 h1
    obtain ⟨hb, hb2⟩ := List.pairwise_cons.1 h2
    have e : a = b := by
      rcases List.mem_cons.1 ((h a).1 (by simp)) with e | e
      · exact e
      · rcases List.mem_cons.1 ((h b).2 (by simp)) with e' | e'
        · exact e'.symm
        · exact absurd (ltPl_tr (hb a e) (ha b e')) (ltPl_irr _)
    subst e
    rw [rise_eq xs zs ha2 hb2 (fun q => ⟨fun hq => ?_, fun hq => ?_⟩)]
    · rcases List.mem_cons.1 ((h q).1 (List.mem_cons_of_mem _ hq)) with e | e
      · subst e; exact absurd (ha _ hq) (ltPl_irr _)
      · exact e
    · rcases List.mem_cons.1 ((h q).2 (List.mem_cons_of_mem _ hq)) with e | e
      · subst e; exact absurd (hb _ hq) (ltPl_irr _)
      · exact e

theorem srt_rise {ss : List P3} (h : ss.Nodup) : (srt3 ss).Pairwise ltPl := by
  have h1 : (srt3 ss).Pairwise (fun x y => (!(ltOf cfPl) y x) = true) := List.pairwise_mergeSort (fun a b c h1 h2 => by
      simp only [Bool.not_eq_true', ltOfPl_f] at *
      unfold ltPl at *; omega) (fun a b => by
      rcases ltPl_tri a b with h | h | h
      · have : ltOf cfPl b a = false := (ltOfPl_f b a).2 (fun h' => ltPl_irr _ (ltPl_tr h h'))
        simp [this]
      · subst h
        have : ltOf cfPl a a = false := (ltOfPl_f a a).2 (ltPl_irr _)
        simp [this]
      · have : ltOf cfPl a b = false := (ltOfPl_f a b).2 (fun h' => ltPl_irr _ (ltPl_tr h h'))
        simp [this]) ss
  have h2 : (srt3 ss).Nodup := (srt3_perm ss).nodup_iff.2 h
  refine List.Pairwise.imp₂ (fun a b h3 h4 => ?_) h1 h2
  simp only [Bool.not_eq_true', ltOfPl_f] at h3
  rcases ltPl_tri a b with h | h | h
  · exact h
  · exact absurd h h4
  · exact absurd h h3

/-- What a map tells in order is what the rows are. -/
theorem rows_eq {pc : Bool} {ps : List PnR} {ys : List (P3 × Ag4)} (h : InOrd ag0 (mapF pc ps) ys) (hok : ∀ p ∈ ps, ok3 (plP p)) : ys.map rowT = tabOfL pc ps := by
  obtain ⟨ss, ⟨hnd, hmem⟩, rfl⟩ := h
  obtain ⟨hr, hv⟩ := tab_map pc ps
  have e : (tabOfL pc ps).map plT = srt3 ss := by
    refine rise_eq _ _ (List.pairwise_map.2 hr) (srt_rise hnd) (fun q => ?_)
    rw [val_mem, hv, (srt3_perm ss).mem_iff, hmem q]
    constructor
    · intro h9
      refine ⟨?_, h9⟩
      rcases mapF_in pc q ps _ h9 with h8 | ⟨p, hp, e⟩
      · exact absurd rfl h8
      · rw [← e]; exact hok p hp
    · exact fun h9 => h9.2
  rw [← e, List.map_map, List.map_map]
  conv => rhs; rw [← List.map_id (tabOfL pc ps)]
  refine List.map_congr_left (fun r hr9 => ?_)
  have h8 := val_some hr hr9
  rw [hv] at h8
  simp only [Function.comp_apply, h8, Option.getD_some, id]
  rfl
end Go.Proofs.YtikidpcgnmffcaaGreat
