/- Proved here: an operator's rows as boxes that a map of places points to: what is told in order is those boxes, in order. -/
import Derived.Test.YtflignpbboiahaaInOrdO
import Derived.Test.YtflignpbboiahaaRwOp
namespace Go.Proofs.Ytflignpbboiahaa
open Go.RowKit Go.Sort Go.Lib
set_option linter.unusedVariables false

theorem ltPl_irr (x : P3) : ¬ ltPl x x := by unfold ltPl; omega
theorem ltPl_tr {a b c : P3} (h : ltPl a b) (k : ltPl b c) : ltPl a c := by unfold ltPl at *; omega
theorem ltPl_tri (a b : P3) : ltPl a b ∨ a = b ∨ ltPl b a := by
  obtain ⟨a1, a2, a3⟩ := a
  obtain ⟨b1, b2, b3⟩ := b
  unfold ltPl
  by_cases e1 : a1 = b1
  · by_cases e2 : a2 = b2
    · by_cases e3 : a3 = b3
      · subst e1 e2 e3; exact .inr (.inl rfl)
      · simp only; omega
    · simp only; omega
  · simp only; omega
theorem rise_eq : ∀ (xs zs : List P3), xs.Pairwise ltPl → zs.Pairwise ltPl → (∀ q, q ∈ xs ↔ q ∈ zs) → xs = zs
  | [], [], _, _, _ => rfl
  | [], b :: zs, _, _, h => by have := (h b).2 (by simp); cases this
  | a :: xs, [], _, _, h => by have := (h a).1 (by simp); cases this
  | a :: xs, b :: zs, h1, h2, h => by
    obtain ⟨ha, ha2⟩ := List.pairwise_cons.1 h1
    obtain ⟨hb, hb2⟩ := List.pairwise_cons.1 h2
    have e : a = b := by
      rcases List.mem_cons.1 ((h a).1 (by simp)) with e | e
      · exact e
      · rcases List.mem_cons.1 ((h b).2 (by simp)) with e' | e'
        · exact e'.symm
        · exact absurd (ltPl_tr (hb a e) (ha b e')) (ltPl_irr _)
    subst e
    rw [rise_eq xs zs ha2 hb2 (fun q => ⟨fun hq => ?_, fun hq => ?_⟩)]
    · rcases List.mem_cons.1 ((h q).1 (List.mem_cons_of_mem _ hq)) with e | e
      · subst e; exact absurd (ha _ hq) (ltPl_irr _)
      · exact e
    · rcases List.mem_cons.1 ((h q).2 (List.mem_cons_of_mem _ hq)) with e | e
      · subst e; exact absurd (hb _ hq) (ltPl_irr _)
      · exact e
theorem srt_rise {ss : List P3} (h : ss.Nodup) : (srt3 ss).Pairwise ltPl := by
  have h1 : (srt3 ss).Pairwise (fun x y => (!(ltOf cfPl) y x) = true) := List.pairwise_mergeSort (fun a b c h1 h2 => by
      simp only [Bool.not_eq_true', ltOfPl_f] at *
      unfold ltPl at *; omega) (fun a b => by
      rcases ltPl_tri a b with h | h | h
      · have : ltOf cfPl b a = false := (ltOfPl_f b a).2 (fun h' => ltPl_irr _ (ltPl_tr h h'))
        simp [this]
      · subst h
        have : ltOf cfPl a a = false := (ltOfPl_f a a).2 (ltPl_irr _)
        simp [this]
      · have : ltOf cfPl a b = false := (ltOfPl_f a b).2 (fun h' => ltPl_irr _ (ltPl_tr h h'))
        simp [this]) ss
  have h2 : (srt3 ss).Nodup := (srt3_perm ss).nodup_iff.2 h
  refine List.Pairwise.imp₂ (fun a b h3 h4 => ?_) h1 h2
  simp only [Bool.not_eq_true', ltOfPl_f] at h3
  rcases ltPl_tri a b with h | h | h
  · exact h
  · exact absurd h h4
  · exact absurd h h3
/-- The place of a row; a row in its box. -/
def plO (x : OrR) : P3 := (x.ky, x.st, x.en)
abbrev Ent := Nat × OrR
def ptrE (e : Ent) : Option Addr := some ⟨e.1, 0, none⟩
/-- What a map of boxes tells of a place. -/
def mapE (es : List Ent) (q : P3) : Option (Option Addr) := (es.find? (fun e => decide (plO e.2 = q))).map ptrE
def RiseE (es : List Ent) : Prop := es.Pairwise (fun a b => ltPl (plO a.2) (plO b.2))
theorem mapE_nil : mapE [] = fun _ => none := rfl
theorem mapE_none {es : List Ent} {q : P3} (h : ∀ e ∈ es, ¬ plO e.2 = q) : mapE es q = none := by
  unfold mapE
  rw [List.find?_eq_none.2 (fun e he => by simpa using h e he)]
  rfl
theorem RiseE.inj {es : List Ent} (h : RiseE es) {a b : Ent} (ha : a ∈ es) (hb : b ∈ es) (e : plO a.2 = plO b.2) : a = b := by
  induction es with
  | nil => cases ha
  | cons x t ih =>
    have hc := List.pairwise_cons.1 h
    rcases List.mem_cons.1 ha with rfl | h1 <;> rcases List.mem_cons.1 hb with rfl | h2
    · rfl
    · have := hc.1 b h2
      rw [e] at this
      exact absurd this (ltPl_irr _)
    · have := hc.1 a h1
      rw [e] at this
      exact absurd this (ltPl_irr _)
    · exact ih hc.2 h1 h2
theorem mapE_mem {es : List Ent} (h : RiseE es) {e : Ent} (he : e ∈ es) : mapE es (plO e.2) = some (ptrE e) := by
  unfold mapE
  cases hf : es.find? (fun x => decide (plO x.2 = plO e.2)) with
  | none =>
    have := List.find?_eq_none.1 hf e he
    simp at this
  | some x =>
    have h1 : x ∈ es := List.mem_of_find?_eq_some hf
    have h2 : plO x.2 = plO e.2 := by simpa using List.find?_some hf
    rw [h.inj h1 he h2]
    rfl
theorem mapE_some {es : List Ent} {q : P3} {a : Option Addr} (h : mapE es q = some a) : ∃ e ∈ es, plO e.2 = q ∧ a = ptrE e := by
  unfold mapE at h
  cases hf : es.find? (fun x => decide (plO x.2 = q)) with
  | none => rw [hf] at h; cases h
  | some x =>
    rw [hf] at h
    simp at h
    exact ⟨x, List.mem_of_find?_eq_some hf, by simpa using List.find?_some hf, h.symm⟩
theorem mapE_snoc {es : List Ent} {e : Ent} (hn : ∀ x ∈ es, ¬ plO x.2 = plO e.2) : (fun q => if q = plO e.2 then some (Value.pointer (ptrE e)) else (mapE es q).map Value.pointer) = fun q => (mapE (es ++ [e]) q).map Value.pointer := by
  funext q
  unfold mapE
  rw [List.find?_append]
  by_cases h : q = plO e.2
  · subst h
    rw [List.find?_eq_none.2 (fun x hx => by simpa using hn x hx)]
    simp
  · rw [if_neg h]
    cases hf : es.find? (fun x => decide (plO x.2 = q)) with
    | none =>
      simp
      exact fun h9 => h h9.symm
    | some x => simp
/-- The places are the same where the boxes are, and the rows' places. -/
theorem mapE_same (f : OrR → OrR) (hf : ∀ x, plO (f x) = plO x) (g : Ent → Bool) (es : List Ent) : mapE (es.map (fun e => (e.1, if g e = true then f e.2 else e.2))) = mapE es := by
  funext q
  unfold mapE
  rw [List.find?_map, Option.map_map]
  have e1 : ((fun e : Ent => decide (plO e.2 = q)) ∘ fun e : Ent => (e.1, if g e = true then f e.2 else e.2)) = fun e => decide (plO e.2 = q) := by
    funext e
    simp only [Function.comp]
    split
    · rw [hf]
    · rfl
  rw [e1]
  rfl
theorem inE {es : List Ent} {ys : List (P3 × Option Addr)} (hr : RiseE es) (hok : ∀ e ∈ es, ok3 (plO e.2)) (h : InOrd none (mapE es) ys) : ys = es.map (fun e => (plO e.2, ptrE e)) := by
  obtain ⟨ss, ⟨hnd, hmem⟩, rfl⟩ := h
  have e : es.map (fun e => plO e.2) = srt3 ss := by
    refine rise_eq _ _ (List.pairwise_map.2 hr) (srt_rise hnd) (fun q => ?_)
    rw [(srt3_perm ss).mem_iff, hmem]
    constructor
    · intro hq
      obtain ⟨x, hx, rfl⟩ := List.mem_map.1 hq
      exact ⟨hok x hx, by rw [mapE_mem hr hx]; simp⟩
    · rintro ⟨_, hq⟩
      cases hm : mapE es q with
      | none => exact absurd hm hq
      | some a =>
        obtain ⟨x, hx, hxq, _⟩ := mapE_some hm
        exact List.mem_map.2 ⟨x, hx, hxq⟩
  rw [← e, List.map_map]
  refine List.map_congr_left (fun x hx => ?_)
  simp only [Function.comp]
  rw [mapE_mem hr hx]
  rfl
theorem zeroPtr (u : World) : (zeroValue 78).run Try.prog u = .ok (Value.pointer none) u := by kernel_rfl
end Go.Proofs.Ytflignpbboiahaa
