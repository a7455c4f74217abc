/- Proved here: worlds in which nothing has turned but cells of rows, panes and operators. -/
import Derived.Test.YtflignpbboiahaaOpOf
namespace Go.Proofs.Ytflignpbboiahaa
open Go.ChangeShapes Go.WideShapes Go.ChangeAt Go.RowKit
set_option linter.unusedVariables false

set_option linter.unusedSimpArgs false
/-- The types of what turns while an operator is at work. -/
def turnT (ty : TypeId) : Bool := ty == 66 || ty == 62 || ty == 54 || ty == 30
/-- What is no cells, and all cells of other types, lie as they lay. -/
def KpC (W W' : World) : Prop := W.heap.size ≤ W'.heap.size ∧ ∀ (k : Nat) (o : Obj), W.heap[k]? = some o → (o.isCells = false ∨ ∃ (cs : Array Value) (ty : TypeId), turnT ty = false ∧ o = .cells cs ty (0, 0)) → W'.heap[k]? = some o
theorem KpC.refl (W : World) : KpC W W := ⟨Nat.le_refl _, fun _ _ h _ => h⟩
theorem KpC.trans {A B C : World} (h : KpC A B) (k : KpC B C) : KpC A C := ⟨Nat.le_trans h.1 k.1, fun i o hi ho => k.2 i o (h.2 i o hi ho) ho⟩
theorem KpC.bel {W W' : World} (hb : Below W.heap.size W W') : KpC W W' := ⟨hb.size, fun k o hk _ => (hb.block k (Array.getElem?_eq_some_iff.1 hk).1).trans hk⟩
theorem KpC.grown {W W' : World} {row : Option Nat} (hg : W.grownBy W' row) (hr : ∀ r, row = some r → ∃ cs ty, W.heap[r]? = some (.cells cs ty (0, 0)) ∧ turnT ty = true) : KpC W W' := by
  refine ⟨hg.size, fun k o hk ho => (hg.block k (Array.getElem?_eq_some_iff.1 hk).1 (fun e => ?_)).trans hk⟩
  obtain ⟨cs, ty, h1, h2⟩ := hr k e.symm
  rw [hk] at h1
  cases h1
  rcases ho with h9 | ⟨cs', ty', h8, h9⟩
  · cases h9
  · cases h9
    rw [h2] at h8
    cases h8
theorem KpC.set {W : World} {p : Addr} (v : Value) {cs : Array Value} {ty : TypeId} (h : W.heap[p.block]? = some (.cells cs ty (0, 0))) (h1 : turnT ty = true) : KpC W (W.setCell p v) := by
  refine ⟨(KeepsWalks.setCell W p v).size, fun k o hk ho => ?_⟩
  have hne : k ≠ p.block := by
    rintro rfl
    rw [hk] at h
    cases h
    rcases ho with h9 | ⟨cs', ty', h8, h9⟩
    · cases h9
    · cases h9
      rw [h1] at h8
      cases h8
  exact (Below.heap_setCell W p v k hne).trans hk
theorem KpC.kpo {W W' : World} (h : KpC W W') : KpO W W' := by
  refine ⟨⟨h.1, fun k o hk ho => h.2 k o hk (.inl (Obj.not_cells_of_walk ho))⟩, fun b cs ty ht hb => h.2 b _ hb (.inr ⟨cs, ty, ?_, rfl⟩)⟩
  rcases ht with rfl | rfl <;> decide
theorem KpC.from {W W' : World} (h : KpC W W') (B : Nat) : KeepsFrom B W W' := ⟨h.1, fun k o _ hk ho => h.2 k o hk (.inl ho)⟩
/-- Entries as what a map of them holds. -/
def evO : Option Ent → Value
  | none => .pointer none
  | some e => .pointer (some ⟨e.1, 0, none⟩)
def mapO (es : List Ent) (q : P3) : Option (Option Ent) := (es.find? (fun e => decide (plO e.2 = q))).map some
theorem mapO_ev (es : List Ent) : (fun q => (mapO es q).map evO) = fun q => (mapE es q).map Value.pointer := by
  funext q
  unfold mapO mapE
  cases es.find? (fun e => decide (plO e.2 = q)) <;> rfl
def PXs (es : List Ent) (x : P3 × Option Ent) : Prop := ∃ e ∈ es, x.2 = some e
theorem mapO_px {es : List Ent} {q : P3} {a : Option Ent} (h : mapO es q = some a) : PXs es (q, a) := by
  unfold mapO at h
  cases hf : es.find? (fun e => decide (plO e.2 = q)) with
  | none => rw [hf] at h; cases h
  | some e =>
    rw [hf] at h
    simp at h
    exact ⟨e, List.mem_of_find?_eq_some hf, h.symm⟩
abbrev EntX (es : List Ent) := {x : P3 × Option Ent // PXs es x}
def entZ : Ent := (0, ⟨0, 0, 0, 0, 0, 0, 0, 0, 0, 0, 0, 0, false⟩)
def entOf {es : List Ent} (x : EntX es) : Ent := x.1.2.getD entZ
theorem entOf_ev {es : List Ent} (x : EntX es) : evO x.1.2 = .pointer (some ⟨(entOf x).1, 0, none⟩) := by
  obtain ⟨y, e, he, hy⟩ := x
  unfold entOf
  simp only [hy]
  rfl
theorem entOf_mem {es : List Ent} (x : EntX es) : entOf x ∈ es := by
  obtain ⟨y, e, he, hy⟩ := x
  unfold entOf
  simp only [hy]
  exact he
theorem inO {es : List Ent} {ys : List (EntX es)} (hr : RiseE es) (hok : ∀ e ∈ es, ok3 (plO e.2)) (h : InOrd none (mapO es) (ys.map (fun y => y.1))) : ys.map entOf = es := by
  obtain ⟨ss, ⟨hnd, hmem⟩, hy⟩ := h
  have hmm : ∀ e ∈ es, mapO es (plO e.2) = some (some e) := by
    intro e he
    unfold mapO
    cases hf : es.find? (fun x => decide (plO x.2 = plO e.2)) with
    | none =>
      have := List.find?_eq_none.1 hf e he
      simp at this
    | some x =>
      have h1 : x ∈ es := List.mem_of_find?_eq_some hf
      have h2 : plO x.2 = plO e.2 := by simpa using List.find?_some hf
      rw [hr.inj h1 he h2]
      rfl
  have e : es.map (fun e => plO e.2) = srt3 ss := by
    refine rise_eq _ _ (List.pairwise_map.2 hr) (srt_rise hnd) (fun q => ?_)
    rw [(srt3_perm ss).mem_iff, hmem]
    constructor
    · intro hq
      obtain ⟨x, hx, rfl⟩ := List.mem_map.1 hq
      exact ⟨hok x hx, by rw [hmm x hx]; simp⟩
    · rintro ⟨_, hq⟩
      cases hm : mapO es q with
      | none => exact absurd hm hq
      | some a =>
        unfold mapO at hm
        cases hf : es.find? (fun e => decide (plO e.2 = q)) with
        | none => rw [hf] at hm; cases hm
        | some x => exact List.mem_map.2 ⟨x, List.mem_of_find?_eq_some hf, by simpa using List.find?_some hf⟩
  have e2 : ys.map entOf = (ys.map (fun y => y.1)).map (fun x => x.2.getD entZ) := by rw [List.map_map]; rfl
  rw [e2, hy, ← e, List.map_map, List.map_map]
  have e3 : es.map (((fun x : P3 × Option Ent => x.2.getD entZ) ∘ fun q => (q, (mapO es q).getD none)) ∘ fun e : Ent => plO e.2) = es.map id := List.map_congr_left (fun x hx => by simp only [Function.comp]; rw [hmm x hx]; rfl)
  rw [e3, List.map_id]
theorem zeroEv (u : World) : (zeroValue 78).run Try.prog u = .ok (evO none) u := by kernel_rfl
end Go.Proofs.Ytflignpbboiahaa
