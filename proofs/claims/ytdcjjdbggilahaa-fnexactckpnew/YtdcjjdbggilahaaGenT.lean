/- Proved here, for any program: a struct by value whose fields are ints, bools, slices and such structs again is the list of these, in order. Conditions: each field stands behind the one ahead of it. -/
import Derived.Test.YtdcjjdbggilahaaGenS
namespace Go.Proofs.Ytdcjjdbggilahaa
open Go.ChangeShapes Go.WideShapes Go.ChangeAt Go.RowKit Go.Deep
set_option linter.unusedVariables false

/-- What a cell is: an int, a bool, or a slice of a type. -/
inductive Kd where
  | i
  | b
  | s (t : TypeId)
/-- The cells of a list of fields, from a place on. -/
def flatTs (P : Program) (rec : TypeId → Option (List Kd)) : List Field → Nat → Option (List Kd)
  | [], _ => some []
  | f :: r, off => match rec f.type with
    | some ks => if f.offset = off ∧ P.cellsOf f.type = ks.length then
        match flatTs P rec r (off + ks.length) with
        | some rest => some (ks ++ rest)
        | none => none
      else none
    | none => none

def flatT (P : Program) : Nat → TypeId → Option (List Kd)
  | 0, _ => none
  | n + 1, t => match P.underlying t with
    | some (.int .i64) => some [.i]
    | some .bool => some [.b]
    | some (.slice _) => some [.s t]
    | some (.struct fs) => match flatTs P (flatT P n) fs.toList 0 with
      | some ks => if P.cellsOf t = ks.length then some ks else none
      | none => none
    | _ => none

section
variable {H : Type} {enc : TypeId × Value → H} {P : Program} {w : World} {base : Nat} {spare : Nat → Bool} {held : Bool}

/-- One cell is as asked. -/
def FitT (enc : TypeId × Value → H) (P : Program) (w : World) (base : Nat) (spare : Nat → Bool) (held : Bool) (v : Value) : Kd → Prop
  | .i => ∃ z, v = .int .i64 z ∧ (Lit.int .i64 z).wf = true
  | .b => ∃ x, v = .bool x
  | .s t => ∃ a len cap d p, v = .slice a len cap ∧ DataW.Trod enc P w base spare held t (.slice a len cap) d p
/-- Cells that are ints, bools and slices, as asked. -/
def FitsT (enc : TypeId × Value → H) (P : Program) (w : World) (base : Nat) (spare : Nat → Bool) (held : Bool) : List Value → List Kd → Prop
  | [], [] => True
  | v :: vs, k :: ks => FitT enc P w base spare held v k ∧ FitsT enc P w base spare held vs ks
  | _, _ => False

theorem FitsT.app {vs us : List Value} {bs cs : List Kd} (h : FitsT enc P w base spare held vs bs) (k : FitsT enc P w base spare held us cs) : FitsT enc P w base spare held (vs ++ us) (bs ++ cs) := by
  induction vs generalizing bs with
  | nil => cases bs with
    | nil => exact k
    | cons k1 bs => exact h.elim
  | cons v vs ih => cases bs with
    | nil => exact h.elim
    | cons k1 bs => exact ⟨h.1, ih h.2⟩
theorem fitT_i {cs : List Value} {bs : List Kd} (h : FitsT enc P w base spare held cs (.i :: bs)) : ∃ z r, cs = .int .i64 z :: r ∧ (Lit.int .i64 z).wf = true ∧ FitsT enc P w base spare held r bs := by
  cases cs with
  | nil => exact h.elim
  | cons v vs =>
    obtain ⟨⟨z, rfl, hz⟩, h2⟩ := h
    exact ⟨z, vs, rfl, hz, h2⟩
theorem fitT_b {cs : List Value} {bs : List Kd} (h : FitsT enc P w base spare held cs (.b :: bs)) : ∃ z r, cs = .bool z :: r ∧ FitsT enc P w base spare held r bs := by
  cases cs with
  | nil => exact h.elim
  | cons v vs =>
    obtain ⟨⟨z, rfl⟩, h2⟩ := h
    exact ⟨z, vs, rfl, h2⟩
theorem fitT_s {t : TypeId} {cs : List Value} {bs : List Kd} (h : FitsT enc P w base spare held cs (.s t :: bs)) : ∃ a len cap d p r, cs = .slice a len cap :: r ∧ DataW.Trod enc P w base spare held t (.slice a len cap) d p ∧ FitsT enc P w base spare held r bs := by
  cases cs with
  | nil => exact h.elim
  | cons v vs =>
    obtain ⟨⟨a, len, cap, d, p, rfl, ht⟩, h2⟩ := h
    exact ⟨a, len, cap, d, p, vs, rfl, ht, h2⟩
theorem fitT_nil {cs : List Value} (h : FitsT enc P w base spare held cs []) : cs = [] := by
  cases cs with
  | nil => rfl
  | cons v vs => exact h.elim

theorem fitsT_fs {rec : TypeId → Option (List Kd)} {cs : List Value} (l : List Field) (off : Nat) (ks : List Kd)
    (hr : ∀ f ∈ l, ∀ k, rec f.type = some k → FitsT enc P w base spare held ((cs.drop f.offset).take (P.cellsOf f.type)) k)
    (h : flatTs P rec l off = some ks) : FitsT enc P w base spare held ((cs.drop off).take ks.length) ks := by
  induction l generalizing off ks with
  | nil => simp only [flatTs, Option.some.injEq] at h; subst h; simp [FitsT]
  | cons f r ih =>
    simp only [flatTs] at h
    split at h
    · rename_i k hk
      split at h
      · rename_i hc
        split at h
        · rename_i rest hrest
          simp only [Option.some.injEq] at h
          subst h
          have h1 := hr f (by simp) k hk
          rw [hc.1, hc.2] at h1
          have h2 := ih (off + k.length) rest (fun g hg => hr g (by simp [hg])) hrest
          have e : (cs.drop off).take (k ++ rest).length = (cs.drop off).take k.length ++ (cs.drop (off + k.length)).take rest.length := by
            rw [List.length_append, List.take_add, List.drop_drop]
          rw [e]
          exact h1.app h2
        · cases h
      · cases h
    · cases h

theorem fitsT_trod (n : Nat) : ∀ {t : TypeId} {fuel : Nat} {cs : List Value} {x : DataW H × List MemPlace} {ks : List Kd},
    flatT P n t = some ks → DataW.trod enc P w base spare held fuel t cs = some x → FitsT enc P w base spare held cs ks := by
  induction n with
  | zero => intro t fuel cs x ks h; cases h
  | succ n ih =>
    intro t fuel cs x ks h ht
    simp only [flatT] at h
    split at h
    · rename_i hu
      simp only [Option.some.injEq] at h
      subst h
      obtain ⟨z, rfl, _, hz⟩ := DataW.trod_int hu ht
      exact ⟨⟨z, rfl, hz⟩, trivial⟩
    · rename_i hu
      simp only [Option.some.injEq] at h
      subst h
      obtain ⟨z, rfl, _⟩ := DataW.trod_bool hu ht
      exact ⟨⟨z, rfl⟩, trivial⟩
    · rename_i hu
      simp only [Option.some.injEq] at h
      subst h
      obtain ⟨a, len, cap, rfl⟩ := slice_shape hu ht
      exact ⟨⟨a, len, cap, x.1, x.2, rfl, fuel, by simpa [Value.cells] using ht⟩, trivial⟩
    · rename_i fs hu
      split at h
      · rename_i ks' hk
        split at h
        · rename_i hc
          simp only [Option.some.injEq] at h
          subst h
          obtain ⟨xs, m, _, _, hl, hlen, hf⟩ := DataW.trod_struct hu ht
          have := fitsT_fs (enc := enc) (w := w) (base := base) (spare := spare) (held := held) (P := P) (cs := cs) fs.toList 0 _ (fun f hf' k hk' => by
            obtain ⟨i, hi, hfi⟩ := List.getElem_of_mem hf'
            have hfi' : fs[i]? = some f := by rw [← hfi]; simp [Array.getElem?_eq_getElem (by simpa using hi)]
            have h5 := hf i f hfi'
            rw [List.getElem?_eq_getElem (by rw [hlen]; simpa using hi)] at h5
            exact ih hk' h5) hk
          rw [List.drop_zero, List.take_of_length_le (by omega)] at this
          exact this
        · cases h
      · cases h
    · cases h

theorem open_flatT {r : Reach} {b0 : Nat} {t : TypeId} {fs : Array Field} {v : Value} {d : DataW H} {p : List MemPlace} {ks : List Kd}
    (n : Nat) (hs : P.underlying t = some (.struct fs)) (hk : flatT P n t = some ks)
    (hv : Value.okWide P w r b0 t v) (h : DataW.Trod enc P w base spare held t v d p) : ∃ cs, v = .agg cs.toArray ∧ FitsT enc P w base spare held cs ks := by
  obtain ⟨cs, rfl, hsz⟩ := okWide_struct hs hv
  obtain ⟨fuel, hf⟩ := h
  refine ⟨cs.toList, by simp, ?_⟩
  have := fitsT_trod n hk hf
  simpa [Value.cells] using this
end
end Go.Proofs.Ytdcjjdbggilahaa
