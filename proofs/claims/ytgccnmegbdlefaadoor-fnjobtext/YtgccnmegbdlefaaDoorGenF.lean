/- Proved here, for any program: a struct by value whose fields are ints, bools and such structs again is the list of these, in order. Conditions: each field stands behind the one ahead of it. -/
import Derived.Test.YtgccnmegbdlefaaDoorGenA
namespace Go.Proofs.YtgccnmegbdlefaaDoor
open Go.ChangeShapes Go.WideShapes Go.ChangeAt Go.RowKit Go.Deep
set_option linter.unusedVariables false

/-- The cells of a list of fields, from a place on: false for an int, true for a bool. -/
def flatFs (P : Program) (rec : TypeId → Option (List Bool)) : List Field → Nat → Option (List Bool)
  | [], _ => some []
  | f :: r, off => match rec f.type with
    | some ks => if f.offset = off ∧ P.cellsOf f.type = ks.length then
        match flatFs P rec r (off + ks.length) with
        | some rest => some (ks ++ rest)
        | none => none
      else none
    | none => none

def flatK (P : Program) : Nat → TypeId → Option (List Bool)
  | 0, _ => none
  | n + 1, t => match P.underlying t with
    | some (.int .i64) => some [false]
    | some .bool => some [true]
    | some (.struct fs) => match flatFs P (flatK P n) fs.toList 0 with
      | some ks => if P.cellsOf t = ks.length then some ks else none
      | none => none
    | _ => none

/-- Cells that are ints and bools, as asked. -/
def Fits : List Value → List Bool → Prop
  | [], [] => True
  | v :: vs, b :: bs => (if b = true then ∃ x, v = .bool x else ∃ z, v = .int .i64 z ∧ (Lit.int .i64 z).wf = true) ∧ Fits vs bs
  | _, _ => False

theorem Fits.len {vs : List Value} {bs : List Bool} (h : Fits vs bs) : vs.length = bs.length := by
  induction vs generalizing bs with
  | nil => cases bs with
    | nil => rfl
    | cons b bs => exact h.elim
  | cons v vs ih => cases bs with
    | nil => exact h.elim
    | cons b bs => simp [ih h.2]

theorem Fits.app {vs us : List Value} {bs cs : List Bool} (h : Fits vs bs) (k : Fits us cs) : Fits (vs ++ us) (bs ++ cs) := by
  induction vs generalizing bs with
  | nil => cases bs with
    | nil => exact k
    | cons b bs => exact h.elim
  | cons v vs ih => cases bs with
    | nil => exact h.elim
    | cons b bs => exact ⟨h.1, ih h.2⟩

theorem fits_int {cs : List Value} {bs : List Bool} (h : Fits cs (false :: bs)) : ∃ z r, cs = .int .i64 z :: r ∧ (Lit.int .i64 z).wf = true ∧ Fits r bs := by
  cases cs with
  | nil => exact h.elim
  | cons v vs =>
    obtain ⟨h1, h2⟩ := h
    obtain ⟨z, rfl, hz⟩ : ∃ z, v = .int .i64 z ∧ (Lit.int .i64 z).wf = true := by simpa using h1
    exact ⟨z, vs, rfl, hz, h2⟩

theorem fits_bool {cs : List Value} {bs : List Bool} (h : Fits cs (true :: bs)) : ∃ z r, cs = .bool z :: r ∧ Fits r bs := by
  cases cs with
  | nil => exact h.elim
  | cons v vs =>
    obtain ⟨h1, h2⟩ := h
    obtain ⟨z, rfl⟩ : ∃ z, v = .bool z := by simpa using h1
    exact ⟨z, vs, rfl, h2⟩

theorem fits_nil {cs : List Value} (h : Fits cs []) : cs = [] := by
  cases cs with
  | nil => rfl
  | cons v vs => exact h.elim

section
variable {H : Type} {enc : TypeId × Value → H} {P : Program} {w : World} {base : Nat} {spare : Nat → Bool} {held : Bool}

theorem fits_fs {rec : TypeId → Option (List Bool)} {cs : List Value} (l : List Field) (off : Nat) (ks : List Bool)
    (hr : ∀ f ∈ l, ∀ k, rec f.type = some k → Fits ((cs.drop f.offset).take (P.cellsOf f.type)) k)
    (h : flatFs P rec l off = some ks) : Fits ((cs.drop off).take ks.length) ks := by
  induction l generalizing off ks with
  | nil => simp only [flatFs, Option.some.injEq] at h; subst h; simp [Fits]
  | cons f r ih =>
    simp only [flatFs] at h
    split at h
    · rename_i k hk
      split at h
      · rename_i hc
        split at h
        · rename_i rest hrest
          simp only [Option.some.injEq] at h
          subst h
          have h1 := hr f (by simp) k hk
          rw [hc.1, hc.2] at h1
          have h2 := ih (off + k.length) rest (fun g hg => hr g (by simp [hg])) hrest
          have e : (cs.drop off).take (k ++ rest).length = (cs.drop off).take k.length ++ (cs.drop (off + k.length)).take rest.length := by
            rw [List.length_append, List.take_add, List.drop_drop]
          rw [e]
          exact h1.app h2
        · cases h
      · cases h
    · cases h

theorem fits_trod (n : Nat) : ∀ {t : TypeId} {fuel : Nat} {cs : List Value} {x : DataW H × List MemPlace} {ks : List Bool},
    flatK P n t = some ks → DataW.trod enc P w base spare held fuel t cs = some x → Fits cs ks := by
  induction n with
  | zero => intro t fuel cs x ks h; cases h
  | succ n ih =>
    intro t fuel cs x ks h ht
    simp only [flatK] at h
    split at h
    · rename_i hu
      simp only [Option.some.injEq] at h
      subst h
      obtain ⟨z, rfl, _, hz⟩ := DataW.trod_int hu ht
      exact ⟨by simpa using hz, trivial⟩
    · rename_i hu
      simp only [Option.some.injEq] at h
      subst h
      obtain ⟨z, rfl, _⟩ := DataW.trod_bool hu ht
      exact ⟨by simp, trivial⟩
    · rename_i fs hu
      split at h
      · rename_i ks' hk
        split at h
        · rename_i hc
          simp only [Option.some.injEq] at h
          subst h
          obtain ⟨xs, m, _, _, hl, hlen, hf⟩ := DataW.trod_struct hu ht
          have := fits_fs (P := P) (cs := cs) fs.toList 0 _ (fun f hf' k hk' => by
            obtain ⟨i, hi, hfi⟩ := List.getElem_of_mem hf'
            have hfi' : fs[i]? = some f := by rw [← hfi]; simp [Array.getElem?_eq_getElem (by simpa using hi)]
            have h5 := hf i f hfi'
            rw [List.getElem?_eq_getElem (by rw [hlen]; simpa using hi)] at h5
            exact ih hk' h5) hk
          rw [List.drop_zero, List.take_of_length_le (by omega)] at this
          exact this
        · cases h
      · cases h
    · cases h

theorem open_flat {r : Reach} {b0 : Nat} {t : TypeId} {fs : Array Field} {v : Value} {d : DataW H} {p : List MemPlace} {ks : List Bool}
    (n : Nat) (hs : P.underlying t = some (.struct fs)) (hk : flatK P n t = some ks)
    (hv : Value.okWide P w r b0 t v) (h : DataW.Trod enc P w base spare held t v d p) : ∃ cs, v = .agg cs.toArray ∧ Fits cs ks := by
  obtain ⟨cs, rfl, hsz⟩ := okWide_struct hs hv
  obtain ⟨fuel, hf⟩ := h
  refine ⟨cs.toList, by simp, ?_⟩
  have := fits_trod n hk hf
  simpa [Value.cells] using this
end
end Go.Proofs.YtgccnmegbdlefaaDoor
