/- Proved here: a slice of bytes that came in, read as its bytes. -/
import Derived.Test.YtgccnmegbdlefaaDoorGenF
import Derived.Test.YtgccnmegbdlefaaDoorDraw2
import Derived.Deep.Slices
namespace Go.Proofs.YtgccnmegbdlefaaDoor
open Go.ChangeShapes Go.WideShapes Go.ChangeAt Go.RowKit Go.Deep
set_option linter.unusedVariables false

section
variable {H : Type} {enc : TypeId × Value → H} {P : Program} {w : World} {base : Nat} {spare : Nat → Bool} {held : Bool}
theorem open_bytes {t e : TypeId} {a : Option Addr} {len cap : Nat} {d : DataW H} {p : List MemPlace} (ht : P.underlying t = some (.slice e)) (he : P.underlying e = some (.int .u8)) (hC : P.cellsOf e = 1)
    (h : DataW.Trod enc P w base spare held t (.slice a len cap) d p) : len ≤ cap ∧ len ≤ maxLen ∧ BytesAt w a len ∧ (∀ g o, a = some ⟨g, o, none⟩ → 0 < len → g < w.heap.size) ∧ (a = none → cap = 0) := by
  obtain ⟨fuel, hf⟩ := h
  rcases open_slice ht hf with ⟨hcs, _⟩ | ⟨a', len', cap', m, n, D, Pl, hcs, _, hl, hm, hmm, _, hx⟩
  · simp [Value.cells] at hcs
    obtain ⟨rfl, rfl, rfl⟩ := hcs
    exact ⟨Nat.le_refl _, Nat.zero_le _, Or.inl rfl, fun _ _ hne => (by simp at hne), fun _ => rfl⟩
  · simp [Value.cells] at hcs
    obtain ⟨rfl, rfl, rfl⟩ := hcs
    have hlm : len ≤ m := by rw [hmm]; split <;> omega
    have hall : ∀ i, i < len → ∃ z : Int, (i = 0 → a'.spot = none) ∧ w.cell? ⟨a'.block, a'.off + i, none⟩ = some (.int .u8 z) ∧ 0 ≤ z ∧ z ≤ 255 := by
      intro i hi
      obtain ⟨cs', h1, h2⟩ := hx i (by omega)
      rw [hC] at h1
      obtain ⟨z, rfl, _, hw⟩ := DataW.trod_int he h2
      obtain ⟨_, _, hc⟩ := World.cells?_some h1
      have c0 := hc 0 (by omega)
      have hsp : (a'.add (i * 1)).spot = none := World.cell?_spot (w := w) (a := a'.add (i * 1)) (v := .int .u8 z) (by simpa [Addr.add] using c0)
      have hb : 0 ≤ z ∧ z ≤ 255 := by
        have := bounds_u8 hw
        omega
      have ha : a'.add (i * 1) = ⟨a'.block, a'.off + i, none⟩ := by
        cases a' with
        | mk g o sp =>
          simp only [Addr.add] at hsp ⊢
          split at hsp <;> simp_all
      refine ⟨z, fun h0 => ?_, ?_, hb⟩
      · subst h0
        simpa [Addr.add] using hsp
      · rw [← ha]
        simpa [Addr.add] using c0
    by_cases h0 : len = 0
    · subst h0
      exact ⟨by omega, by omega, Or.inl rfl, fun _ _ _ h => by omega, fun hne => (by simp at hne)⟩
    obtain ⟨z0, s0, c0, _⟩ := hall 0 (by omega)
    have hs := s0 rfl
    refine ⟨hl, by omega, Or.inr ⟨a'.block, a'.off, by cases a'; simp_all, fun i hi => ?_⟩, fun g o e _ => ?_, fun hne => (by simp at hne)⟩
    · obtain ⟨z, _, hz, hb⟩ := hall i hi
      exact ⟨z, hz, hb⟩
    · have e1 : a' = ⟨g, o, none⟩ := by simpa using e
      rw [e1] at c0
      rcases Nat.lt_or_ge g w.heap.size with hh | hh
      · exact hh
      · simp [World.cell?, Array.getElem?_eq_none hh] at c0
end
end Go.Proofs.YtgccnmegbdlefaaDoor
