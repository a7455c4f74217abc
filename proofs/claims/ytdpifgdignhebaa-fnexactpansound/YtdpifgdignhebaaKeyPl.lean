/- Proved here: a window of a key is a key of a map: two are the same just if their numbers are. -/
import Derived.Test.YtdpifgdignhebaaRows
import Derived.Test.YtdpifgdignhebaaMapF
namespace Go.Proofs.Ytdpifgdignhebaa
open Go.ChangeShapes Go.WideShapes Go.ChangeAt Go.RowKit Go.Maps Go.WideMaps
set_option linter.unusedVariables false

/-- A window of a key. -/
structure Pl where
  ky : Int
  st : Int
  en : Int
deriving DecidableEq
def Pl.val (q : Pl) : Value := .agg #[.int .i64 q.ky, .int .i64 q.st, .int .i64 q.en]
def Pl.ok (q : Pl) : Prop := (Lit.int .i64 q.ky).wf = true ∧ (Lit.int .i64 q.st).wf = true ∧ (Lit.int .i64 q.en).wf = true
theorem Pl.inj (q q' : Pl) (h : q.val = q'.val) : q = q' := by
  cases q; cases q'
  simp [Pl.val] at h
  obtain ⟨h1, h2, h3⟩ := h
  subst h1 h2 h3
  rfl
theorem laidK : laidOutB Try.prog = true := by kernel_rfl
theorem keyPl : Keyed Try.prog 86 := Keyed.of_law (deep_law_laid laidK (m := 3) (by omega) (of_decide_eq_true (by kernel_rfl)) (by kernel_rfl) (by kernel_rfl))
theorem keyPl_some (q : Pl) (h : q.ok) : ∃ kl, keyOf Try.prog 86 q.val = some kl := by
  obtain ⟨h1, h2, h3⟩ := h
  have hN : ∃ m, Try.prog.types.size = m + 3 := ⟨Try.prog.types.size - 3, by kernel_rfl⟩
  obtain ⟨m, hm⟩ := hN
  have c1 : Try.prog.cellsOf 86 = 3 := by kernel_rfl
  have c2 : Try.prog.cellsOf 33 = 2 := by kernel_rfl
  have c3 : Try.prog.cellsOf 3 = 1 := by kernel_rfl
  have hk : Try.prog.keyType 86 = true := by kernel_rfl
  have hf : q.val.formed Try.prog 86 = true := by
    simp [Pl.val, Value.formed, Try.underlying86, c1]
  have hL : Try.prog.keyLits (m + 3 + 1) 86 [.int .i64 q.ky, .int .i64 q.st, .int .i64 q.en] = some [.int .i64 q.ky, .int .i64 q.st, .int .i64 q.en] := by
    simp [Try.underlying86, Try.underlying33, Try.underlying3, Program.keyLits, c1, c2, c3, h1, h2, h3]
    rw [if_pos (by decide)]
    rfl
  have e : keyOf Try.prog 86 q.val = (if (Try.prog.keyType 86 && q.val.formed Try.prog 86) = true then (Try.prog.keyLits (Try.prog.types.size + 1) 86 q.val.cells.toList).map (fun ls => .string (keyBytes ls)) else none) := by
    unfold keyOf
    rw [Try.underlying86]
  rw [e, hk, hf, hm]
  simp only [Bool.and_self, ↓reduceIte]
  have e2 : q.val.cells.toList = [.int .i64 q.ky, .int .i64 q.st, .int .i64 q.en] := rfl
  rw [e2, hL]
  exact ⟨_, rfl⟩
end Go.Proofs.Ytdpifgdignhebaa
