/- Proved here: a window of a key is a key of a map: what reads as one is one; two are the same just if their numbers are. -/
import Derived.Test.YtflignpbboiahaaRows
import Derived.Test.YtflignpbboiahaaMapO
namespace Go.Proofs.Ytflignpbboiahaa
open Go.ChangeShapes Go.WideShapes Go.ChangeAt Go.RowKit Go.Maps Go.WideMaps
set_option linter.unusedVariables false

/-- A place as its three numbers. -/
abbrev P3 := Int × Int × Int
def v3 (q : P3) : Value := .agg #[.int .i64 q.1, .int .i64 q.2.1, .int .i64 q.2.2]
def ok3 (q : P3) : Prop := (Lit.int .i64 q.1).wf = true ∧ (Lit.int .i64 q.2.1).wf = true ∧ (Lit.int .i64 q.2.2).wf = true
theorem inj3 (q q' : P3) (h : v3 q = v3 q') : q = q' := by
  obtain ⟨a, b, c⟩ := q
  obtain ⟨a', b', c'⟩ := q'
  simp [v3] at h
  obtain ⟨h1, h2, h3⟩ := h
  subst h1 h2 h3
  rfl
theorem laid3 : laidOutB Try.prog = true := by kernel_rfl
theorem law3 : KeyLaw Try.prog 80 := deep_law_laid laid3 (m := 3) (by omega) (of_decide_eq_true (by kernel_rfl)) (by kernel_rfl) (by kernel_rfl)
theorem key3 : Keyed Try.prog 80 := Keyed.of_law law3
theorem keyOf3 (v : Value) : keyOf Try.prog 80 v = (if (Try.prog.keyType 80 && v.formed Try.prog 80) = true then (Try.prog.keyLits (Try.prog.types.size + 1) 80 v.cells.toList).map (fun ls => .string (keyBytes ls)) else none) := by
  unfold keyOf
  rw [Try.underlying80]
set_option maxRecDepth 100000 in
theorem some3 (q : P3) (h : ok3 q) : ∃ kl, keyOf Try.prog 80 (v3 q) = some kl := by
  obtain ⟨h1, h2, h3⟩ := h
  have hN : ∃ m, Try.prog.types.size = m + 3 := ⟨Try.prog.types.size - 3, by kernel_rfl⟩
  obtain ⟨m, hm⟩ := hN
  have c1 : Try.prog.cellsOf 80 = 3 := by kernel_rfl
  have c2 : Try.prog.cellsOf 58 = 2 := by kernel_rfl
  have c3 : Try.prog.cellsOf 3 = 1 := by kernel_rfl
  have hk : Try.prog.keyType 80 = true := by kernel_rfl
  have hf : (v3 q).formed Try.prog 80 = true := by
    simp [v3, Value.formed, Try.underlying80, c1]
  have hL : Try.prog.keyLits (m + 3 + 1) 80 [.int .i64 q.1, .int .i64 q.2.1, .int .i64 q.2.2] = some [.int .i64 q.1, .int .i64 q.2.1, .int .i64 q.2.2] := by
    simp [Try.underlying80, Try.underlying58, Try.underlying3, Program.keyLits, c1, c2, c3, h1, h2, h3]
    rw [if_pos (by decide)]
    rfl
  have e := keyOf3 (v3 q)
  rw [hk, hf, hm] at e
  simp only [Bool.and_self, ↓reduceIte] at e
  have e2 : (v3 q).cells.toList = [.int .i64 q.1, .int .i64 q.2.1, .int .i64 q.2.2] := rfl
  rw [e2, hL] at e
  exact ⟨_, e⟩
theorem lits_struct {P : Program} {d : Nat} {t : TypeId} {cs : List Value} {fs : Array Field} (h : P.underlying t = some (.struct fs)) : P.keyLits (d + 1) t cs = if cs.length = P.cellsOf t ∧ fs.all (·.name != "_") = true then (fs.toList.mapM fun f => P.keyLits d f.type ((cs.drop f.offset).take (P.cellsOf f.type))).map List.flatten else none := by
  conv => lhs; unfold Program.keyLits
  simp only [h]
theorem lit_int {P : Program} {d : Nat} {t : TypeId} {v : Value} {l : List Lit} (ht : P.underlying t = some (.int .i64)) (h : P.keyLits (d + 1) t [v] = some l) : ∃ n, v = .int .i64 n ∧ (Lit.int .i64 n).wf = true := by
  unfold Program.keyLits at h
  simp only [ht] at h
  cases v <;> simp at h
  rename_i q n
  obtain ⟨⟨rfl, hw⟩, _⟩ := h
  exact ⟨n, rfl, hw⟩
set_option maxRecDepth 100000 in
theorem inv3 (v : Value) (kl : Lit) (h : keyOf Try.prog 80 v = some kl) : ∃ q : P3, v = v3 q ∧ ok3 q := by
  have hN : ∃ m, Try.prog.types.size = m + 3 := ⟨Try.prog.types.size - 3, by kernel_rfl⟩
  obtain ⟨m, hm⟩ := hN
  have c1 : Try.prog.cellsOf 80 = 3 := by kernel_rfl
  have c2 : Try.prog.cellsOf 58 = 2 := by kernel_rfl
  have c3 : Try.prog.cellsOf 3 = 1 := by kernel_rfl
  rw [keyOf3, hm] at h
  split at h
  case isFalse => cases h
  rename_i hf
  rw [Bool.and_eq_true] at hf
  have hf2 := hf.2
  cases v <;> simp [Value.formed, Try.underlying80, c1] at hf2
  rename_i cs
  obtain ⟨l⟩ := cs
  match l, hf2 with
  | [a, b, c], _ =>
    have hL : ∃ l, Try.prog.keyLits (m + 3 + 1) 80 [a, b, c] = some l := by
      cases h9 : Try.prog.keyLits (m + 3 + 1) 80 [a, b, c] with
      | none => rw [show (Value.agg { toList := [a, b, c] }).cells.toList = [a, b, c] from rfl, h9] at h; cases h
      | some l => exact ⟨l, rfl⟩
    obtain ⟨l, hL⟩ := hL
    rw [lits_struct Try.underlying80] at hL
    simp [c1, c2, c3, lits_struct Try.underlying58] at hL
    cases ha : Try.prog.keyLits (m + 3) 3 [a] with
    | none => simp [ha] at hL
    | some la =>
      cases hb : Try.prog.keyLits (m + 2) 3 [b] with
      | none => simp [ha, hb] at hL
      | some lb =>
        cases hc : Try.prog.keyLits (m + 2) 3 [c] with
        | none => simp [ha, hb, hc] at hL
        | some lc =>
          obtain ⟨x, rfl, hx⟩ := lit_int Try.underlying3 ha
          obtain ⟨y, rfl, hy⟩ := lit_int Try.underlying3 hb
          obtain ⟨z, rfl, hz⟩ := lit_int Try.underlying3 hc
          exact ⟨(x, y, z), rfl, hx, hy, hz⟩
end Go.Proofs.Ytflignpbboiahaa
