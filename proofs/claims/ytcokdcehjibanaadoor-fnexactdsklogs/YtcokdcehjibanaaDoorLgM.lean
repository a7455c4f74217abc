/- Proved here, over lists alone: what lines of logs are read as. -/
import Derived.Test.YtcokdcehjibanaaDoorLgO
import Derived.Test.YtcokdcehjibanaaDoorItmRdS
import Derived.Test.YtcokdcehjibanaaDoorLogSpec
namespace Go.Proofs.YtcokdcehjibanaaDoor
open Go.ChangeShapes Go.WideShapes Go.ChangeAt Go.RowKit
set_option linter.unusedVariables false

def dashB : ByteArray := ⟨#[45]⟩
/-- What a line is read as: nothing; a dash; an item. -/
def LnIt (s : ByteArray) (r : Option (Option It)) : Prop := (s = dashB ∧ r = some none) ∨ (s ≠ dashB ∧ ∃ q t k v n c, ItR s q t k v n c ∧ r = if c = true ∧ q ≠ 3 then some (some ⟨q, t, k, v, n⟩) else none)
theorem itR_ex (s : ByteArray) : ∃ q t k v n c, ItR s q t k v n c := by
  by_cases h : ∃ q t k v n, okItm q t k v n = true ∧ itmTxt q t k v n = s
  · obtain ⟨q, t, k, v, n, h1, h2⟩ := h
    exact ⟨q, t, k, v, n, true, Or.inl ⟨rfl, h1, h2⟩⟩
  · exact ⟨0, 0, 0, 0, 0, false, Or.inr ⟨rfl, ⟨rfl, rfl, rfl, rfl, rfl⟩, fun q t k v n h1 h2 => h ⟨q, t, k, v, n, h1, h2⟩⟩⟩
theorem lnIt_ex (s : ByteArray) : ∃ r, LnIt s r := by
  by_cases h : s = dashB
  · exact ⟨_, Or.inl ⟨h, rfl⟩⟩
  · obtain ⟨q, t, k, v, n, c, h1⟩ := itR_ex s
    exact ⟨_, Or.inr ⟨h, q, t, k, v, n, c, h1, rfl⟩⟩
theorem LnIt.dash {s : ByteArray} {r : Option (Option It)} (h : LnIt s r) (hs : s = dashB) : r = some none := by
  rcases h with ⟨_, h⟩ | ⟨h, _⟩
  · exact h
  · exact absurd hs h
theorem LnIt.itm {s : ByteArray} {r : Option (Option It)} (h : LnIt s r) (hs : s ≠ dashB) {q t k v n : Int} {c : Bool} (hr : ItR s q t k v n c) : r = if c = true ∧ q ≠ 3 then some (some ⟨q, t, k, v, n⟩) else none := by
  rcases h with ⟨h, _⟩ | ⟨_, q', t', k', v', n', c', h1, h2⟩
  · exact absurd h hs
  · obtain ⟨rfl, rfl, rfl, rfl, rfl, rfl⟩ := ItR.same h1 hr
    exact h2
/-- What all lines are read as. -/
def LnAll (L : List ByteArray) (rs : List (Option (Option It))) : Prop := rs.length = L.length ∧ ∀ (i : Nat) (x : ByteArray) (r : Option (Option It)), L[i]? = some x → rs[i]? = some r → LnIt x r
theorem lnAll_ex : ∀ (L : List ByteArray), ∃ rs, LnAll L rs
  | [] => ⟨[], rfl, fun i x r h => by simp at h⟩
  | s :: L => by
    obtain ⟨r, hr⟩ := lnIt_ex s
    obtain ⟨rs, h1, h2⟩ := lnAll_ex L
    refine ⟨r :: rs, by simp [h1], fun i x r' hx hr' => ?_⟩
    cases i with
    | zero => simp at hx hr'; subst hx; subst hr'; exact hr
    | succ i => exact h2 i x r' (by simpa using hx) (by simpa using hr')
/-- One line more. -/
def putL (Ls : List (List It)) (r : Option It) : List (List It) := match r with
  | none => Ls ++ [[]]
  | some x => Ls.set (Ls.length - 1) ((Ls[Ls.length - 1]?).getD [] ++ [x])
/-- The lines from one on: the logs; the first line that is wrong. -/
def dRun : List (Option (Option It)) → Nat → List (List It) → List (List It) × Int
  | [], _, Ls => (Ls, 0)
  | none :: _, i, _ => ([], (i : Int) + 1)
  | some r :: rs, i, Ls => dRun rs (i + 1) (putL Ls r)
def dFin (n : Nat) (p : List (List It) × Int) : List (List It) × Int := if p.2 = 0 then (if p.1.all okLog = true then (p.1, 0) else ([], (n : Int) + 1)) else p
def dskL (rs : List (Option (Option It))) : List (List It) × Int := if 400 < rs.length then ([], 401) else dFin rs.length (dRun rs 0 [[]])
/-- What is known ahead of a line. -/
structure DInv (rs : List (Option (Option It))) (ix : Nat) (Ls : List (List It)) : Prop where
  run : dRun rs 0 [[]] = dRun (rs.drop ix) ix Ls
  pos : 0 < Ls.length
  le : Ls.length ≤ ix + 1
  les : ∀ l ∈ Ls, l.length ≤ ix
theorem DInv.start (rs : List (Option (Option It))) : DInv rs 0 [[]] := ⟨rfl, by simp, by simp, fun l hl => by simp at hl; simp [hl]⟩
theorem DInv.step {rs : List (Option (Option It))} {ix : Nat} {Ls : List (List It)} (h : DInv rs ix Ls) {r : Option It} (hr : rs[ix]? = some (some r)) : DInv rs (ix + 1) (putL Ls r) := by
  obtain ⟨hi, he⟩ := List.getElem?_eq_some_iff.1 hr
  have h1 := h.run
  have hp := h.pos
  have hle := h.le
  rw [List.drop_eq_getElem_cons hi, he] at h1
  refine ⟨h1, ?_, ?_, ?_⟩
  · unfold putL; split <;> simp <;> omega
  · unfold putL; split <;> simp <;> omega
  · intro l hl
    unfold putL at hl
    split at hl
    · rcases List.mem_append.1 hl with hl | hl
      · have := h.les l hl; omega
      · simp at hl; subst hl; simp
    · rcases List.mem_or_eq_of_mem_set hl with hl | hl
      · have := h.les l hl; omega
      · subst hl
        have : ((Ls[Ls.length - 1]?).getD []).length ≤ ix := by
          rw [List.getElem?_eq_getElem (by omega)]
          exact h.les _ (List.getElem_mem _)
        simp
        omega
theorem DInv.bad {rs : List (Option (Option It))} {ix : Nat} {Ls : List (List It)} (h : DInv rs ix Ls) (hr : rs[ix]? = some none) (hn : rs.length ≤ 400) : dskL rs = ([], (ix : Int) + 1) := by
  obtain ⟨hi, he⟩ := List.getElem?_eq_some_iff.1 hr
  have h1 := h.run
  rw [List.drop_eq_getElem_cons hi, he] at h1
  unfold dskL
  rw [if_neg (by omega), h1]
  show dFin rs.length ([], (ix : Int) + 1) = _
  unfold dFin
  rw [if_neg (by show ¬ ((ix : Int) + 1 = 0); omega)]
theorem DInv.all {rs : List (Option (Option It))} {ix : Nat} {Ls : List (List It)} (h : DInv rs ix Ls) (hx : rs.length ≤ ix) (hn : rs.length ≤ 400) : dskL rs = if Ls.all okLog = true then (Ls, 0) else ([], (rs.length : Int) + 1) := by
  have h1 := h.run
  rw [List.drop_eq_nil_of_le hx] at h1
  unfold dskL
  rw [if_neg (by omega), h1]
  rfl
theorem dskL_long {rs : List (Option (Option It))} (h : 400 < rs.length) : dskL rs = ([], 401) := if_pos h
theorem put_last {Ls : List (List It)} {l : List It} {x : It} (h : Ls[Ls.length - 1]? = some l) : putL Ls (some x) = Ls.set (Ls.length - 1) (l ++ [x]) := by
  show Ls.set _ ((Ls[Ls.length - 1]?).getD [] ++ [x]) = _
  rw [h]
  rfl
theorem all_ttL {xs : List (List It)} {k : Nat} {x : List It} (h : (xs.take k).all okLog = true) (hx : xs[k]? = some x) (hp : okLog x = true) : (xs.take (k + 1)).all okLog = true := by
  rw [List.take_add_one, hx, List.all_append, h]
  simp [hp]
theorem all_ffL {xs : List (List It)} {k : Nat} {x : List It} (hx : xs[k]? = some x) (hp : okLog x = false) : xs.all okLog = false := by
  rw [List.all_eq_false]
  exact ⟨x, List.mem_of_getElem? hx, by simp [hp]⟩
theorem dskL_len (rs : List (Option (Option It))) : (dskL rs).1.length ≤ 401 ∧ ∀ l ∈ (dskL rs).1, l.length ≤ 400 := by
  unfold dskL
  split
  · exact ⟨by simp, fun l hl => by simp at hl⟩
  · rename_i h9
    have key : ∀ (rs : List (Option (Option It))) (i : Nat) (Ls : List (List It)), Ls.length ≤ i + 1 → (∀ l ∈ Ls, l.length ≤ i) → (dRun rs i Ls).1.length ≤ i + rs.length + 1 ∧ ∀ l ∈ (dRun rs i Ls).1, l.length ≤ i + rs.length := by
      intro rs
      induction rs with
      | nil => intro i Ls h1 h2; exact ⟨by simpa [dRun] using h1, by simpa [dRun] using h2⟩
      | cons r rs ih =>
        intro i Ls h1 h2
        cases r with
        | none => exact ⟨by simp [dRun], fun l hl => by simp [dRun] at hl⟩
        | some r =>
          have := ih (i + 1) (putL Ls r) (by unfold putL; split <;> simp <;> omega) (by
            intro l hl
            unfold putL at hl
            split at hl
            · rcases List.mem_append.1 hl with hl | hl
              · have := h2 l hl; omega
              · simp at hl; subst hl; simp
            · rcases List.mem_or_eq_of_mem_set hl with hl | hl
              · have := h2 l hl; omega
              · subst hl
                have : ((Ls[Ls.length - 1]?).getD []).length ≤ i := by
                  cases hq : Ls[Ls.length - 1]? with
                  | none => simp
                  | some z => exact h2 z (List.mem_of_getElem? hq)
                simp
                omega)
          show (dRun rs (i + 1) (putL Ls r)).1.length ≤ _ ∧ ∀ l ∈ (dRun rs (i + 1) (putL Ls r)).1, _
          simp only [List.length_cons]
          exact ⟨by omega, fun l hl => by have := this.2 l hl; omega⟩
    have hk := key rs 0 [[]] (by simp) (by simp)
    unfold dFin
    split
    · split
      · exact ⟨by show (dRun rs 0 [[]]).1.length ≤ 401; omega, fun l hl => by have := hk.2 l hl; omega⟩
      · exact ⟨by simp, fun l hl => by simp at hl⟩
    · exact ⟨by omega, fun l hl => by have := hk.2 l hl; omega⟩
end Go.Proofs.YtcokdcehjibanaaDoor
