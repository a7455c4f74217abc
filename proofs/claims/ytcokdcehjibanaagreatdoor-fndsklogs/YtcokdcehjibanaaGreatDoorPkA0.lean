/- Laid together: texts that were built one by one. -/
import Derived.Test.YtcokdcehjibanaaGreatDoorGenA
import Derived.Test.YtcokdcehjibanaaGreatDoorDraw2
import Derived.Deep.Slices
import Derived.Test.YtcokdcehjibanaaGreatDoorLogImpl
import Derived.OwnWalk
import Derived.Laws.OwnMore
import Derived.Test.YtcokdcehjibanaaGreatDoorRows
import Derived.Lib.SmallJoins
import Derived.WalkSpells
import Derived.Deep.RegionHeld3
import Derived.Test.YtcokdcehjibanaaGreatDoorItmRdS
import Derived.Test.YtcokdcehjibanaaGreatDoorLogSpec
import Derived.Test.YtcokdcehjibanaaGreatDoorLogEq
import Derived.BigQuiet
import Derived.Test.YtcokdcehjibanaaGreatDoorRwStr
import Derived.Test.YtcokdcehjibanaaGreatDoorWinText
import Derived.Deep.RegionLawGrows
import Derived.Deep.Onto
import Derived.Test.YtcokdcehjibanaaGreatDoorWordsS
import Derived.ChangeArms
import Derived.Maps.AppendAt
import Derived.OrdersHeld
/- Proved here, for any program: a struct by value whose fields are ints, bools and such structs again is the list of these, in order. Conditions: each field stands behind the one ahead of it. -/
namespace Go.Proofs.YtcokdcehjibanaaGreatDoor
open Go.ChangeShapes Go.WideShapes Go.ChangeAt Go.RowKit Go.Deep
set_option linter.unusedVariables false

/-- The cells of a list of fields, from a place on: false for an int, true for a bool. -/
def flatFs (P : Program) (rec : TypeId → Option (List Bool)) : List Field → Nat → Option (List Bool)
  | [], _ => some []
  | f :: r, off => match rec f.type with
    | some ks => if f.offset = off ∧ P.cellsOf f.type = ks.length then
        match flatFs P rec r (off + ks.length) with
        | some rest => some (ks ++ rest)
        | none => none
      else none
    | none => none

def flatK (P : Program) : Nat → TypeId → Option (List Bool)
  | 0, _ => none
  | n + 1, t => match P.underlying t with
    | some (.int .i64) => some [false]
    | some .bool => some [true]
    | some (.struct fs) => match flatFs P (flatK P n) fs.toList 0 with
      | some ks => if P.cellsOf t = ks.length then some ks else none
      | none => none
    | _ => none

/-- Cells that are ints and bools, as asked. -/
def Fits : List Value → List Bool → Prop
  | [], [] => True
  | v :: vs, b :: bs => (if b = true then ∃ x, v = .bool x else ∃ z, v = .int .i64 z ∧ (Lit.int .i64 z).wf = true) ∧ Fits vs bs
  | _, _ => False

theorem Fits.len {vs : List Value} {bs : List Bool} (h : Fits vs bs) : vs.length = bs.length := by
  induction vs generalizing bs with
  | nil => cases bs with
    | nil => rfl
    | cons b bs => exact h.elim
  | cons v vs ih => cases bs with
    | nil => exact h.elim
    | cons b bs => simp [ih h.2]

theorem Fits.app {vs us : List Value} {bs cs : List Bool} (h : Fits vs bs) (k : Fits us cs) : Fits (vs ++ us) (bs ++ cs) := by
  induction vs generalizing bs with
  | nil => cases bs with
    | nil => exact k
    | cons b bs => exact h.elim
  | cons v vs ih => cases bs with
    | nil => exact h.elim
    | cons b bs => exact ⟨h.1, ih h.2⟩

theorem fits_int {cs : List Value} {bs : List Bool} (h : Fits cs (false :: bs)) : ∃ z r, cs = .int .i64 z :: r ∧ (Lit.int .i64 z).wf = true ∧ Fits r bs := by
  cases cs with
  | nil => exact h.elim
  | cons v vs =>
    obtain ⟨h1, h2⟩ := h
    obtain ⟨z, rfl, hz⟩ : ∃ z, v = .int .i64 z ∧ (Lit.int .i64 z).wf = true := by simpa using h1
    exact ⟨z, vs, rfl, hz, h2⟩

theorem fits_bool {cs : List Value} {bs : List Bool} (h : Fits cs (true :: bs)) : ∃ z r, cs = .bool z :: r ∧ Fits r bs := by
  cases cs with
  | nil => exact h.elim
  | cons v vs =>
    obtain ⟨h1, h2⟩ := h
    obtain ⟨z, rfl⟩ : ∃ z, v = .bool z := by simpa using h1
    exact ⟨z, vs, rfl, h2⟩

theorem fits_nil {cs : List Value} (h : Fits cs []) : cs = [] := by
  cases cs with
  | nil => rfl
  | cons v vs => exact h.elim

section
variable {H : Type} {enc : TypeId × Value → H} {P : Program} {w : World} {base : Nat} {spare : Nat → Bool} {held : Bool}

theorem fits_fs {rec : TypeId → Option (List Bool)} {cs : List Value} (l : List Field) (off : Nat) (ks : List Bool)
    (hr : ∀ f ∈ l, ∀ k, rec f.type = some k → Fits ((cs.drop f.offset).take (P.cellsOf f.type)) k)
    (h : flatFs P rec l off = some ks) : Fits ((cs.drop off).take ks.length) ks := by
  induction l generalizing off ks with
  | nil => simp only [flatFs, Option.some.injEq] at h; subst h; simp [Fits]
  | cons f r ih =>
    simp only [flatFs] at h
    split at h
    · rename_i k hk
      split at h
      · rename_i hc
        split at h
        · rename_i rest hrest
          simp only [Option.some.injEq] at h
          subst h
          have h1 := hr f (by simp) k hk
          rw [hc.1, hc.2] at h1
          have h2 := ih (off + k.length) rest (fun g hg => hr g (by simp [hg])) hrest
          have e : (cs.drop off).take (k ++ rest).length = (cs.drop off).take k.length ++ (cs.drop (off + k.length)).take rest.length := by
            rw [List.length_append, List.take_add, List.drop_drop]
          rw [e]
          exact h1.app h2
        · cases h
      · cases h
    · cases h

theorem fits_trod (n : Nat) : ∀ {t : TypeId} {fuel : Nat} {cs : List Value} {x : DataW H × List MemPlace} {ks : List Bool},
    flatK P n t = some ks → DataW.trod enc P w base spare held fuel t cs = some x → Fits cs ks := by
  induction n with
  | zero => intro t fuel cs x ks h; cases h
  | succ n ih =>
    intro t fuel cs x ks h ht
    simp only [flatK] at h
    split at h
    · rename_i hu
      simp only [Option.some.injEq] at h
      subst h
      obtain ⟨z, rfl, _, hz⟩ := DataW.trod_int hu ht
      exact ⟨by simpa using hz, trivial⟩
    · rename_i hu
      simp only [Option.some.injEq] at h
      subst h
      obtain ⟨z, rfl, _⟩ := DataW.trod_bool hu ht
      exact ⟨by simp, trivial⟩
    · rename_i fs hu
      split at h
      · rename_i ks' hk
        split at h
        · rename_i hc
          simp only [Option.some.injEq] at h
          subst h
          obtain ⟨xs, m, _, _, hl, hlen, hf⟩ := DataW.trod_struct hu ht
          have := fits_fs (P := P) (cs := cs) fs.toList 0 _ (fun f hf' k hk' => by
            obtain ⟨i, hi, hfi⟩ := List.getElem_of_mem hf'
            have hfi' : fs[i]? = some f := by rw [← hfi]; simp [Array.getElem?_eq_getElem (by simpa using hi)]
            have h5 := hf i f hfi'
            rw [List.getElem?_eq_getElem (by rw [hlen]; simpa using hi)] at h5
            exact ih hk' h5) hk
          rw [List.drop_zero, List.take_of_length_le (by omega)] at this
          exact this
        · cases h
      · cases h
    · cases h

theorem open_flat {r : Reach} {b0 : Nat} {t : TypeId} {fs : Array Field} {v : Value} {d : DataW H} {p : List MemPlace} {ks : List Bool}
    (n : Nat) (hs : P.underlying t = some (.struct fs)) (hk : flatK P n t = some ks)
    (hv : Value.okWide P w r b0 t v) (h : DataW.Trod enc P w base spare held t v d p) : ∃ cs, v = .agg cs.toArray ∧ Fits cs ks := by
  obtain ⟨cs, rfl, hsz⟩ := okWide_struct hs hv
  obtain ⟨fuel, hf⟩ := h
  refine ⟨cs.toList, by simp, ?_⟩
  have := fits_trod n hk hf
  simpa [Value.cells] using this
end
end Go.Proofs.YtcokdcehjibanaaGreatDoor
/- Proved here: a slice of bytes that came in, read as its bytes. -/
namespace Go.Proofs.YtcokdcehjibanaaGreatDoor
open Go.ChangeShapes Go.WideShapes Go.ChangeAt Go.RowKit Go.Deep
set_option linter.unusedVariables false

section
variable {H : Type} {enc : TypeId × Value → H} {P : Program} {w : World} {base : Nat} {spare : Nat → Bool} {held : Bool}
theorem open_bytes {t e : TypeId} {a : Option Addr} {len cap : Nat} {d : DataW H} {p : List MemPlace} (ht : P.underlying t = some (.slice e)) (he : P.underlying e = some (.int .u8)) (hC : P.cellsOf e = 1)
    (h : DataW.Trod enc P w base spare held t (.slice a len cap) d p) : len ≤ cap ∧ len ≤ maxLen ∧ BytesAt w a len ∧ (∀ g o, a = some ⟨g, o, none⟩ → 0 < len → g < w.heap.size) ∧ (a = none → cap = 0) := by
  obtain ⟨fuel, hf⟩ := h
  rcases open_slice ht hf with ⟨hcs, _⟩ | ⟨a', len', cap', m, n, D, Pl, hcs, _, hl, hm, hmm, _, hx⟩
  · simp [Value.cells] at hcs
    obtain ⟨rfl, rfl, rfl⟩ := hcs
    exact ⟨Nat.le_refl _, Nat.zero_le _, Or.inl rfl, fun _ _ hne => (by simp at hne), fun _ => rfl⟩
  · simp [Value.cells] at hcs
    obtain ⟨rfl, rfl, rfl⟩ := hcs
    have hlm : len ≤ m := by rw [hmm]; split <;> omega
    have hall : ∀ i, i < len → ∃ z : Int, (i = 0 → a'.spot = none) ∧ w.cell? ⟨a'.block, a'.off + i, none⟩ = some (.int .u8 z) ∧ 0 ≤ z ∧ z ≤ 255 := by
      intro i hi
      obtain ⟨cs', h1, h2⟩ := hx i (by omega)
      rw [hC] at h1
      obtain ⟨z, rfl, _, hw⟩ := DataW.trod_int he h2
      obtain ⟨_, _, hc⟩ := World.cells?_some h1
      have c0 := hc 0 (by omega)
      have hsp : (a'.add (i * 1)).spot = none := World.cell?_spot (w := w) (a := a'.add (i * 1)) (v := .int .u8 z) (by simpa [Addr.add] using c0)
      have hb : 0 ≤ z ∧ z ≤ 255 := by
        have := bounds_u8 hw
        omega
      have ha : a'.add (i * 1) = ⟨a'.block, a'.off + i, none⟩ := by
        cases a' with
        | mk g o sp =>
          simp only [Addr.add] at hsp ⊢
          split at hsp <;> simp_all
      refine ⟨z, fun h0 => ?_, ?_, hb⟩
      · subst h0
        simpa [Addr.add] using hsp
      · rw [← ha]
        simpa [Addr.add] using c0
    by_cases h0 : len = 0
    · subst h0
      exact ⟨by omega, by omega, Or.inl rfl, fun _ _ _ h => by omega, fun hne => (by simp at hne)⟩
    obtain ⟨z0, s0, c0, _⟩ := hall 0 (by omega)
    have hs := s0 rfl
    refine ⟨hl, by omega, Or.inr ⟨a'.block, a'.off, by cases a'; simp_all, fun i hi => ?_⟩, fun g o e _ => ?_, fun hne => (by simp at hne)⟩
    · obtain ⟨z, _, hz, hb⟩ := hall i hi
      exact ⟨z, hz, hb⟩
    · have e1 : a' = ⟨g, o, none⟩ := by simpa using e
      rw [e1] at c0
      rcases Nat.lt_or_ge g w.heap.size with hh | hh
      · exact hh
      · simp [World.cell?, Array.getElem?_eq_none hh] at c0
end
end Go.Proofs.YtcokdcehjibanaaGreatDoor
/- Proved here: the records of a log that the specification tells, in new memory. -/
namespace Go.Proofs.YtcokdcehjibanaaGreatDoor
open Go.ChangeShapes Go.WideShapes Go.ChangeAt Go.RowKit
set_option linter.unusedVariables false

/-- The cells of items. -/
def It.cells (x : It) : List Value := [.int .i64 x.q, .int .i64 x.t, .int .i64 x.k, .int .i64 x.v, .int .i64 x.n]
def flat (xs : List It) : List Value := xs.flatMap It.cells
theorem flat_snoc (xs : List It) (x : It) : flat (xs ++ [x]) = flat xs ++ x.cells := by simp [flat]
theorem flat_len (xs : List It) : (flat xs).length = xs.length * 5 := by
  induction xs with
  | nil => rfl
  | cons x r ih => show (x.cells ++ flat r).length = _; rw [List.length_append, ih]; simp [It.cells]; omega
theorem flat_get {xs : List It} {i : Nat} {x : It} (h : xs[i]? = some x) : (flat xs)[i * 5]? = some (.int .i64 x.q) ∧ (flat xs)[i * 5 + 1]? = some (.int .i64 x.t) ∧ (flat xs)[i * 5 + 2]? = some (.int .i64 x.k) ∧ (flat xs)[i * 5 + 3]? = some (.int .i64 x.v) ∧ (flat xs)[i * 5 + 4]? = some (.int .i64 x.n) := by
  induction xs generalizing i with
  | nil => simp at h
  | cons y r ih =>
    have hf : flat (y :: r) = y.cells ++ flat r := rfl
    cases i with
    | zero =>
      simp at h
      subst h
      rw [hf]
      exact ⟨rfl, rfl, rfl, rfl, rfl⟩
    | succ i =>
      simp at h
      obtain ⟨h0, h1, h2, h3, h4⟩ := ih h
      have hl : y.cells.length = 5 := rfl
      rw [hf]
      refine ⟨?_, ?_, ?_, ?_, ?_⟩
      · rw [List.getElem?_append_right (by omega), hl, show (i + 1) * 5 - 5 = i * 5 by omega]; exact h0
      · rw [List.getElem?_append_right (by omega), hl, show (i + 1) * 5 + 1 - 5 = i * 5 + 1 by omega]; exact h1
      · rw [List.getElem?_append_right (by omega), hl, show (i + 1) * 5 + 2 - 5 = i * 5 + 2 by omega]; exact h2
      · rw [List.getElem?_append_right (by omega), hl, show (i + 1) * 5 + 3 - 5 = i * 5 + 3 by omega]; exact h3
      · rw [List.getElem?_append_right (by omega), hl, show (i + 1) * 5 + 4 - 5 = i * 5 + 4 by omega]; exact h4

/-- A slice of the call's own holds items. -/
def OwnIts (W : World) (B : Nat) (v : Value) (ys : List It) : Prop := W.ownsRow B 45 5 v ys.length (flat ys)
theorem own_ge {W : World} {B : Nat} {v : Value} {ys : List It} (h : OwnIts W B v ys) : ∀ k, v.ownBlock = some k → B ≤ k := by
  intro k hk
  rcases h.2 with ⟨rfl, _⟩ | ⟨g, cap, cur, rfl, hg, _⟩
  · cases hk
  · simp [Value.ownBlock] at hk; omega

/-- The records that are not too small. -/
def isRec (least : Int) (x : It) : Bool := x.q == 1 && decide (least ≤ x.v)
def recs (least : Int) (xs : List It) : List It := xs.filter (isRec least)
theorem recs_snoc (least : Int) (xs : List It) (x : It) : recs least (xs ++ [x]) = if isRec least x = true then recs least xs ++ [x] else recs least xs := by
  unfold recs
  rw [List.filter_append]
  cases h : isRec least x <;> simp [h]
theorem recs_take {least : Int} {xs : List It} {k : Nat} {x : It} (h : xs[k]? = some x) : recs least (xs.take (k + 1)) = if isRec least x = true then recs least (xs.take k) ++ [x] else recs least (xs.take k) := by
  rw [take_snoc h, recs_snoc]
theorem recs_len (least : Int) (xs : List It) (k : Nat) : (recs least (xs.take k)).length ≤ k := Nat.le_trans (List.length_filter_le _ _) (List.length_take_le _ _)

/-- One item more. -/
theorem own_step {least : Int} {xs : List It} {k : Nat} {x : It} {w1 : World} {B : Nat} {v' : Value} (h : xs[k]? = some x) (hr : isRec least x = true)
    (ho : w1.ownsRow B 45 5 v' ((recs least (xs.take k)).length + 1) (flat (recs least (xs.take k)) ++ x.cells)) : OwnIts w1 B v' (recs least (xs.take (k + 1))) := by
  unfold OwnIts
  rw [recs_take h, if_pos hr, flat_snoc]
  simpa using ho
theorem own_skip {least : Int} {xs : List It} {k : Nat} {x : It} {w1 : World} {B : Nat} {v : Value} (h : xs[k]? = some x) (hr : isRec least x = false) (ho : OwnIts w1 B v (recs least (xs.take k))) : OwnIts w1 B v (recs least (xs.take (k + 1))) := by
  rw [recs_take h, if_neg (by simp [hr])]; exact ho

theorem cells_new5 (w : World) (q t k v n : Int) (ty : Nat) : ∀ j u, ([.int .i64 q, .int .i64 t, .int .i64 k, .int .i64 v, .int .i64 n] : List Value)[j]? = some u → (w.alloc (.cells #[.int .i64 q, .int .i64 t, .int .i64 k, .int .i64 v, .int .i64 n] ty)).cell? ((⟨w.heap.size, 0, none⟩ : Addr).add j) = some u := by
  intro j u hj
  have e : ((⟨w.heap.size, 0, none⟩ : Addr).add j) = ⟨w.heap.size, j, none⟩ := by
    unfold Addr.add
    split
    · rename_i h0; rw [h0]
    · simp
  rw [e]
  simpa [go_sem] using hj
end Go.Proofs.YtcokdcehjibanaaGreatDoor
/- Proved here: items in a slice of the call's own: a shorter slice, one item stored, read as items, appended behind others. -/
namespace Go.Proofs.YtcokdcehjibanaaGreatDoor
open Go.ChangeShapes Go.WideShapes Go.ChangeAt Go.RowKit
set_option linter.unusedVariables false

theorem flat_take (xs : List It) (k : Nat) : flat (xs.take k) = (flat xs).take (k * 5) := by
  induction xs generalizing k with
  | nil => simp [flat]
  | cons y r ih =>
    cases k with
    | zero => simp [flat]
    | succ k =>
      have hf : flat (y :: r) = y.cells ++ flat r := rfl
      have hf2 : flat (y :: r.take k) = y.cells ++ flat (r.take k) := rfl
      rw [List.take_succ_cons, hf, hf2, ih, List.take_append]
      have hl : y.cells.length = 5 := rfl
      rw [hl, List.take_of_length_le (l := y.cells) (by rw [hl]; omega), show (k + 1) * 5 - 5 = k * 5 by omega]
theorem flat_drop (xs : List It) (k : Nat) : flat (xs.drop k) = (flat xs).drop (k * 5) := by
  induction xs generalizing k with
  | nil => simp [flat]
  | cons y r ih =>
    cases k with
    | zero => simp [flat]
    | succ k =>
      have hf : flat (y :: r) = y.cells ++ flat r := rfl
      have hl : y.cells.length = 5 := rfl
      rw [List.drop_succ_cons, hf, ih, List.drop_append, hl, show y.cells.drop ((k + 1) * 5) = [] from List.drop_eq_nil_of_le (by rw [hl]; omega), show (k + 1) * 5 - 5 = k * 5 by omega, List.nil_append]
theorem flat_app (xs ys : List It) : flat (xs ++ ys) = flat xs ++ flat ys := by simp [flat]
theorem flat_one (xs : List It) : ∀ u ∈ flat xs, u.oneCell' = true := by
  intro u hu
  simp only [flat, List.mem_flatMap] at hu
  obtain ⟨x, _, hx⟩ := hu
  simp only [It.cells, List.mem_cons, List.not_mem_nil, or_false] at hx
  rcases hx with rfl | rfl | rfl | rfl | rfl <;> rfl
theorem flat_set (xs : List It) (k : Nat) (x : It) : (((((flat xs).set (k * 5) (.int .i64 x.q)).set (k * 5 + 1) (.int .i64 x.t)).set (k * 5 + 2) (.int .i64 x.k)).set (k * 5 + 3) (.int .i64 x.v)).set (k * 5 + 4) (.int .i64 x.n) = flat (xs.set k x) := by
  induction xs generalizing k with
  | nil => simp [flat]
  | cons y r ih =>
    have hf : flat (y :: r) = y.cells ++ flat r := rfl
    cases k with
    | zero => rfl
    | succ k =>
      have hf2 : flat (y :: r.set k x) = y.cells ++ flat (r.set k x) := rfl
      have hl : y.cells.length = 5 := rfl
      rw [List.set_cons_succ, hf, hf2, ← ih]
      rw [List.set_append_right _ _ (by rw [hl]; omega), List.set_append_right _ _ (by rw [hl]; omega), List.set_append_right _ _ (by rw [hl]; omega), List.set_append_right _ _ (by rw [hl]; omega), List.set_append_right _ _ (by rw [hl]; omega), hl]
      rw [show (k + 1) * 5 - 5 = k * 5 by omega, show (k + 1) * 5 + 1 - 5 = k * 5 + 1 by omega, show (k + 1) * 5 + 2 - 5 = k * 5 + 2 by omega, show (k + 1) * 5 + 3 - 5 = k * 5 + 3 by omega, show (k + 1) * 5 + 4 - 5 = k * 5 + 4 by omega]
theorem own_form {W : World} {B : Nat} {v : Value} {xs : List It} (h : OwnIts W B v xs) (hp : 1 ≤ xs.length) : ∃ g cp, v = .slice (some ⟨g, 0, none⟩) xs.length cp ∧ B ≤ g ∧ g < W.heap.size ∧ xs.length ≤ cp := by
  rcases h.2 with ⟨rfl, h0⟩ | ⟨g, cap, cur, rfl, hB, hblk, hc, _⟩
  · omega
  · exact ⟨g, cap, rfl, hB, (Array.getElem?_eq_some_iff.1 hblk).1, hc⟩
theorem own_take {W : World} {B g cp : Nat} {xs : List It} (h : OwnIts W B (.slice (some ⟨g, 0, none⟩) xs.length cp) xs) (k : Nat) (hk : k ≤ xs.length) : OwnIts W B (.slice (some ⟨g, 0, none⟩) k cp) (xs.take k) := by
  have hl : (xs.take k).length = k := by simp; omega
  unfold OwnIts
  rw [hl]
  refine ⟨by rw [flat_len, hl], ?_⟩
  rcases h.2 with ⟨h', _⟩ | ⟨g', cap, cur, h', hB, hblk, hc, hm, hs, ht⟩
  · simp at h'
  · simp only [Value.slice.injEq, Option.some.injEq, Addr.mk.injEq, and_true, true_and] at h'
    obtain ⟨rfl, rfl⟩ := h'
    refine Or.inr ⟨g, cp, cur, rfl, hB, hblk, by omega, hm, hs, ?_⟩
    rw [flat_take, ← ht, List.take_take, Nat.min_eq_left (by omega)]
theorem own_put {W : World} {B g cp n : Nat} {xs : List It} (h : OwnIts W B (.slice (some ⟨g, 0, none⟩) n cp) xs) (hn : xs.length = n) (k : Nat) (x : It) : OwnIts (((((W.setCell ⟨g, k * 5, none⟩ (.int .i64 x.q)).setCell ⟨g, k * 5 + 1, none⟩ (.int .i64 x.t)).setCell ⟨g, k * 5 + 2, none⟩ (.int .i64 x.k)).setCell ⟨g, k * 5 + 3, none⟩ (.int .i64 x.v)).setCell ⟨g, k * 5 + 4, none⟩ (.int .i64 x.n)) B (.slice (some ⟨g, 0, none⟩) n cp) (xs.set k x) := by
  subst hn
  have hl : (xs.set k x).length = xs.length := by simp
  unfold OwnIts
  rw [hl, ← flat_set]
  exact (World.ownsRow.stored (World.ownsRow.stored (World.ownsRow.stored (World.ownsRow.stored (World.ownsRow.stored h _ _).1 _ _).1 _ _).1 _ _).1 _ _).1
theorem own_cells {W : World} {B g cp n : Nat} {xs : List It} (h : OwnIts W B (.slice (some ⟨g, 0, none⟩) n cp) xs) (hn : xs.length = n) {k : Nat} (hk : k < n) : (∃ u, W.cell? ⟨g, k * 5, none⟩ = some u) ∧ (∃ u, W.cell? ⟨g, k * 5 + 1, none⟩ = some u) ∧ (∃ u, W.cell? ⟨g, k * 5 + 2, none⟩ = some u) ∧ (∃ u, W.cell? ⟨g, k * 5 + 3, none⟩ = some u) ∧ (∃ u, W.cell? ⟨g, k * 5 + 4, none⟩ = some u) := by
  subst hn
  have hat : ∀ j, j < xs.length * 5 → ∃ u, W.cell? ⟨g, j, none⟩ = some u := fun j hj => by
    rw [World.ownsRow.cellAt h j hj]
    exact ⟨_, List.getElem?_eq_getElem (by rw [flat_len]; exact hj)⟩
  exact ⟨hat _ (by omega), hat _ (by omega), hat _ (by omega), hat _ (by omega), hat _ (by omega)⟩
theorem own_frozen {W : World} {B g cp n : Nat} {xs : List It} (h : OwnIts W B (.slice (some ⟨g, 0, none⟩) n cp) xs) (hn : xs.length = n) (j : Nat) : W.frozen? ⟨g, j, none⟩ = false := by
  subst hn
  exact World.ownsRow.frozenAt h j
theorem own_its {W : World} {B : Nat} {v : Value} {xs : List It} (h : OwnIts W B v xs) (hm : xs.length ≤ maxLen) : ∃ a1 cap1, v = .slice a1 xs.length cap1 ∧ Its W a1 xs.length xs := by
  rcases h.2 with ⟨rfl, h0⟩ | ⟨g, cap, cur, rfl, hB, hblk, hc, _⟩
  · exact ⟨none, 0, by rw [h0], rfl, hm, Or.inl h0⟩
  · refine ⟨_, cap, rfl, rfl, hm, Or.inr ⟨g, 0, rfl, fun i x hx => ?_⟩⟩
    have hi : i < xs.length := by
      rcases Nat.lt_or_ge i xs.length with h' | h'
      · exact h'
      · rw [List.getElem?_eq_none h'] at hx; cases hx
    obtain ⟨h0, h1, h2, h3, h4⟩ := flat_get hx
    have hat : ∀ j, j < xs.length * 5 → W.cell? ⟨g, j, none⟩ = (flat xs)[j]? := fun j hj => World.ownsRow.cellAt h j hj
    refine ⟨?_, ?_, ?_, ?_, ?_⟩
    · rw [show 0 + i * 5 = i * 5 by omega, hat _ (by omega)]; exact h0
    · rw [show 0 + i * 5 + 1 = i * 5 + 1 by omega, hat _ (by omega)]; exact h1
    · rw [show 0 + i * 5 + 2 = i * 5 + 2 by omega, hat _ (by omega)]; exact h2
    · rw [show 0 + i * 5 + 3 = i * 5 + 3 by omega, hat _ (by omega)]; exact h3
    · rw [show 0 + i * 5 + 4 = i * 5 + 4 by omega, hat _ (by omega)]; exact h4
/-- The cells of such a slice, from one of its items on. -/
theorem own_news {W : World} {B g cp n : Nat} {xs : List It} (h : OwnIts W B (.slice (some ⟨g, 0, none⟩) n cp) xs) (hn : xs.length = n) (k : Nat) : ∀ j u, (flat (xs.drop k))[j]? = some u → W.cell? ((⟨g, k * 5, none⟩ : Addr).add j) = some u := by
  subst hn
  intro j u hu
  have e : ((⟨g, k * 5, none⟩ : Addr).add j) = ⟨g, k * 5 + j, none⟩ := by
    unfold Addr.add
    split
    · rename_i h0; rw [h0]; rfl
    · rfl
  rw [flat_drop, List.getElem?_drop] at hu
  have hj : k * 5 + j < xs.length * 5 := by
    rcases Nat.lt_or_ge (k * 5 + j) (flat xs).length with h' | h'
    · rw [flat_len] at h'; exact h'
    · rw [List.getElem?_eq_none h'] at hu; cases hu
  rw [e, World.ownsRow.cellAt h _ hj]
  exact hu
theorem own_news_take {W : World} {B g cp n : Nat} {xs : List It} (h : OwnIts W B (.slice (some ⟨g, 0, none⟩) n cp) xs) (hn : xs.length = n) (k : Nat) : ∀ j u, (flat (xs.take k))[j]? = some u → W.cell? ((⟨g, 0, none⟩ : Addr).add j) = some u := by
  intro j u hu
  refine own_news h hn 0 j u ?_ |> (fun h => by simpa using h)
  rw [List.drop_zero]
  rw [flat_take, List.getElem?_take] at hu
  split at hu
  · exact hu
  · cases hu
end Go.Proofs.YtcokdcehjibanaaGreatDoor
/- Proved here, for any program: a slice of the call's own stays so where older memory stays as it is. -/
namespace Go.Proofs.YtcokdcehjibanaaGreatDoor
open Go.ChangeShapes Go.WideShapes Go.ChangeAt Go.RowKit
set_option linter.unusedVariables false

theorem ownBel {W W' : World} {B : Nat} {e : TypeId} {size n : Nat} {v : Value} {xs : List Value} (h : W.ownsRow B e size v n xs) (hb : Below W.heap.size W W') : W'.ownsRow B e size v n xs := by
  rcases h with ⟨hl, h | ⟨g, cap, cur, hv, hB, hblk, r⟩⟩
  · exact ⟨hl, Or.inl h⟩
  · exact ⟨hl, Or.inr ⟨g, cap, cur, hv, hB, (hb.block g (Array.getElem?_eq_some_iff.1 hblk).1).trans hblk, r⟩⟩
theorem belDrew {B : Nat} {W W' : World} (h : Below B W W') (n : Nat) : Below B W (W'.drewN n) := h.trans ⟨rfl, rfl, rfl, Nat.le_refl _, fun _ _ => rfl⟩

theorem ownLit {W : World} {B g : Nat} (ty k : Nat) (h : B ≤ W.heap.size) (hg : g = W.heap.size) : (W.alloc (.cells #[] ty)).ownsRow B ty k (.slice (some ⟨g, 0, none⟩) 0 0) 0 [] := by
  subst hg
  exact World.ownsRow_lit (base := B) (size := k) W #[] 0 h (Nat.zero_le _) (by simp)
end Go.Proofs.YtcokdcehjibanaaGreatDoor
/- Proved here, for any program: the cells of two boxes of 5 stay as they are. -/
namespace Go.Proofs.YtcokdcehjibanaaGreatDoor
open Go.ChangeShapes Go.WideShapes Go.ChangeAt Go.RowKit
set_option linter.unusedVariables false

end Go.Proofs.YtcokdcehjibanaaGreatDoor
/- Proved here: the laws' comparison of small structs with themselves, and the copy of an item. -/
namespace Go.Proofs.YtcokdcehjibanaaGreatDoor
open Go.ChangeShapes Go.WideShapes Go.ChangeAt Go.RowKit
set_option linter.unusedVariables false

end Go.Proofs.YtcokdcehjibanaaGreatDoor
/- Proved here, for any program: a slice of structs of 5 ints as a list of rows in memory: kept, filled, owned, told to be the same, marked and found again. -/
namespace Go.Proofs.YtcokdcehjibanaaGreatDoor
open Go.ChangeShapes Go.WideShapes Go.ChangeAt Go.RowKit
set_option linter.unusedVariables false

/-- A row of 5 numbers. -/
structure IwR where
  kd : Int
  tm : Int
  ke : Int
  va : Int
  nn : Int
/-- A row lies in its cells; rows lie one behind the other; a slice's value holds rows. -/
def IwRAt (W : World) (g o : Nat) (x : IwR) : Prop := W.cell? ⟨g, o, none⟩ = some (.int .i64 x.kd) ∧ W.cell? ⟨g, o + 1, none⟩ = some (.int .i64 x.tm) ∧ W.cell? ⟨g, o + 2, none⟩ = some (.int .i64 x.ke) ∧ W.cell? ⟨g, o + 3, none⟩ = some (.int .i64 x.va) ∧ W.cell? ⟨g, o + 4, none⟩ = some (.int .i64 x.nn)
def IwRsAt (W : World) (g o : Nat) (xs : List IwR) : Prop := ∀ i x, xs[i]? = some x → IwRAt W g (o + i * 5) x
def IwRs (W : World) (a : Option Addr) (len : Nat) (xs : List IwR) : Prop := xs.length = len ∧ len ≤ maxLen ∧ (len = 0 ∨ ∃ g o, a = some ⟨g, o, none⟩ ∧ IwRsAt W g o xs)
theorem IwRAt.lt {W : World} {g o : Nat} {x : IwR} (h : IwRAt W g o x) : g < W.heap.size := by
  obtain ⟨h0, _⟩ := h
  rcases Nat.lt_or_ge g W.heap.size with hl | hg
  · exact hl
  · simp [World.cell?, Array.getElem?_eq_none hg] at h0
theorem IwRsAt.lt {W : World} {g o : Nat} {xs : List IwR} (h : IwRsAt W g o xs) (hp : 0 < xs.length) : g < W.heap.size := (h 0 xs[0] (List.getElem?_eq_getElem hp)).lt
theorem IwRAt.below {W W' : World} {B g o : Nat} {x : IwR} (h : IwRAt W g o x) (hb : Below B W W') (hg : g < B) : IwRAt W' g o x := by
  obtain ⟨h0, h1, h2, h3, h4⟩ := h
  exact ⟨(hb.cell (p := ⟨g, _, none⟩) hg).trans h0, (hb.cell (p := ⟨g, _, none⟩) hg).trans h1, (hb.cell (p := ⟨g, _, none⟩) hg).trans h2, (hb.cell (p := ⟨g, _, none⟩) hg).trans h3, (hb.cell (p := ⟨g, _, none⟩) hg).trans h4⟩
theorem IwRsAt.below {W W' : World} {B g o : Nat} {xs : List IwR} (h : IwRsAt W g o xs) (hb : Below B W W') (hg : 0 < xs.length → g < B) : IwRsAt W' g o xs := by
  intro i x hx
  have hlt : i < xs.length := (List.getElem?_eq_some_iff.1 hx).1
  exact (h i x hx).below hb (hg (by omega))
theorem IwRs.below {W W' : World} {a : Option Addr} {len : Nat} {xs : List IwR} (h : IwRs W a len xs) (hb : Below W.heap.size W W') : IwRs W' a len xs := by
  obtain ⟨h1, h2, h3⟩ := h
  refine ⟨h1, h2, ?_⟩
  rcases h3 with h3 | ⟨g, o, ha, hr⟩
  · exact Or.inl h3
  · exact Or.inr ⟨g, o, ha, hr.below hb (fun hp => hr.lt hp)⟩
theorem IwRAt.grown {W W' : World} {row : Option Nat} {g o : Nat} {x : IwR} (h : IwRAt W g o x) (hg : W.grownBy W' row) (hne : some g ≠ row) : IwRAt W' g o x := by
  have hbk := hg.block g h.lt hne
  obtain ⟨h0, h1, h2, h3, h4⟩ := h
  exact ⟨(World.cell?_of_block (w := W) hbk).trans h0, (World.cell?_of_block (w := W) hbk).trans h1, (World.cell?_of_block (w := W) hbk).trans h2, (World.cell?_of_block (w := W) hbk).trans h3, (World.cell?_of_block (w := W) hbk).trans h4⟩
theorem IwRs.grown {W W' : World} {row : Option Nat} {a : Option Addr} {n : Nat} {xs : List IwR} (h : IwRs W a n xs) (hg : W.grownBy W' row) (hne : ∀ g o, 0 < n → a = some ⟨g, o, none⟩ → some g ≠ row) : IwRs W' a n xs := by
  obtain ⟨h1, h2, h3⟩ := h
  refine ⟨h1, h2, ?_⟩
  rcases h3 with h3 | ⟨g, o, ha, hr⟩
  · exact Or.inl h3
  · refine Or.inr ⟨g, o, ha, fun i x hx => (hr i x hx).grown hg (hne g o ?_ ha)⟩
    have hlt : i < xs.length := (List.getElem?_eq_some_iff.1 hx).1
    omega
theorem IwRs.lt {W : World} {g o n : Nat} {xs : List IwR} (h : IwRs W (some ⟨g, o, none⟩) n xs) (hp : 0 < n) : g < W.heap.size := by
  obtain ⟨h1, h2, h3⟩ := h
  obtain ⟨g', o', ha, hr⟩ := h3.resolve_left (by omega)
  simp at ha
  have := hr.lt (by omega)
  omega

/-- A row is stored; a block of rows, known whole. -/
def setIw (W : World) (g o : Nat) (x : IwR) : World := (((((W.setCell ⟨g, o, none⟩ (.int .i64 x.kd)).setCell ⟨g, o + 1, none⟩ (.int .i64 x.tm)).setCell ⟨g, o + 2, none⟩ (.int .i64 x.ke)).setCell ⟨g, o + 3, none⟩ (.int .i64 x.va)).setCell ⟨g, o + 4, none⟩ (.int .i64 x.nn))
def BlkIw (W : World) (g ty len : Nat) : Prop := ∃ cur, W.heap[g]? = some (.cells cur ty (0, 0)) ∧ cur.size = len * 5
theorem BlkIw.set {W : World} {g ty len i : Nat} (h : BlkIw W g ty len) (v : Value) : BlkIw (W.setCell ⟨g, i, none⟩ v) g ty len := by
  obtain ⟨cur, h1, h2⟩ := h
  exact ⟨_, Joins.block_setCell h1 v, by simp [h2]⟩
theorem BlkIw.below {W W' : World} {g ty len B : Nat} (h : BlkIw W g ty len) (hb : Below B W W') (hg : g < B) : BlkIw W' g ty len := by
  obtain ⟨cur, h1, h2⟩ := h
  exact ⟨cur, (hb.block g hg).trans h1, h2⟩
theorem BlkIw.lt {W : World} {g ty len : Nat} (h : BlkIw W g ty len) : g < W.heap.size := by
  obtain ⟨cur, h1, h2⟩ := h
  exact (Array.getElem?_eq_some_iff.1 h1).1
theorem BlkIw.cell {W : World} {g ty len i : Nat} (h : BlkIw W g ty len) (hi : i < len * 5) : ∃ u, W.cell? ⟨g, i, none⟩ = some u := by
  obtain ⟨cur, h1, h2⟩ := h
  exact ⟨_, (Joins.cell_of_block h1 i).trans (Array.getElem?_eq_getElem (by omega))⟩
theorem BlkIw.frozen {W : World} {g ty len i : Nat} (h : BlkIw W g ty len) : W.frozen? ⟨g, i, none⟩ = false := by
  obtain ⟨cur, h1, h2⟩ := h
  exact Joins.unfrozen_of_block h1 i
theorem BlkIw.cells {W : World} {g ty len k : Nat} (h : BlkIw W g ty len) (hk : k < len) : (∃ u, W.cell? ⟨g, k * 5, none⟩ = some u) ∧ (∃ u, W.cell? ⟨g, k * 5 + 1, none⟩ = some u) ∧ (∃ u, W.cell? ⟨g, k * 5 + 2, none⟩ = some u) ∧ (∃ u, W.cell? ⟨g, k * 5 + 3, none⟩ = some u) ∧ (∃ u, W.cell? ⟨g, k * 5 + 4, none⟩ = some u) := ⟨h.cell (by omega), h.cell (by omega), h.cell (by omega), h.cell (by omega), h.cell (by omega)⟩
theorem BlkIw.sets {W : World} {g ty len o : Nat} (h : BlkIw W g ty len) (x : IwR) : BlkIw (setIw W g o x) g ty len := (((((h.set _).set _).set _).set _).set _)
theorem Iw_other {W : World} {g i j : Nat} {v : Value} (h : i ≠ j) : (W.setCell ⟨g, i, none⟩ v).cell? ⟨g, j, none⟩ = W.cell? ⟨g, j, none⟩ := World.cell?_setCell_other _ _ _ _ (by intro e; injection e with e1 e2; exact h e2)
theorem Iw_this {W : World} {g ty len i : Nat} {v : Value} (h : BlkIw W g ty len) (hi : i < len * 5) : (W.setCell ⟨g, i, none⟩ v).cell? ⟨g, i, none⟩ = some v := by
  obtain ⟨u, hu⟩ := h.cell hi
  exact World.cell?_setCell_same _ _ _ hu
theorem setIw_this {W : World} {g ty len k : Nat} (h : BlkIw W g ty len) (hk : k < len) (x : IwR) : IwRAt (setIw W g (k * 5) x) g (k * 5) x := by
  unfold setIw
  refine ⟨?_, ?_, ?_, ?_, ?_⟩
  · rw [Iw_other (by omega), Iw_other (by omega), Iw_other (by omega), Iw_other (by omega), Iw_this h (by omega)]
  · rw [Iw_other (by omega), Iw_other (by omega), Iw_other (by omega), Iw_this (h.set _) (by omega)]
  · rw [Iw_other (by omega), Iw_other (by omega), Iw_this ((h.set _).set _) (by omega)]
  · rw [Iw_other (by omega), Iw_this (((h.set _).set _).set _) (by omega)]
  · rw [Iw_this ((((h.set _).set _).set _).set _) (by omega)]
theorem setIw_ne {W : World} {g i k : Nat} {x y : IwR} (h : IwRAt W g (i * 5) y) (hk : i ≠ k) : IwRAt (setIw W g (k * 5) x) g (i * 5) y := by
  unfold setIw
  obtain ⟨h0, h1, h2, h3, h4⟩ := h
  refine ⟨?_, ?_, ?_, ?_, ?_⟩
  · rw [Iw_other (by omega), Iw_other (by omega), Iw_other (by omega), Iw_other (by omega), Iw_other (by omega)]; exact h0
  · rw [Iw_other (by omega), Iw_other (by omega), Iw_other (by omega), Iw_other (by omega), Iw_other (by omega)]; exact h1
  · rw [Iw_other (by omega), Iw_other (by omega), Iw_other (by omega), Iw_other (by omega), Iw_other (by omega)]; exact h2
  · rw [Iw_other (by omega), Iw_other (by omega), Iw_other (by omega), Iw_other (by omega), Iw_other (by omega)]; exact h3
  · rw [Iw_other (by omega), Iw_other (by omega), Iw_other (by omega), Iw_other (by omega), Iw_other (by omega)]; exact h4
theorem grown_setIw {W W' : World} {g o : Nat} {x : IwR} (h : W.grownBy W' (some g)) : W.grownBy (setIw W' g o x) (some g) := by
  have hs : ∀ (X : World) (i : Nat) (v : Value), W.grownBy X (some g) → W.grownBy (X.setCell ⟨g, i, none⟩ v) (some g) := by
    intro X i v hX
    exact ⟨hX.os, hX.tape, hX.output, by simp [World.setCell]; exact hX.size, fun k hk hne => (Below.heap_setCell X _ v k (fun e => hne (by rw [e]))).trans (hX.block k hk hne)⟩
  exact hs _ _ _ (hs _ _ _ (hs _ _ _ (hs _ _ _ (hs _ _ _ (h)))))

/-- The cells of rows; a slice of the call's own that holds rows. -/
def IwR.cells (x : IwR) : List Value := [.int .i64 x.kd, .int .i64 x.tm, .int .i64 x.ke, .int .i64 x.va, .int .i64 x.nn]
def flatIw (xs : List IwR) : List Value := xs.flatMap IwR.cells
theorem flatIw_snoc (xs : List IwR) (x : IwR) : flatIw (xs ++ [x]) = flatIw xs ++ x.cells := by simp [flatIw]
theorem flatIw_len (xs : List IwR) : (flatIw xs).length = xs.length * 5 := by
  induction xs with
  | nil => rfl
  | cons x r ih => show (x.cells ++ flatIw r).length = _; rw [List.length_append, ih]; simp [IwR.cells]; omega
theorem flatIw_get {xs : List IwR} {i : Nat} {x : IwR} (h : xs[i]? = some x) : (flatIw xs)[i * 5]? = some (.int .i64 x.kd) ∧ (flatIw xs)[i * 5 + 1]? = some (.int .i64 x.tm) ∧ (flatIw xs)[i * 5 + 2]? = some (.int .i64 x.ke) ∧ (flatIw xs)[i * 5 + 3]? = some (.int .i64 x.va) ∧ (flatIw xs)[i * 5 + 4]? = some (.int .i64 x.nn) := by
  induction xs generalizing i with
  | nil => simp at h
  | cons y r ih =>
    have hf : flatIw (y :: r) = y.cells ++ flatIw r := rfl
    cases i with
    | zero =>
      simp at h
      subst h
      rw [hf]
      exact ⟨rfl, rfl, rfl, rfl, rfl⟩
    | succ i =>
      simp at h
      obtain ⟨h0, h1, h2, h3, h4⟩ := ih h
      have hl : y.cells.length = 5 := rfl
      rw [hf]
      refine ⟨?_, ?_, ?_, ?_, ?_⟩
      · rw [List.getElem?_append_right (by omega), hl, show (i + 1) * 5 - 5 = i * 5 by omega]; exact h0
      · rw [List.getElem?_append_right (by omega), hl, show (i + 1) * 5 + 1 - 5 = i * 5 + 1 by omega]; exact h1
      · rw [List.getElem?_append_right (by omega), hl, show (i + 1) * 5 + 2 - 5 = i * 5 + 2 by omega]; exact h2
      · rw [List.getElem?_append_right (by omega), hl, show (i + 1) * 5 + 3 - 5 = i * 5 + 3 by omega]; exact h3
      · rw [List.getElem?_append_right (by omega), hl, show (i + 1) * 5 + 4 - 5 = i * 5 + 4 by omega]; exact h4
def OwnIw (W : World) (B : Nat) (v : Value) (ys : List IwR) : Prop := W.ownsRow B 45 5 v ys.length (flatIw ys)
theorem ownIw_ge {W : World} {B : Nat} {v : Value} {ys : List IwR} (h : OwnIw W B v ys) : ∀ k, v.ownBlock = some k → B ≤ k := by
  intro k hk
  rcases h.2 with ⟨rfl, _⟩ | ⟨g, cap, cur, rfl, hg, _⟩
  · cases hk
  · simp [Value.ownBlock] at hk; omega
theorem ownIw_snoc {w1 : World} {B : Nat} {v' : Value} {ys : List IwR} {x : IwR} (ho : w1.ownsRow B 45 5 v' (ys.length + 1) (flatIw ys ++ x.cells)) : OwnIw w1 B v' (ys ++ [x]) := by
  unfold OwnIw
  rw [flatIw_snoc]
  simpa using ho
theorem cells_newIw (w : World) (kd tm ke va nn : Int) (ty : Nat) : ∀ j u, ([.int .i64 kd, .int .i64 tm, .int .i64 ke, .int .i64 va, .int .i64 nn] : List Value)[j]? = some u → (w.alloc (.cells #[.int .i64 kd, .int .i64 tm, .int .i64 ke, .int .i64 va, .int .i64 nn] ty)).cell? ((⟨w.heap.size, 0, none⟩ : Addr).add j) = some u := by
  intro j u hj
  have e : ((⟨w.heap.size, 0, none⟩ : Addr).add j) = ⟨w.heap.size, j, none⟩ := by
    unfold Addr.add
    split
    · rename_i h0; rw [h0]
    · simp
  rw [e]
  simpa [go_sem] using hj
theorem cells_atIw (w : World) (kd tm ke va nn : Int) (ty : Nat) {g : Nat} (hg : g = w.heap.size) : ∀ j u, ([.int .i64 kd, .int .i64 tm, .int .i64 ke, .int .i64 va, .int .i64 nn] : List Value)[j]? = some u → (w.alloc (.cells #[.int .i64 kd, .int .i64 tm, .int .i64 ke, .int .i64 va, .int .i64 nn] ty)).cell? ((⟨g, 0, none⟩ : Addr).add j) = some u := by
  subst hg
  exact cells_newIw w kd tm ke va nn ty

/-- The block of a slice's rows, if there are any; what may be written; what has been marked. -/
def rowIw (a : Option Addr) (n : Nat) : Option Nat := if n = 0 then none else a.map (·.block)
theorem rowIw_zero (a : Option Addr) : rowIw a 0 = none := rfl
theorem rowIw_pos {n : Nat} (h : n ≠ 0) (g o : Nat) : rowIw (some ⟨g, o, none⟩) n = some g := by unfold rowIw; rw [if_neg h]; rfl
def markIw (i : Nat) : IwR := ⟨1 + 5 * (i : Int), 1 + 5 * (i : Int) + 1, 1 + 5 * (i : Int) + 1 + 1, 1 + 5 * (i : Int) + 1 + 1 + 1, 1 + 5 * (i : Int) + 1 + 1 + 1 + 1⟩
def WrIw (W : World) (a : Option Addr) (n cap : Nat) : Prop := n = 0 ∨ ∃ g, a = some ⟨g, 0, none⟩ ∧ BlkIw W g 45 cap ∧ n ≤ cap
def MarkedIw (W : World) (a : Option Addr) (n : Nat) : Prop := n = 0 ∨ ∃ g, a = some ⟨g, 0, none⟩ ∧ ∀ i, i < n → IwRAt W g (i * 5) (markIw i)
theorem grown0Iw {W W' : World} (h : Below W.heap.size W W') : W.grownBy W' none := ⟨h.os, h.tape, h.output, h.size, fun k hk _ => h.block k hk⟩
theorem growIw {w W W' : World} {row : Option Nat} (h : Below w.heap.size w W) (hg : W.grownBy W' row) (hr : ∀ k, row = some k → w.heap.size ≤ k) : Below w.heap.size w W' := h.grown hg h.size hr
theorem MarkedIw.below {W W' : World} {a : Option Addr} {n : Nat} (h : MarkedIw W a n) (hb : Below W.heap.size W W') : MarkedIw W' a n := by
  rcases h with h | ⟨g, ha, hM⟩
  · exact Or.inl h
  · exact Or.inr ⟨g, ha, fun i hi => (hM i hi).below hb (hM i hi).lt⟩
theorem holdIw {W : World} {B : Nat} {v : Value} {ys : List IwR} (h : OwnIw W B v ys) (hl : ys.length ≤ 1048576) :
    ∃ a cap, v = .slice a ys.length cap ∧ IwRs W a ys.length ys ∧ WrIw W a ys.length cap ∧ ∀ g o, 0 < ys.length → a = some ⟨g, o, none⟩ → B ≤ g := by
  have hm : ys.length ≤ maxLen := by unfold maxLen; omega
  obtain ⟨hlen, h | ⟨g, cap, cur, rfl, hB, hblk, hnc, hcm, hsz, htk⟩⟩ := h
  · obtain ⟨rfl, h0⟩ := h
    rw [h0]
    exact ⟨none, 0, rfl, ⟨h0, Nat.zero_le _, Or.inl rfl⟩, Or.inl rfl, fun _ _ hp => by omega⟩
  · refine ⟨_, cap, rfl, ⟨rfl, hm, Or.inr ⟨g, 0, rfl, ?_⟩⟩, Or.inr ⟨g, rfl, ⟨cur, hblk, hsz⟩, hnc⟩, fun g' o' _ e => by simp at e; omega⟩
    intro i x hx
    have hi : i < ys.length := (List.getElem?_eq_some_iff.1 hx).1
    have hcell : ∀ j u, j < ys.length * 5 → (flatIw ys)[j]? = some u → W.cell? ⟨g, j, none⟩ = some u := by
      intro j u hj hu
      rw [Joins.cell_of_block hblk j, ← Array.getElem?_toList]
      rw [← htk, List.getElem?_take_of_lt hj] at hu
      exact hu
    obtain ⟨f0, f1, f2, f3, f4⟩ := flatIw_get hx
    rw [Nat.zero_add]
    exact ⟨hcell _ _ (by omega) f0, hcell _ _ (by omega) f1, hcell _ _ (by omega) f2, hcell _ _ (by omega) f3, hcell _ _ (by omega) f4⟩
theorem WrIw.below {W W' : World} {a : Option Addr} {n cap : Nat} (h : WrIw W a n cap) (hb : Below W.heap.size W W') : WrIw W' a n cap := by
  rcases h with h | ⟨g, ha, hB, hc⟩
  · exact Or.inl h
  · exact Or.inr ⟨g, ha, hB.below hb hB.lt, hc⟩
theorem WrIw.grown {W W' : World} {row : Option Nat} {a : Option Addr} {n cap : Nat} (h : WrIw W a n cap) (hg : W.grownBy W' row) (hne : ∀ g o, 0 < n → a = some ⟨g, o, none⟩ → some g ≠ row) : WrIw W' a n cap := by
  rcases h with h | ⟨g, ha, hB, hc⟩
  · exact Or.inl h
  · by_cases h0 : n = 0
    · exact Or.inl h0
    · obtain ⟨cur, c1, c2⟩ := hB
      exact Or.inr ⟨g, ha, ⟨cur, (hg.block g (Array.getElem?_eq_some_iff.1 c1).1 (hne g 0 (by omega) ha)).trans c1, c2⟩, hc⟩
theorem WrIw.shape {W : World} {a : Option Addr} {n cap : Nat} (h : WrIw W a n cap) : n = 0 ∨ ∃ g', a = some ⟨g', 0, none⟩ := by
  rcases h with h | ⟨g, ha, _⟩
  · exact Or.inl h
  · exact Or.inr ⟨g, ha⟩
theorem rowIw_ne {a : Option Addr} {n g : Nat} (h : ∀ g' o', 0 < n → a = some ⟨g', o', none⟩ → g ≠ g') (hs : n = 0 ∨ ∃ g', a = some ⟨g', 0, none⟩) : some g ≠ rowIw a n := by
  rcases hs with rfl | ⟨g', rfl⟩
  · simp [rowIw_zero]
  · by_cases h0 : n = 0
    · subst h0; simp [rowIw_zero]
    · rw [rowIw_pos h0]
      have := h g' 0 (by omega) rfl
      simpa using this
theorem rowIw_ge {a : Option Addr} {n B : Nat} (h : ∀ g' o', 0 < n → a = some ⟨g', o', none⟩ → B ≤ g') (hs : n = 0 ∨ ∃ g', a = some ⟨g', 0, none⟩) : ∀ k, rowIw a n = some k → B ≤ k := by
  intro k hk
  rcases hs with rfl | ⟨g', rfl⟩
  · simp [rowIw_zero] at hk
  · by_cases h0 : n = 0
    · subst h0; simp [rowIw_zero] at hk
    · rw [rowIw_pos h0] at hk
      have := h g' 0 (by omega) rfl
      simp at hk
      omega
theorem markIw_step {w wr : World} {g ty cap j : Nat} (hB : BlkIw wr g ty cap) (hj : j < cap) (hM : ∀ i, i < j → IwRAt wr g (i * 5) (markIw i)) (hG : w.grownBy wr (some g)) :
    BlkIw (setIw wr g (j * 5) (markIw j)) g ty cap ∧ (∀ i, i < j + 1 → IwRAt (setIw wr g (j * 5) (markIw j)) g (i * 5) (markIw i)) ∧ w.grownBy (setIw wr g (j * 5) (markIw j)) (some g) := by
  refine ⟨hB.sets _, fun i hi => ?_, grown_setIw hG⟩
  by_cases he : i = j
  · subst he
    exact setIw_this hB hj (markIw i)
  · exact setIw_ne (hM i (by omega)) he
end Go.Proofs.YtcokdcehjibanaaGreatDoor
/- Proved here: rows marked from any number on, and found again. -/
namespace Go.Proofs.YtcokdcehjibanaaGreatDoor
open Go.ChangeShapes Go.WideShapes Go.ChangeAt Go.RowKit
set_option linter.unusedVariables false

def markKIw (K : Int) (i : Nat) : IwR := ⟨K + 5 * (i : Int), K + 5 * (i : Int) + 1, K + 5 * (i : Int) + 1 + 1, K + 5 * (i : Int) + 1 + 1 + 1, K + 5 * (i : Int) + 1 + 1 + 1 + 1⟩

def MarkedKIw (W : World) (a : Option Addr) (n : Nat) (K : Int) : Prop := n = 0 ∨ ∃ g, a = some ⟨g, 0, none⟩ ∧ ∀ i, i < n → IwRAt W g (i * 5) (markKIw K i)

theorem MarkedKIw.below {W W' : World} {a : Option Addr} {n : Nat} {K : Int} (h : MarkedKIw W a n K) (hb : Below W.heap.size W W') : MarkedKIw W' a n K := by
  rcases h with h | ⟨g, ha, hM⟩
  · exact Or.inl h
  · exact Or.inr ⟨g, ha, fun i hi => (hM i hi).below hb (hM i hi).lt⟩

theorem markKIw_step {K : Int} {w wr : World} {g ty cap j : Nat} (hB : BlkIw wr g ty cap) (hj : j < cap) (hM : ∀ i, i < j → IwRAt wr g (i * 5) (markKIw K i)) (hG : w.grownBy wr (some g)) :
    BlkIw (setIw wr g (j * 5) (markKIw K j)) g ty cap ∧ (∀ i, i < j + 1 → IwRAt (setIw wr g (j * 5) (markKIw K j)) g (i * 5) (markKIw K i)) ∧ w.grownBy (setIw wr g (j * 5) (markKIw K j)) (some g) := by
  refine ⟨hB.sets _, fun i hi => ?_, grown_setIw hG⟩
  by_cases he : i = j
  · subst he
    exact setIw_this hB hj (markKIw K i)
  · exact setIw_ne (hM i (by omega)) he

theorem MarkedKIw.keep {W W' : World} {a : Option Addr} {n : Nat} {K : Int} (h : MarkedKIw W a n K) (hb : ∀ g o, 0 < n → a = some ⟨g, o, none⟩ → W'.heap[g]? = W.heap[g]?) : MarkedKIw W' a n K := by
  rcases h with h | ⟨g, ha, hM⟩
  · exact Or.inl h
  · refine Or.inr ⟨g, ha, fun i hi => ?_⟩
    have hbk := hb g 0 (by omega) ha
    obtain ⟨h0, h1, h2, h3, h4⟩ := hM i hi
    exact ⟨(World.cell?_of_block (w := W) hbk).trans h0, (World.cell?_of_block (w := W) hbk).trans h1, (World.cell?_of_block (w := W) hbk).trans h2, (World.cell?_of_block (w := W) hbk).trans h3, (World.cell?_of_block (w := W) hbk).trans h4⟩
end Go.Proofs.YtcokdcehjibanaaGreatDoor
/- Proved here: logs in slices of one's own, each apart from the others; marked, and found so. -/
namespace Go.Proofs.YtcokdcehjibanaaGreatDoor
open Go.ChangeShapes Go.WideShapes Go.ChangeAt Go.RowKit
set_option linter.unusedVariables false
set_option linter.unusedSimpArgs false

/-- Rows of two types do not share a block. -/
theorem lg_ne {W : World} {B B' : Nat} {e e' : TypeId} {s s' n n' : Nat} {v v' : Value} {xs xs' : List Value} (h : W.ownsRow B e s v n xs) (h' : W.ownsRow B' e' s' v' n' xs') (he : e ≠ e') : v.ownBlock = none ∨ v.ownBlock ≠ v'.ownBlock := by
  rcases h with ⟨_, ⟨rfl, _⟩ | ⟨g, cap, cur, rfl, _, hb, _⟩⟩
  · exact Or.inl rfl
  · refine Or.inr fun hc => ?_
    rcases h' with ⟨_, ⟨rfl, _⟩ | ⟨g', cap', cur', rfl, _, hb', _⟩⟩
    · cases hc
    · have h1 : g = g' := Option.some.inj hc
      subst h1
      rw [hb] at hb'
      injection hb' with h2
      injection h2 with _ h3
      exact he h3

theorem lg_mono {W : World} {B B' size n : Nat} {e : TypeId} {v : Value} {ys : List Value} (h : W.ownsRow B e size v n ys) (hB : B' ≤ B) : W.ownsRow B' e size v n ys := by
  rcases h with ⟨hl, h | ⟨g, cap, cur, rfl, h1, h2⟩⟩
  · exact ⟨hl, Or.inl h⟩
  · exact ⟨hl, Or.inr ⟨g, cap, cur, rfl, by omega, h2⟩⟩
/-- Logs in memory of one's own: a row of slices, each of its own. -/
structure LgO (W : World) (B : Nat) (v : Value) (us : List Value) (Ls : List (List It)) : Prop where
  len : us.length = Ls.length
  row : W.ownsRow B 40 1 v Ls.length us
  own : ∀ (i : Nat) (u : Value) (l : List It), us[i]? = some u → Ls[i]? = some l → OwnIts W B u l
  ap : ∀ (i j : Nat) (u u' : Value) (b : Nat), us[i]? = some u → us[j]? = some u' → i ≠ j → u.ownBlock = some b → u'.ownBlock ≠ some b

theorem LgO.bel {W W' : World} {B : Nat} {v : Value} {us : List Value} {Ls : List (List It)} (h : LgO W B v us Ls) (hb : Below W.heap.size W W') : LgO W' B v us Ls :=
  ⟨h.len, ownBel h.row hb, fun i u l hu hl => ownBel (h.own i u l hu hl) hb, h.ap⟩

theorem LgO.lts {W : World} {B : Nat} {v : Value} {us : List Value} {Ls : List (List It)} (h : LgO W B v us Ls) {i : Nat} {u : Value} (hu : us[i]? = some u) {b : Nat} (hb : u.ownBlock = some b) : B ≤ b ∧ b < W.heap.size := by
  have hi := (List.getElem?_eq_some_iff.1 hu).1
  have hl := h.len
  exact (h.own i u Ls[i] hu (List.getElem?_eq_getElem (by omega))).lt b hb

theorem LgO.mono {W : World} {B B' : Nat} {v : Value} {us : List Value} {Ls : List (List It)} (h : LgO W B v us Ls) (hB : B' ≤ B) : LgO W B' v us Ls :=
  ⟨h.len, lg_mono h.row hB, fun i u l hu hl => lg_mono (h.own i u l hu hl) hB, h.ap⟩

/-- What is turned lies below it. -/
theorem LgO.low {W W' : World} {row : Option Nat} {B : Nat} {v : Value} {us : List Value} {Ls : List (List It)} (h : LgO W B v us Ls) (hg : W.grownBy W' row) (hr : ∀ k, row = some k → k < B) : LgO W' B v us Ls := by
  have key : ∀ {B2 s2 n2 : Nat} {e2 : TypeId} {u2 : Value} {xs2 : List Value}, W.ownsRow B2 e2 s2 u2 n2 xs2 → B ≤ B2 → W'.ownsRow B2 e2 s2 u2 n2 xs2 := fun h2 hB => h2.kept hg (by
    cases hv : (_ : Value).ownBlock with
    | none => exact Or.inl rfl
    | some b => exact Or.inr (fun e => by have h3 := (h2.lt b hv).1; have h4 := hr b e.symm; omega))
  exact ⟨h.len, key h.row (Nat.le_refl _), fun i u l hu hl => key (h.own i u l hu hl) (Nat.le_refl _), h.ap⟩

/-- The first: one empty log; none. -/
theorem LgO.nil0 {W : World} {B : Nat} {v : Value} (h : W.ownsRow B 40 1 v 0 []) : LgO W B v [] [] :=
  ⟨rfl, h, fun i u l hu => by simp at hu, fun i j u u' b hu => by simp at hu⟩
theorem LgO.one {W : World} {B : Nat} {v u : Value} (h : W.ownsRow B 40 1 v 1 [u]) (hu : OwnIts W B u []) : LgO W B v [u] [[]] := by
  refine ⟨rfl, h, fun i u' l hu' hl => ?_, fun i j u1 u2 b h1 h2 hij => ?_⟩
  · cases i with
    | zero => simp at hu' hl; subst hu'; subst hl; exact hu
    | succ i => simp at hu'
  · cases i with
    | zero => cases j with
      | zero => exact absurd rfl hij
      | succ j => simp at h2
    | succ i => simp at h1

theorem lg_get {α : Type} {l : List α} {a p : α} {i : Nat} (h : (l ++ [a])[i]? = some p) : l[i]? = some p ∧ i < l.length ∨ i = l.length ∧ p = a := by
  rcases Nat.lt_or_ge i l.length with hl | hl
  · rw [List.getElem?_append_left hl] at h
    exact Or.inl ⟨h, hl⟩
  · rw [List.getElem?_append_right hl] at h
    have h0 : i - l.length = 0 := by
      rcases Nat.eq_zero_or_pos (i - l.length) with h0 | h0
      · exact h0
      · rw [List.getElem?_eq_none (by simp; omega)] at h; cases h
    rw [h0] at h
    simp at h
    exact Or.inr ⟨by omega, h.symm⟩

/-- One log more. -/
theorem LgO.push {W w1 : World} {o : Obj} {B : Nat} {v v' u : Value} {us : List Value} {Ls : List (List It)} {l0 : List It} (h : LgO W B v us Ls) (hu : OwnIts W B u l0) (hap : ∀ (i : Nat) (u' : Value) (b : Nat), us[i]? = some u' → u'.ownBlock = some b → u.ownBlock ≠ some b)
    (hown : w1.ownsRow B 40 1 v' (Ls.length + 1) (us ++ [u])) (hg : (W.alloc o).grownBy w1 v.ownBlock) : LgO w1 B v' (us ++ [u]) (Ls ++ [l0]) := by
  have hl := h.len
  have kp : ∀ {u2 : Value} {l : List It}, OwnIts W B u2 l → OwnIts w1 B u2 l := fun h2 => (World.ownsRow.alloc h2 o).kept hg (lg_ne h2 h.row (by decide))
  refine ⟨by simp [hl], by simpa using hown, fun i u2 l hu2 hl2 => ?_, fun i j u1 u2 b h1 h2 hij hb hb2 => ?_⟩
  · rcases lg_get hu2 with ⟨a1, a2⟩ | ⟨a1, rfl⟩
    · rcases lg_get hl2 with ⟨b1, _⟩ | ⟨b1, _⟩
      · exact kp (h.own i u2 l a1 b1)
      · omega
    · rcases lg_get hl2 with ⟨_, b1⟩ | ⟨_, rfl⟩
      · omega
      · exact kp hu
  · rcases lg_get h1 with ⟨a1, a2⟩ | ⟨a1, rfl⟩
    · rcases lg_get h2 with ⟨c1, c2⟩ | ⟨c1, rfl⟩
      · exact h.ap i j u1 u2 b a1 c1 hij hb hb2
      · exact hap i u1 b a1 hb hb2
    · rcases lg_get h2 with ⟨c1, c2⟩ | ⟨c1, rfl⟩
      · exact hap j u2 b c1 hb2 hb
      · omega

/-- The last log has one item more. -/
theorem LgO.last {W w2 : World} {o : Obj} {B g cap : Nat} {u u' : Value} {us : List Value} {Ls : List (List It)} {k : Nat} {l : List It} {x : It} (h : LgO W B (.slice (some ⟨g, 0, none⟩) Ls.length cap) us Ls) (hB : B ≤ W.heap.size) (hk : us[k]? = some u) (hl : Ls[k]? = some l)
    (hown : w2.ownsRow B 45 5 u' (l.length + 1) (flat l ++ x.cells)) (hg : (W.alloc o).grownBy w2 u.ownBlock) (hn : u'.ownBlock = u.ownBlock ∨ u'.ownBlock = some (W.alloc o).heap.size) : LgO (w2.setCell ⟨g, k, none⟩ u') B (.slice (some ⟨g, 0, none⟩) Ls.length cap) (us.set k u') (Ls.set k (l ++ [x])) := by
  have hll := h.len
  have hki := (List.getElem?_eq_some_iff.1 hk).1
  have hu := h.own k u l hk hl
  have hr2 : w2.ownsRow B 40 1 (.slice (some ⟨g, 0, none⟩) Ls.length cap) Ls.length us := (World.ownsRow.alloc h.row o).kept hg (lg_ne h.row hu (by decide))
  have hn2 : ∀ b, u'.ownBlock = some b → ∀ j u2, us[j]? = some u2 → j ≠ k → u2.ownBlock ≠ some b := fun b hb j u2 h2 hj hb2 => by
    rcases hn with e | e
    · exact h.ap j k u2 u b h2 hk hj hb2 (by rw [← e]; exact hb)
    · have := (h.lts h2 hb2).2
      rw [hb] at e
      have e2 := Option.some.inj e
      simp at e2
      omega
  have hrow := World.ownsRow.stored hr2 k u'
  have kps : ∀ {u2 : Value} {l2 : List It}, OwnIts w2 B u2 l2 → OwnIts (w2.setCell ⟨g, k, none⟩ u') B u2 l2 := fun h2 => World.ownsRow.kept h2 hrow.2 (lg_ne h2 hr2 (by decide))
  refine ⟨by simp [hll], by simpa using hrow.1, fun i u2 l2 hu2 hl2 => ?_, fun i j u1 u2 b h1 h2 hij hb hb2 => ?_⟩
  · by_cases hi : i = k
    · subst hi
      rw [List.getElem?_set_self hki] at hu2
      rw [List.getElem?_set_self (by omega)] at hl2
      cases hu2
      cases hl2
      refine kps ?_
      unfold OwnIts
      rw [flat_snoc, List.length_append]
      exact hown
    · rw [List.getElem?_set_ne (fun e => hi e.symm)] at hu2 hl2
      have h3 := h.own i u2 l2 hu2 hl2
      refine kps ((World.ownsRow.alloc h3 o).kept hg ?_)
      cases hv : u2.ownBlock with
      | none => exact Or.inl rfl
      | some b => exact Or.inr (fun e => h.ap i k u2 u b hu2 hk hi hv e.symm)
  · by_cases hi : i = k
    · subst hi
      rw [List.getElem?_set_self hki] at h1
      cases h1
      rw [List.getElem?_set_ne hij] at h2
      exact hn2 b hb j u2 h2 (fun e => hij e.symm) hb2
    · rw [List.getElem?_set_ne (fun e => hi e.symm)] at h1
      by_cases hj : j = k
      · subst hj
        rw [List.getElem?_set_self hki] at h2
        cases h2
        exact hn2 b hb2 i u1 h1 hi hb
      · rw [List.getElem?_set_ne (fun e => hj e.symm)] at h2
        exact h.ap i j u1 u2 b h1 h2 hij hb hb2

/-- What stands at a place of the row. -/
theorem LgO.shape {W : World} {B : Nat} {v : Value} {us : List Value} {Ls : List (List It)} (h : LgO W B v us Ls) (hp : 0 < Ls.length) : ∃ g cap, v = .slice (some ⟨g, 0, none⟩) Ls.length cap ∧ B ≤ g ∧ g < W.heap.size ∧ Ls.length ≤ cap := by
  rcases h.row.2 with ⟨_, h0⟩ | ⟨g, cap, cur, rfl, hB, hblk, hc, _⟩
  · omega
  · exact ⟨g, cap, rfl, hB, (Array.getElem?_eq_some_iff.1 hblk).1, hc⟩
theorem LgO.slice {W : World} {B : Nat} {v : Value} {us : List Value} {Ls : List (List It)} (h : LgO W B v us Ls) : ∃ a cap, v = .slice a Ls.length cap := by
  rcases h.row.2 with ⟨rfl, h0⟩ | ⟨g, cap, cur, rfl, _⟩
  · exact ⟨_, 0, by rw [h0]⟩
  · exact ⟨_, _, rfl⟩
theorem LgO.at_ {W : World} {B g cap : Nat} {us : List Value} {Ls : List (List It)} (h : LgO W B (.slice (some ⟨g, 0, none⟩) Ls.length cap) us Ls) {k : Nat} {l : List It} (hk : Ls[k]? = some l) (hm : l.length ≤ maxLen) : ∃ a c, us[k]? = some (.slice a l.length c) ∧ W.cell? ⟨g, k, none⟩ = some (.slice a l.length c) ∧ Its W a l.length l := by
  have hi := (List.getElem?_eq_some_iff.1 hk).1
  have hl := h.len
  have hu : us[k]? = some us[k] := List.getElem?_eq_getElem (by omega)
  obtain ⟨a, c, e, hI⟩ := own_its (h.own k us[k] l hu hk) hm
  refine ⟨a, c, by rw [hu, e], ?_, hI⟩
  rw [World.ownsRow.cellAt h.row k (by omega), hu, e]
theorem LgO.frozen {W : World} {B g cap : Nat} {us : List Value} {Ls : List (List It)} (h : LgO W B (.slice (some ⟨g, 0, none⟩) Ls.length cap) us Ls) (k : Nat) : W.frozen? ⟨g, k, none⟩ = false := World.ownsRow.frozenAt h.row k

/-- The number behind marking. -/
def kLg (K : Int) (Ls : List (List It)) : Int := Ls.foldl (fun k l => k + 5 * (l.length : Int)) K
theorem kLg_snoc {K : Int} {Ls : List (List It)} {i : Nat} {l : List It} (h : Ls[i]? = some l) : kLg K (Ls.take (i + 1)) = kLg K (Ls.take i) + 5 * (l.length : Int) := by
  obtain ⟨hi, he⟩ := List.getElem?_eq_some_iff.1 h
  rw [List.take_succ_eq_append_getElem hi, he]
  simp [kLg, List.foldl_append]
theorem kLg_bd (K : Int) (Ls : List (List It)) (h : ∀ l ∈ Ls, l.length ≤ 1048576) : K ≤ kLg K Ls ∧ kLg K Ls ≤ K + 5242880 * (Ls.length : Int) := by
  induction Ls generalizing K with
  | nil => simp [kLg]
  | cons v r ih =>
    have h0 := h v (by simp)
    have h1 := ih (K + 5 * (v.length : Int)) (fun u hu => h u (by simp [hu]))
    show K ≤ kLg (K + 5 * (v.length : Int)) r ∧ kLg (K + 5 * (v.length : Int)) r ≤ _
    simp only [List.length_cons]
    omega
theorem kLg_at {Ls : List (List It)} (i : Nat) (h : ∀ l ∈ Ls, l.length ≤ 1048576) (hn : Ls.length ≤ 1048576) : 1 ≤ kLg 1 (Ls.take i) ∧ kLg 1 (Ls.take i) ≤ 5497558138881 := by
  have h1 := kLg_bd 1 (Ls.take i) (fun l hl => h l (List.mem_of_mem_take hl))
  have h2 : (Ls.take i).length ≤ Ls.length := by rw [List.length_take]; omega
  omega

/-- Marked from a number on. -/
structure MkLg (W : World) (B : Nat) (v : Value) (us : List Value) (Ls : List (List It)) : Prop where
  len : us.length = Ls.length
  row : W.ownsRow B 40 1 v Ls.length us
  mk_ : ∀ (i : Nat) (l : List It), Ls[i]? = some l → ∃ a c, us[i]? = some (.slice a l.length c) ∧ MarkedKIw W a l.length (kLg 1 (Ls.take i))
theorem MkLg.bel {W W' : World} {B : Nat} {v : Value} {us : List Value} {Ls : List (List It)} (h : MkLg W B v us Ls) (hb : Below W.heap.size W W') : MkLg W' B v us Ls :=
  ⟨h.len, ownBel h.row hb, fun i l hl => by obtain ⟨a, c, h1, h2⟩ := h.mk_ i l hl; exact ⟨a, c, h1, h2.below hb⟩⟩
theorem MkLg.slice {W : World} {B : Nat} {v : Value} {us : List Value} {Ls : List (List It)} (h : MkLg W B v us Ls) : ∃ a cap, v = .slice a Ls.length cap := by
  rcases h.row.2 with ⟨rfl, h0⟩ | ⟨g, cap, cur, rfl, _⟩
  · exact ⟨_, 0, by rw [h0]⟩
  · exact ⟨_, _, rfl⟩

theorem wr_of_own {W : World} {B : Nat} {a : Option Addr} {n c : Nat} {l : List It} (h : OwnIts W B (.slice a n c) l) (hn : l.length = n) : WrIw W a n c := by
  rcases h.2 with ⟨h0, h1⟩ | ⟨g, cap, cur, e, _, hblk, hc, _, hs, _⟩
  · exact Or.inl (by omega)
  · simp only [Value.slice.injEq] at e
    obtain ⟨rfl, rfl, rfl⟩ := e
    exact Or.inr ⟨g, rfl, ⟨cur, hblk, hs⟩, by omega⟩
theorem row_of_own {W : World} {B : Nat} {a : Option Addr} {n c : Nat} {l : List It} (h : OwnIts W B (.slice a n c) l) (hn : l.length = n) : ∀ b, rowIw a n = some b → (Value.slice a n c).ownBlock = some b := by
  intro b hb
  by_cases h0 : n = 0
  · subst h0; simp [rowIw] at hb
  · rcases h.2 with ⟨h1, h2⟩ | ⟨g, cap, cur, e, _⟩
    · omega
    · simp only [Value.slice.injEq] at e
      obtain ⟨rfl, _⟩ := e
      rw [rowIw_pos h0] at hb
      exact hb

/-- While they are being marked. -/
structure InvLg (w wr : World) (B : Nat) (v : Value) (us : List Value) (Ls : List (List It)) (j : Nat) : Prop where
  row : wr.ownsRow B 40 1 v Ls.length us
  mkd : ∀ (i : Nat) (l : List It), i < j → Ls[i]? = some l → ∃ a c, us[i]? = some (.slice a l.length c) ∧ MarkedKIw wr a l.length (kLg 1 (Ls.take i))
  un : ∀ (i : Nat) (u : Value) (l : List It), j ≤ i → us[i]? = some u → Ls[i]? = some l → OwnIts wr B u l
  bel : Below B w wr
theorem InvLg.start {w : World} {B : Nat} {v : Value} {us : List Value} {Ls : List (List It)} (h : LgO w B v us Ls) : InvLg w w B v us Ls 0 :=
  ⟨h.row, fun i l hi => absurd hi (by omega), fun i u l _ hu hl => h.own i u l hu hl, Below.refl _ _⟩
theorem InvLg.step {w wr w2 : World} {B : Nat} {v : Value} {us : List Value} {Ls : List (List It)} {j : Nat} {a : Option Addr} {c : Nat} {l : List It} (h0 : LgO w B v us Ls) (h : InvLg w wr B v us Ls j) (hB : B ≤ wr.heap.size) (hu : us[j]? = some (.slice a l.length c)) (hl : Ls[j]? = some l) (hm : MarkedKIw w2 a l.length (kLg 1 (Ls.take j))) (hg : wr.grownBy w2 (rowIw a l.length)) : InvLg w w2 B v us Ls (j + 1) := by
  have hO := h.un j _ l (Nat.le_refl _) hu hl
  have hR := row_of_own hO rfl
  have hne : ∀ {u2 : Value} {B2 s2 n2 : Nat} {e2 : TypeId} {xs2 : List Value}, wr.ownsRow B2 e2 s2 u2 n2 xs2 → (u2.ownBlock = none ∨ u2.ownBlock ≠ (Value.slice a l.length c).ownBlock) → w2.ownsRow B2 e2 s2 u2 n2 xs2 := fun h2 hn => h2.kept hg (by
    rcases hn with hn | hn
    · exact Or.inl hn
    · cases hr : rowIw a l.length with
      | none =>
        cases hv : (_ : Value).ownBlock with
        | none => exact Or.inl rfl
        | some b => exact Or.inr (by simp)
      | some b => rw [hR b hr] at hn; exact Or.inr hn)
  refine ⟨hne h.row (lg_ne h.row hO (by decide)), fun i l2 hi hl2 => ?_, fun i u2 l2 hi hu2 hl2 => ?_, h.bel.grown hg hB (fun k hk => (hO.lt k (hR k hk)).1)⟩
  · by_cases he : i = j
    · subst he
      rw [hl] at hl2
      cases hl2
      exact ⟨a, c, hu, hm⟩
    · obtain ⟨a2, c2, hu2, hM⟩ := h.mkd i l2 (by omega) hl2
      refine ⟨a2, c2, hu2, hM.keep (fun g o hp ha => ?_)⟩
      subst ha
      refine hg.block g ?_ (fun e => ?_)
      · rcases hM with h9 | ⟨g9, e9, hM9⟩
        · omega
        · cases e9; exact (hM9 0 hp).lt
      · exact h0.ap i j _ _ g hu2 hu he rfl (hR g e.symm)
  · refine hne (h.un i u2 l2 (by omega) hu2 hl2) ?_
    cases hv : u2.ownBlock with
    | none => exact Or.inl rfl
    | some b => exact Or.inr (fun e => h0.ap i j u2 _ b hu2 hu (by omega) hv e.symm)
theorem InvLg.done {w wr : World} {B : Nat} {v : Value} {us : List Value} {Ls : List (List It)} (h0 : us.length = Ls.length) (h : InvLg w wr B v us Ls Ls.length) : MkLg wr B v us Ls :=
  ⟨h0, h.row, fun i l hl => h.mkd i l (List.getElem?_eq_some_iff.1 hl).1 hl⟩
end Go.Proofs.YtcokdcehjibanaaGreatDoor
/- Proved here, over lists alone: what lines of logs are read as. -/
namespace Go.Proofs.YtcokdcehjibanaaGreatDoor
open Go.ChangeShapes Go.WideShapes Go.ChangeAt Go.RowKit
set_option linter.unusedVariables false

def dashB : ByteArray := ⟨#[45]⟩
/-- What a line is read as: nothing; a dash; an item. -/
def LnIt (s : ByteArray) (r : Option (Option It)) : Prop := (s = dashB ∧ r = some none) ∨ (s ≠ dashB ∧ ∃ q t k v n c, ItR s q t k v n c ∧ r = if c = true ∧ q ≠ 3 then some (some ⟨q, t, k, v, n⟩) else none)
theorem itR_ex (s : ByteArray) : ∃ q t k v n c, ItR s q t k v n c := by
  by_cases h : ∃ q t k v n, okItm q t k v n = true ∧ itmTxt q t k v n = s
  · obtain ⟨q, t, k, v, n, h1, h2⟩ := h
    exact ⟨q, t, k, v, n, true, Or.inl ⟨rfl, h1, h2⟩⟩
  · exact ⟨0, 0, 0, 0, 0, false, Or.inr ⟨rfl, ⟨rfl, rfl, rfl, rfl, rfl⟩, fun q t k v n h1 h2 => h ⟨q, t, k, v, n, h1, h2⟩⟩⟩
theorem lnIt_ex (s : ByteArray) : ∃ r, LnIt s r := by
  by_cases h : s = dashB
  · exact ⟨_, Or.inl ⟨h, rfl⟩⟩
  · obtain ⟨q, t, k, v, n, c, h1⟩ := itR_ex s
    exact ⟨_, Or.inr ⟨h, q, t, k, v, n, c, h1, rfl⟩⟩
theorem LnIt.dash {s : ByteArray} {r : Option (Option It)} (h : LnIt s r) (hs : s = dashB) : r = some none := by
  rcases h with ⟨_, h⟩ | ⟨h, _⟩
  · exact h
  · exact absurd hs h
theorem LnIt.itm {s : ByteArray} {r : Option (Option It)} (h : LnIt s r) (hs : s ≠ dashB) {q t k v n : Int} {c : Bool} (hr : ItR s q t k v n c) : r = if c = true ∧ q ≠ 3 then some (some ⟨q, t, k, v, n⟩) else none := by
  rcases h with ⟨h, _⟩ | ⟨_, q', t', k', v', n', c', h1, h2⟩
  · exact absurd h hs
  · obtain ⟨rfl, rfl, rfl, rfl, rfl, rfl⟩ := ItR.same h1 hr
    exact h2
/-- What all lines are read as. -/
def LnAll (L : List ByteArray) (rs : List (Option (Option It))) : Prop := rs.length = L.length ∧ ∀ (i : Nat) (x : ByteArray) (r : Option (Option It)), L[i]? = some x → rs[i]? = some r → LnIt x r
theorem lnAll_ex : ∀ (L : List ByteArray), ∃ rs, LnAll L rs
  | [] => ⟨[], rfl, fun i x r h => by simp at h⟩
  | s :: L => by
    obtain ⟨r, hr⟩ := lnIt_ex s
    obtain ⟨rs, h1, h2⟩ := lnAll_ex L
    refine ⟨r :: rs, by simp [h1], fun i x r' hx hr' => ?_⟩
    cases i with
    | zero => simp at hx hr'; subst hx; subst hr'; exact hr
    | succ i => exact h2 i x r' (by simpa using hx) (by simpa using hr')
/-- One line more. -/
def putL (Ls : List (List It)) (r : Option It) : List (List It) := match r with
  | none => Ls ++ [[]]
  | some x => Ls.set (Ls.length - 1) ((Ls[Ls.length - 1]?).getD [] ++ [x])
/-- The lines from one on: the logs; the first line that is wrong. -/
def dRun : List (Option (Option It)) → Nat → List (List It) → List (List It) × Int
  | [], _, Ls => (Ls, 0)
  | none :: _, i, _ => ([], (i : Int) + 1)
  | some r :: rs, i, Ls => dRun rs (i + 1) (putL Ls r)
def dFin (n : Nat) (p : List (List It) × Int) : List (List It) × Int := if p.2 = 0 then (if p.1.all okLog = true then (p.1, 0) else ([], (n : Int) + 1)) else p
def dskL (rs : List (Option (Option It))) : List (List It) × Int := if 400 < rs.length then ([], 401) else dFin rs.length (dRun rs 0 [[]])
/-- What is known ahead of a line. -/
structure DInv (rs : List (Option (Option It))) (ix : Nat) (Ls : List (List It)) : Prop where
  run : dRun rs 0 [[]] = dRun (rs.drop ix) ix Ls
  pos : 0 < Ls.length
  le : Ls.length ≤ ix + 1
  les : ∀ l ∈ Ls, l.length ≤ ix
theorem DInv.start (rs : List (Option (Option It))) : DInv rs 0 [[]] := ⟨rfl, by simp, by simp, fun l hl => by simp at hl; simp [hl]⟩
theorem DInv.step {rs : List (Option (Option It))} {ix : Nat} {Ls : List (List It)} (h : DInv rs ix Ls) {r : Option It} (hr : rs[ix]? = some (some r)) : DInv rs (ix + 1) (putL Ls r) := by
  obtain ⟨hi, he⟩ := List.getElem?_eq_some_iff.1 hr
  have h1 := h.run
  have hp := h.pos
  have hle := h.le
  rw [List.drop_eq_getElem_cons hi, he] at h1
  refine ⟨h1, ?_, ?_, ?_⟩
  · unfold putL; split <;> simp <;> omega
  · unfold putL; split <;> simp <;> omega
  · intro l hl
    unfold putL at hl
    split at hl
    · rcases List.mem_append.1 hl with hl | hl
      · have := h.les l hl; omega
      · simp at hl; subst hl; simp
    · rcases List.mem_or_eq_of_mem_set hl with hl | hl
      · have := h.les l hl; omega
      · subst hl
        have : ((Ls[Ls.length - 1]?).getD []).length ≤ ix := by
          rw [List.getElem?_eq_getElem (by omega)]
          exact h.les _ (List.getElem_mem _)
        simp
        omega
theorem DInv.bad {rs : List (Option (Option It))} {ix : Nat} {Ls : List (List It)} (h : DInv rs ix Ls) (hr : rs[ix]? = some none) (hn : rs.length ≤ 400) : dskL rs = ([], (ix : Int) + 1) := by
  obtain ⟨hi, he⟩ := List.getElem?_eq_some_iff.1 hr
  have h1 := h.run
  rw [List.drop_eq_getElem_cons hi, he] at h1
  unfold dskL
  rw [if_neg (by omega), h1]
  show dFin rs.length ([], (ix : Int) + 1) = _
  unfold dFin
  rw [if_neg (by show ¬ ((ix : Int) + 1 = 0); omega)]
theorem DInv.all {rs : List (Option (Option It))} {ix : Nat} {Ls : List (List It)} (h : DInv rs ix Ls) (hx : rs.length ≤ ix) (hn : rs.length ≤ 400) : dskL rs = if Ls.all okLog = true then (Ls, 0) else ([], (rs.length : Int) + 1) := by
  have h1 := h.run
  rw [List.drop_eq_nil_of_le hx] at h1
  unfold dskL
  rw [if_neg (by omega), h1]
  rfl
theorem dskL_long {rs : List (Option (Option It))} (h : 400 < rs.length) : dskL rs = ([], 401) := if_pos h
theorem put_last {Ls : List (List It)} {l : List It} {x : It} (h : Ls[Ls.length - 1]? = some l) : putL Ls (some x) = Ls.set (Ls.length - 1) (l ++ [x]) := by
  show Ls.set _ ((Ls[Ls.length - 1]?).getD [] ++ [x]) = _
  rw [h]
  rfl
theorem all_ttL {xs : List (List It)} {k : Nat} {x : List It} (h : (xs.take k).all okLog = true) (hx : xs[k]? = some x) (hp : okLog x = true) : (xs.take (k + 1)).all okLog = true := by
  rw [List.take_add_one, hx, List.all_append, h]
  simp [hp]
theorem all_ffL {xs : List (List It)} {k : Nat} {x : List It} (hx : xs[k]? = some x) (hp : okLog x = false) : xs.all okLog = false := by
  rw [List.all_eq_false]
  exact ⟨x, List.mem_of_getElem? hx, by simp [hp]⟩
theorem dskL_len (rs : List (Option (Option It))) : (dskL rs).1.length ≤ 401 ∧ ∀ l ∈ (dskL rs).1, l.length ≤ 400 := by
  unfold dskL
  split
  · exact ⟨by simp, fun l hl => by simp at hl⟩
  · rename_i h9
    have key : ∀ (rs : List (Option (Option It))) (i : Nat) (Ls : List (List It)), Ls.length ≤ i + 1 → (∀ l ∈ Ls, l.length ≤ i) → (dRun rs i Ls).1.length ≤ i + rs.length + 1 ∧ ∀ l ∈ (dRun rs i Ls).1, l.length ≤ i + rs.length := by
      intro rs
      induction rs with
      | nil => intro i Ls h1 h2; exact ⟨by simpa [dRun] using h1, by simpa [dRun] using h2⟩
      | cons r rs ih =>
        intro i Ls h1 h2
        cases r with
        | none => exact ⟨by simp [dRun], fun l hl => by simp [dRun] at hl⟩
        | some r =>
          have := ih (i + 1) (putL Ls r) (by unfold putL; split <;> simp <;> omega) (by
            intro l hl
            unfold putL at hl
            split at hl
            · rcases List.mem_append.1 hl with hl | hl
              · have := h2 l hl; omega
              · simp at hl; subst hl; simp
            · rcases List.mem_or_eq_of_mem_set hl with hl | hl
              · have := h2 l hl; omega
              · subst hl
                have : ((Ls[Ls.length - 1]?).getD []).length ≤ i := by
                  cases hq : Ls[Ls.length - 1]? with
                  | none => simp
                  | some z => exact h2 z (List.mem_of_getElem? hq)
                simp
                omega)
          show (dRun rs (i + 1) (putL Ls r)).1.length ≤ _ ∧ ∀ l ∈ (dRun rs (i + 1) (putL Ls r)).1, _
          simp only [List.length_cons]
          exact ⟨by omega, fun l hl => by have := this.2 l hl; omega⟩
    have hk := key rs 0 [[]] (by simp) (by simp)
    unfold dFin
    split
    · split
      · exact ⟨by show (dRun rs 0 [[]]).1.length ≤ 401; omega, fun l hl => by have := hk.2 l hl; omega⟩
      · exact ⟨by simp, fun l hl => by simp at hl⟩
    · exact ⟨by omega, fun l hl => by have := hk.2 l hl; omega⟩
end Go.Proofs.YtcokdcehjibanaaGreatDoor
/- Proved here: logs are compared, marked, and found so. -/
namespace Go.Proofs.YtcokdcehjibanaaGreatDoor
open Go.ChangeShapes Go.WideShapes Go.ChangeAt Go.RowKit
set_option linter.unusedVariables false
set_option linter.unusedSimpArgs false
end Go.Proofs.YtcokdcehjibanaaGreatDoor
/- Proved here: a slice of texts is marked, and found again; an append to a slice of the call's own, as one step of a statement whose order is open. -/
namespace Go.Proofs.YtcokdcehjibanaaGreatDoor
open Go.ChangeShapes Go.WideShapes Go.ChangeAt Go.RowKit
set_option linter.unusedVariables false

theorem grown_bel {w wr w' : World} {row : Option Nat} (h : w.grownBy wr row) (hb : Below wr.heap.size wr w') : w.grownBy w' row :=
  ⟨hb.os.trans h.os, hb.tape.trans h.tape, hb.output.trans h.output, Nat.le_trans h.size hb.size, fun k hk hne => (hb.block k (Nat.lt_of_lt_of_le hk h.size)).trans (h.block k hk hne)⟩

end Go.Proofs.YtcokdcehjibanaaGreatDoor
/- Proved here: a slice of texts that came in: read, copied, and how long it all is. -/
namespace Go.Proofs.YtcokdcehjibanaaGreatDoor
open Go.ChangeShapes Go.WideShapes Go.ChangeAt Go.RowKit Go.Deep
set_option linter.unusedVariables false
set_option linter.unusedSimpArgs false

section
variable {H : Type} {enc : TypeId × Value → H} {P : Program} {w : World} {base : Nat} {spare : Nat → Bool} {held : Bool}

theorem openSt {t e : TypeId} {a : Option Addr} {len cap : Nat} {d : DataW H} {p : List MemPlace} (ht : P.underlying t = some (.slice e)) (he : P.underlying e = some .string) (hC : P.cellsOf e = 1)
    (h : DataW.Trod enc P w base spare held t (.slice a len cap) d p) : ∃ L : List ByteArray, StRs w a len (stL L) ∧ ∀ x ∈ L, x.size ≤ maxLen := by
  obtain ⟨fuel, hf⟩ := h
  rcases open_slice ht hf with ⟨hcs, _⟩ | ⟨a', len', cap', m, n, D, Pl, hcs, _, hl, hm, hmm, _, hx⟩
  · simp [Value.cells] at hcs
    obtain ⟨rfl, rfl, rfl⟩ := hcs
    exact ⟨[], ⟨rfl, Nat.zero_le _, Or.inl rfl⟩, by simp⟩
  · simp [Value.cells] at hcs
    obtain ⟨rfl, rfl, rfl⟩ := hcs
    have hlm : len ≤ m := by rw [hmm]; split <;> omega
    have hall : ∀ i, i < len → ∃ z : ByteArray, (i = 0 → a'.spot = none) ∧ w.cell? ⟨a'.block, a'.off + i, none⟩ = some (.string z) ∧ z.size ≤ maxLen := by
      intro i hi
      obtain ⟨cs', h1, h2⟩ := hx i (by omega)
      rw [hC] at h1
      obtain ⟨z, rfl, _, hw⟩ := DataW.trod_string he h2
      obtain ⟨_, _, hc⟩ := World.cells?_some h1
      have c0 := hc 0 (by omega)
      have hsp : (a'.add (i * 1)).spot = none := World.cell?_spot (w := w) (a := a'.add (i * 1)) (v := .string z) (by simpa [Addr.add] using c0)
      have ha : a'.add (i * 1) = ⟨a'.block, a'.off + i, none⟩ := by
        cases a' with
        | mk g o sp =>
          simp only [Addr.add] at hsp ⊢
          split at hsp <;> simp_all
      refine ⟨z, fun h0 => ?_, ?_, hw⟩
      · subst h0
        simpa [Addr.add] using hsp
      · rw [← ha]
        simpa [Addr.add] using c0
    by_cases h0 : len = 0
    · subst h0
      exact ⟨[], ⟨rfl, Nat.zero_le _, Or.inl rfl⟩, by simp⟩
    have hinh : Inhabited ByteArray := ⟨⟨#[]⟩⟩
    obtain ⟨f, hf'⟩ := choose_lt hall
    have hsp := (hf' 0 (by omega)).1 rfl
    refine ⟨(List.range len).map f, ⟨by simp [stL], by omega, Or.inr ⟨a'.block, a'.off, by cases a'; simp_all, ?_⟩⟩, ?_⟩
    · intro i x hix
      simp only [stL, List.map_map, List.getElem?_map, Option.map_eq_some_iff] at hix
      obtain ⟨j, hj, rfl⟩ := hix
      have hil : i < len := by
        rcases Nat.lt_or_ge i len with h' | h'
        · exact h'
        · rw [List.getElem?_eq_none (by simpa using h')] at hj; cases hj
      rw [List.getElem?_eq_getElem (by simpa using hil)] at hj
      simp at hj
      subst hj
      have := (hf' i hil).2.1
      show w.cell? ⟨a'.block, a'.off + i * 1, none⟩ = _
      rw [Nat.mul_one]; exact this
    · intro x hxm
      simp only [List.mem_map, List.mem_range] at hxm
      obtain ⟨i, hi, rfl⟩ := hxm
      exact (hf' i hi).2.2
end
theorem st_at {W : World} {g o n : Nat} {L : List ByteArray} (h : StRs W (some ⟨g, o, none⟩) n (stL L)) {k : Nat} {x : ByteArray} (hx : L[k]? = some x) : W.cell? ⟨g, o + k, none⟩ = some (.string x) ∧ g < W.heap.size := by
  have hk := (List.getElem?_eq_some_iff.1 hx).1
  have hn : n = L.length := by have := h.1; rw [stL_len] at this; omega
  have hlt := h.lt (by omega)
  obtain ⟨_, _, h3⟩ := h
  obtain ⟨g', o', ha, hr⟩ := h3.resolve_left (by omega)
  simp at ha
  obtain ⟨rfl, rfl⟩ := ha
  have h1 : (stL L)[k]? = some ⟨x⟩ := by simp [stL, hx]
  have h2 := hr k _ h1
  unfold StRAt at h2
  rw [Nat.mul_one] at h2
  exact ⟨h2, hlt⟩
theorem mkSt (len : Nat) (hl : len ≤ 1048576) : ∃ C : Array Value, C.size = len * 1 ∧ ∀ w : World, (Instr.makeSlice 25 (.int .i64 (len : Int)) (.int .i64 (len : Int))).run Tryz.prog w = .ok (.slice (some ⟨w.heap.size, 0, none⟩) len len) (w.alloc (.cells C 9)) := by
  obtain ⟨i0, hi, hz0, hz1, hz2⟩ := info_parts Tryz.infoStrW
  refine ⟨madeCells (Value.string ⟨#[]⟩).cells (len * i0.size), by rw [size_madeCells, hz1], fun w => ?_⟩
  have h := run_make (P := Tryz.prog) w 25 9 i0 _ Tryz.underlying25 hi hz0 .i64 .i64 len len (by omega) (Int.le_refl _) (by rw [hz2]; omega) (by omega)
  simpa using h
end Go.Proofs.YtcokdcehjibanaaGreatDoor
/- Proved here, for any program: an append to a slice of the call's own, as one step of a statement whose order is open. -/
namespace Go.Proofs.YtcokdcehjibanaaGreatDoor
open Go.ChangeShapes Go.WideShapes Go.ChangeAt Go.RowKit
set_option linter.unusedVariables false

theorem step_append_at {P : Program} {ops : Array Oper} {o : Oper} {a : Act} {w : World} {K : Act → World → Prop} {Q : Exit → Act → World → Prop} {E : Prop}
    (hg : o.guard = none) (s x : Operand) (t : TypeId) (hop : o.op = Op.call { callee := Callee.builtin Builtin.append, args := #[s, x], argTypes := #[t, t] }) (base : Nat)
    (e : TypeId) (i : TypeInfo) (z : Value) (size bytes : Nat) (h1 : P.underlying t = some (.slice e)) (h2 : P.info? e = some i) (h3 : i.zero = some z) (h4 : i.size = size) (h5 : i.bytes = bytes) (h6 : z.cells.size = size) (h7 : 0 < size)
    (v : Value) (n : Nat) (xs : List Value) (hs : a.eval s = v) (hown : w.ownsRow base e size v n xs)
    (ad : Addr) (m c : Nat) (news : List Value) (hx : a.eval x = .slice (some ad) m c) (hn : news.length = m * size) (hc : ∀ j u, news[j]? = some u → w.cell? (ad.add j) = some u) (h1c : ∀ u ∈ news, u.oneCell' = true)
    (b1 : n + m ≤ maxLen) (b2 : (n + m) * bytes ≤ 140737488355328) (hbase : base ≤ w.heap.size)
    (hK : ∀ v' w', w'.ownsRow base e size v' (n + m) (xs ++ news) → w.grownBy w' v.ownBlock → (v'.ownBlock = v.ownBlock ∨ v'.ownBlock = some w.heap.size) → K (a.put o.dst v') w') :
    if Region.wanted o (yielded ops a.tmps) = true then Oper.wp P o a w K Q else E := by
  have hw : Region.wanted o (yielded ops a.tmps) = true := by simp [Region.wanted, hg]
  rw [if_pos hw]
  obtain ⟨v', w', hrun, r1, r2, _, r3⟩ := run_append_own_at (P := P) (w := w) base t o.type e i z size bytes h1 h2 h3 h4 h5 h6 h7 v n xs hown ad m c news hn hc h1c b1 b2 hbase
  unfold Oper.wp
  simp [execOp, hop, resolve, invoke, builtin, hs, hx, hrun, Result.andThen]
  exact hK v' w' r1 r2 r3

theorem own_lt {W : World} {B : Nat} {e : TypeId} {size n : Nat} {v : Value} {xs : List Value} (h : W.ownsRow B e size v n xs) : ∀ k, v.ownBlock = some k → k < W.heap.size := by
  intro k hk
  rcases h.2 with ⟨rfl, _⟩ | ⟨g, cap, cur, rfl, hg, hblk, _⟩
  · cases hk
  · simp [Value.ownBlock] at hk
    subst hk
    exact (Array.getElem?_eq_some_iff.1 hblk).1
end Go.Proofs.YtcokdcehjibanaaGreatDoor
/- Proved here: in a region whose order is drawn a load may be taken first where whoever writes its cell waits for it: a condition on the world that holds till the first of some operations ('spoilers') has come up. -/
namespace Go.Proofs.YtcokdcehjibanaaGreatDoor
open Go.ChangeShapes Go.WideShapes Go.ChangeAt Go.RowKit Go.Deep
set_option linter.unusedVariables false

section
variable {P : Program} {ops : Array Oper} {Q : Exit → Act → World → Prop} {md : Region.Mode} {S0 : World → Prop} {sp : List Nat}

/-- No spoiler has come up. -/
def unsp (sp : List Nat) (l : Array Bool) : Bool := sp.all fun s => !(l.getD s true)

/-- The condition, as long as no spoiler has come up. -/
def SL (sp : List Nat) (S0 : World → Prop) (l : Array Bool) (w : World) : Prop := unsp sp l = true → S0 w

theorem SL_of {l : Array Bool} {w : World} (h : unsp sp l = false) : SL sp S0 l w := fun h9 => by rw [h] at h9; cases h9

theorem unsp_set {l : Array Bool} {i : Nat} (h : i ∉ sp) : unsp sp (l.setIfInBounds i true) = unsp sp l := by
  unfold unsp
  induction sp with
  | nil => rfl
  | cons s sp ih =>
    simp only [List.all_cons]
    rw [ih (fun h9 => h (List.mem_cons_of_mem _ h9)), getD_set_ne true (fun e => h (by rw [e]; exact List.mem_cons_self))]

/-- All that those who have come up waited for has come up. -/
def Closed (md : Region.Mode) (ops : Array Oper) (l : Array Bool) : Prop := ∀ (s : Nat) (o : Oper), ops[s]? = some o → l.getD s false = true → ∀ e ∈ o.after, Region.binds md e = true → l.getD e.on false = true

def closedB (md : Region.Mode) (ops : Array Oper) (l : Array Bool) : Bool := (List.range ops.size).all fun s => !(l.getD s false) || (match ops[s]? with
  | none => true
  | some o => o.after.all fun e => !(Region.binds md e) || l.getD e.on false)

theorem closedB_spec {l : Array Bool} (h : closedB md ops l = true) : Closed md ops l := by
  intro s o ho hl e he hb
  have hs : s < ops.size := (Array.getElem?_eq_some_iff.1 ho).1
  have h1 := List.all_eq_true.1 h s (List.mem_range.2 hs)
  rw [hl, ho] at h1
  simp only [Bool.not_true, Bool.false_or] at h1
  have h2 := Array.all_eq_true_iff_forall_mem.1 h1 e he
  rw [hb] at h2
  simpa using h2

theorem Closed.set {l : Array Bool} {j : Nat} {oj : Oper} (h : Closed md ops l) (hj : ops[j]? = some oj) (hall : ∀ e ∈ oj.after, Region.binds md e = true → l.getD e.on false = true) : Closed md ops (l.setIfInBounds j true) := by
  intro s o ho hl e he hb
  by_cases hsj : j = s
  · subst hsj
    rw [hj] at ho
    cases ho
    exact getD_set_true (hall e he hb)
  · rw [getD_set_ne false hsj] at hl
    exact getD_set_true (h s o ho hl e he hb)

/-- Number s waits, through others, for number i. -/
def reach (md : Region.Mode) (ops : Array Oper) (i : Nat) : Nat → Nat → Bool
  | 0, s => s == i
  | f + 1, s => s == i || (match ops[s]? with
    | none => false
    | some o => o.after.any fun e => Region.binds md e && reach md ops i f e.on)

theorem reach_listed {l : Array Bool} {i : Nat} (h : Closed md ops l) : ∀ (f s : Nat), reach md ops i f s = true → l.getD s false = true → l.getD i false = true
  | 0, s, hr, hl => by
    have : s = i := by simpa [reach] using hr
    rw [← this]; exact hl
  | f + 1, s, hr, hl => by
    unfold reach at hr
    rw [Bool.or_eq_true] at hr
    rcases hr with hr | hr
    · have : s = i := by simpa using hr
      rw [← this]; exact hl
    · cases ho : ops[s]? with
      | none => rw [ho] at hr; cases hr
      | some o =>
        rw [ho] at hr
        obtain ⟨e, he, h2⟩ : ∃ e ∈ o.after, (Region.binds md e && reach md ops i f e.on) = true := by
          obtain ⟨k, hk, h8⟩ := Array.any_eq_true.1 hr
          exact ⟨_, Array.getElem_mem hk, h8⟩
        rw [Bool.and_eq_true] at h2
        exact reach_listed h f e.on h2.2 (h s o ho hl e he h2.1)

/-- All spoilers wait for number i, which is none. -/
def spWait (md : Region.Mode) (ops : Array Oper) (sp : List Nat) (i : Nat) : Bool := sp.all fun s => !(s == i) && decide (s < ops.size) && reach md ops i 8 s

theorem unl {l : Array Bool} {i : Nat} (h : l.getD i true = false) : l.getD i false = false := by
  rcases Nat.lt_or_ge i l.size with h' | h'
  · simp [h'] at h ⊢; exact h
  · simp [Array.getElem?_eq_none h'] at h

theorem spWait_un {l : Array Bool} {i : Nat} (hw : spWait md ops sp i = true) (hc : Closed md ops l) (hz : l.size = ops.size) (hi : l.getD i true = false) : unsp sp l = true := by
  unfold unsp
  rw [List.all_eq_true]
  intro s hs
  have h1 := List.all_eq_true.1 hw s hs
  simp only [Bool.and_eq_true, decide_eq_true_eq] at h1
  cases hl : l.getD s true with
  | false => rfl
  | true =>
    have hlf : l.getD s false = true := by
      have hs' : s < l.size := by omega
      simp [hs'] at hl ⊢; exact hl
    have := reach_listed hc 8 s h1.2 hlf
    rw [unl hi] at this
    cases this

theorem spWait_not {i : Nat} (hw : spWait md ops sp i = true) : i ∉ sp := fun h => by
  have h1 := List.all_eq_true.1 hw i h
  simp at h1

/-- Whatever order is picked from here on, and the condition holds behind every operation till a spoiler has come up. -/
def wpAnyP (P : Program) (md : Region.Mode) (ops : Array Oper) (Q : Exit → Act → World → Prop) (sp : List Nat) (S0 : World → Prop) : Nat → Array Bool → Act → World → Prop
  | 0, listed, a, w => Region.ready md ops listed = [] ∧ Q .normal a w
  | fuel + 1, listed, a, w => (Region.ready md ops listed = [] → Q .normal a w) ∧ ∀ i ∈ Region.ready md ops listed, wpOp P ops Q i (fun a' w' => SL sp S0 (listed.setIfInBounds i true) w' ∧ wpAnyP P md ops Q sp S0 fuel (listed.setIfInBounds i true) a' w') a w

theorem wpAny_of_P : ∀ (fuel : Nat) (listed : Array Bool) (a : Act) (w : World), wpAnyP P md ops Q sp S0 fuel listed a w → wpAny P md ops Q fuel listed a w
  | 0, _, _, _, h => h
  | fuel + 1, _, _, _, h => ⟨h.1, fun i hi => wpOp_mono (fun a' w' h' => wpAny_of_P fuel _ a' w' h'.2) (h.2 i hi)⟩

theorem wpAnyP_first {T : World → Prop} {i : Nat} {oi : Oper} {v : Value} (hi : ops[i]? = some oi) (hsel : ∀ (j : Nat) (o : Oper) cs b, ops[j]? = some o → o.op ≠ .select cs b) (hQ : ∀ c a w, Q (.panic c) (a.put oi.dst v) w → Q (.panic c) a w) (hisp : i ∉ sp) (hT : ∀ l w, Closed md ops l → l.size = ops.size → l.getD i true = false → SL sp S0 l w → T w) :
    ∀ (fuel : Nat) (listed : Array Bool) (a : Act) (w : World),
      (∀ j oj, ops[j]? = some oj → j ≠ i → listed.getD j true = false → (∀ e ∈ oj.after, Region.binds md e = true → e.on ≠ i) → oi.apart ops oj = true) →
      i ∈ Region.ready md ops listed → Closed md ops listed → listed.size = ops.size → YieldsIf P ops T oi v a → SL sp S0 listed w →
      wpAnyP P md ops Q sp S0 fuel (listed.setIfInBounds i true) (a.put oi.dst v) w → wpAnyP P md ops Q sp S0 (fuel + 1) listed a w := by
  intro fuel
  induction fuel with
  | zero =>
    intro listed a w _ hr hc hz hy hS H
    refine ⟨fun h => (by rw [h] at hr; cases hr), fun j hj => ?_⟩
    by_cases hji : j = i
    · subst hji
      exact hy.wpOp hi (hT listed w hc hz (mem_ready.1 hr).1 hS) ⟨fun h9 => hS (by rw [unsp_set hisp] at h9; exact h9), H⟩
    · have := ready_mono hj hji
      rw [H.1] at this
      cases this
  | succ fuel ih =>
    intro listed a w hfree hr hc hz hy hS H
    refine ⟨fun h => (by rw [h] at hr; cases hr), fun j hj => ?_⟩
    by_cases hji : j = i
    · subst hji
      exact hy.wpOp hi (hT listed w hc hz (mem_ready.1 hr).1 hS) ⟨fun h9 => hS (by rw [unsp_set hisp] at h9; exact h9), H⟩
    · have h1 := H.2 j (ready_mono hj hji)
      obtain ⟨hjun, oj, hoj, hall⟩ := mem_ready.1 hj
      have hnot : ∀ e ∈ oj.after, Region.binds md e = true → e.on ≠ i := fun e he hb heq => by
        have h1 := hall e he hb
        have h0 := (mem_ready.1 hr).1
        rw [heq, unl h0] at h1
        cases h1
      have h2 := wpOp_putIf hoj (hfree j oj hoj hji hjun hnot) (fun cs b => hsel i oi cs b hi) (fun cs b => hsel j oj cs b hoj) hQ hy h1
      have hfree' : ∀ k ok, ops[k]? = some ok → k ≠ i → (listed.setIfInBounds j true).getD k true = false →
          (∀ e ∈ ok.after, Region.binds md e = true → e.on ≠ i) → oi.apart ops ok = true := fun k ok hk hki hun hno => by
        refine hfree k ok hk hki ?_ hno
        by_cases hjk : j = k
        · subst hjk; exact hjun
        · rw [getD_set_ne true hjk] at hun; exact hun
      have hsame : ∀ w', SL sp S0 ((listed.setIfInBounds i true).setIfInBounds j true) w' → SL sp S0 (listed.setIfInBounds j true) w' := fun w' h9 h8 => h9 (by
        rw [Array.setIfInBounds_comm _ _ (Ne.symm hji), unsp_set hisp]; exact h8)
      refine wpOp_mono (fun a' w' h3 => ⟨hsame w' h3.2.1, ih (listed.setIfInBounds j true) a' w' hfree' (ready_mono hr (Ne.symm hji)) (hc.set hoj hall) (by simpa using hz) h3.1 (hsame w' h3.2.1) ?_⟩) h2
      rw [Array.setIfInBounds_comm _ _ hji]
      exact h3.2.2

/-- Taken first, by what holds till a spoiler has come up. -/
theorem wpAnyP_take {i : Nat} {oi : Oper} {v : Value} {fuel : Nat} {listed : Array Bool} {a : Act} {w : World} (hi : ops[i]? = some oi) (hs : Region.noSelect ops = true) (hf : Region.free md ops listed i = true) (hr : (Region.ready md ops listed).contains i = true) (hc : (closedB md ops listed && decide (listed.size = ops.size) && spWait md ops sp i) = true) (hQ : ∀ c a w, Q (.panic c) (a.put oi.dst v) w → Q (.panic c) a w) (hy : YieldsIf P ops S0 oi v a) (hS : S0 w)
    (h : wpAnyP P md ops Q sp S0 fuel (listed.setIfInBounds i true) (a.put oi.dst v) w) : wpAnyP P md ops Q sp S0 (fuel + 1) listed a w := by
  simp only [Bool.and_eq_true, decide_eq_true_eq] at hc
  exact wpAnyP_first hi (Region.noSelect_spec hs) hQ (spWait_not hc.2) (fun l w hcl hz hli hSL => hSL (spWait_un hc.2 hcl hz hli)) fuel listed a w (Region.free_spec hi hf) (by simpa using hr) (closedB_spec hc.1.1) hc.1.2 hy (fun _ => hS) h

/-- Taken first: it yields its value in whatever world. -/
theorem wpAnyP_take0 {i : Nat} {oi : Oper} {v : Value} {fuel : Nat} {listed : Array Bool} {a : Act} {w : World} (hi : ops[i]? = some oi) (hs : Region.noSelect ops = true) (hf : Region.free md ops listed i = true) (hr : (Region.ready md ops listed).contains i = true) (hc : (closedB md ops listed && decide (listed.size = ops.size) && !(sp.contains i)) = true) (hQ : ∀ c a w, Q (.panic c) (a.put oi.dst v) w → Q (.panic c) a w) (hy : YieldsIf P ops (fun _ => True) oi v a) (hS : SL sp S0 listed w)
    (h : wpAnyP P md ops Q sp S0 fuel (listed.setIfInBounds i true) (a.put oi.dst v) w) : wpAnyP P md ops Q sp S0 (fuel + 1) listed a w := by
  simp only [Bool.and_eq_true, decide_eq_true_eq, Bool.not_eq_true', ] at hc
  exact wpAnyP_first hi (Region.noSelect_spec hs) hQ (by simpa using hc.2) (fun _ _ _ _ _ _ => trivial) fuel listed a w (Region.free_spec hi hf) (by simpa using hr) (closedB_spec hc.1.1) hc.1.2 hy hS h

theorem wpAnyP_done {listed : Array Bool} {a : Act} {w : World} (hr : Region.ready md ops listed = []) (h : Q .normal a w) :
    ∀ fuel, wpAnyP P md ops Q sp S0 fuel listed a w
  | 0 => ⟨hr, h⟩
  | _ + 1 => ⟨fun _ => h, by rw [hr]; simp⟩

/-- Each of the operations comes up next. -/
def AllReadyP (P : Program) (md : Region.Mode) (ops : Array Oper) (Q : Exit → Act → World → Prop) (sp : List Nat) (S0 : World → Prop) (fuel : Nat) (listed : Array Bool) (a : Act) (w : World) (rs : List Nat) : Prop :=
  ∀ i ∈ rs, wpOp P ops Q i (fun a' w' => SL sp S0 (listed.setIfInBounds i true) w' ∧ wpAnyP P md ops Q sp S0 fuel (listed.setIfInBounds i true) a' w') a w

theorem AllReadyP.nil {fuel : Nat} {listed : Array Bool} {a : Act} {w : World} : AllReadyP P md ops Q sp S0 fuel listed a w [] := fun _ h => by cases h

theorem AllReadyP.cons {fuel : Nat} {listed : Array Bool} {a : Act} {w : World} {i : Nat} {o : Oper} {rs : List Nat} (ho : ops[i]? = some o)
    (h : ∀ K' : Act → World → Prop, Shut (∀ a w, S0 w → (S0 w → wpAnyP P md ops Q sp S0 fuel (listed.setIfInBounds i true) a w) → K' a w) → if Region.wanted o (yielded ops a.tmps) = true then Oper.wp P o a w K' Q else K' (a.put o.dst undef) w)
    (hs : AllReadyP P md ops Q sp S0 fuel listed a w rs) : AllReadyP P md ops Q sp S0 fuel listed a w (i :: rs) := fun j hj => by
  rcases List.mem_cons.1 hj with rfl | hj
  · exact wpOp_step ho (fun K' hK => h K' (fun a w hS hW => hK a w ⟨fun _ => hS, hW hS⟩))
  · exact hs j hj

/-- One that is a spoiler, or comes behind one. -/
theorem AllReadyP.consS {fuel : Nat} {listed : Array Bool} {a : Act} {w : World} {i : Nat} {o : Oper} {rs : List Nat} (ho : ops[i]? = some o) (hu : unsp sp (listed.setIfInBounds i true) = false)
    (h : ∀ K' : Act → World → Prop, Shut (∀ a w, wpAnyP P md ops Q sp S0 fuel (listed.setIfInBounds i true) a w → K' a w) → if Region.wanted o (yielded ops a.tmps) = true then Oper.wp P o a w K' Q else K' (a.put o.dst undef) w)
    (hs : AllReadyP P md ops Q sp S0 fuel listed a w rs) : AllReadyP P md ops Q sp S0 fuel listed a w (i :: rs) := fun j hj => by
  rcases List.mem_cons.1 hj with rfl | hj
  · exact wpOp_step ho (fun K' hK => h K' (fun a w hW => hK a w ⟨SL_of hu, hW⟩))
  · exact hs j hj

theorem wpAnyP_ready {rs : List Nat} {fuel : Nat} {listed : Array Bool} {a : Act} {w : World} (hr : Region.ready md ops listed = rs) (hne : rs ≠ [])
    (h : AllReadyP P md ops Q sp S0 fuel listed a w rs) : wpAnyP P md ops Q sp S0 (fuel + 1) listed a w := ⟨fun h0 => absurd (hr ▸ h0) hne, hr ▸ h⟩

theorem wp_region_P {id : Nat} {a : Act} {w : World} (sp : List Nat) (S0 : World → Prop) (hm : P.follows .mixedOrders = true) (hS : S0 w.drew)
    (h : S0 w.drew → wpAnyP P .any ops Q sp S0 ops.size (Array.replicate ops.size false) a w.drew) : (Code.region id ops true).wp P Q a w :=
  wp_region_any hm (wpAny_of_P _ _ _ _ (h hS))
end
end Go.Proofs.YtcokdcehjibanaaGreatDoor
