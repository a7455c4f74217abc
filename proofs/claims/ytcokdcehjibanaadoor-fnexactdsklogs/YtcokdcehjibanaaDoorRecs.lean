/- Proved here: the records of a log that the specification tells, in new memory. -/
import Derived.Test.YtcokdcehjibanaaDoorLogImpl
import Derived.OwnWalk
namespace Go.Proofs.YtcokdcehjibanaaDoor
open Go.ChangeShapes Go.WideShapes Go.ChangeAt Go.RowKit
set_option linter.unusedVariables false

/-- The cells of items. -/
def It.cells (x : It) : List Value := [.int .i64 x.q, .int .i64 x.t, .int .i64 x.k, .int .i64 x.v, .int .i64 x.n]
def flat (xs : List It) : List Value := xs.flatMap It.cells
theorem flat_snoc (xs : List It) (x : It) : flat (xs ++ [x]) = flat xs ++ x.cells := by simp [flat]
theorem flat_len (xs : List It) : (flat xs).length = xs.length * 5 := by
  induction xs with
  | nil => rfl
  | cons x r ih => show (x.cells ++ flat r).length = _; rw [List.length_append, ih]; simp [It.cells]; omega
theorem flat_get {xs : List It} {i : Nat} {x : It} (h : xs[i]? = some x) : (flat xs)[i * 5]? = some (.int .i64 x.q) ∧ (flat xs)[i * 5 + 1]? = some (.int .i64 x.t) ∧ (flat xs)[i * 5 + 2]? = some (.int .i64 x.k) ∧ (flat xs)[i * 5 + 3]? = some (.int .i64 x.v) ∧ (flat xs)[i * 5 + 4]? = some (.int .i64 x.n) := by
  induction xs generalizing i with
  | nil => simp at h
  | cons y r ih =>
    have hf : flat (y :: r) = y.cells ++ flat r := rfl
    cases i with
    | zero =>
      simp at h
      subst h
      rw [hf]
      exact ⟨rfl, rfl, rfl, rfl, rfl⟩
    | succ i =>
      simp at h
      obtain ⟨h0, h1, h2, h3, h4⟩ := ih h
      have hl : y.cells.length = 5 := rfl
      rw [hf]
      refine ⟨?_, ?_, ?_, ?_, ?_⟩
      · rw [List.getElem?_append_right (by omega), hl, show (i + 1) * 5 - 5 = i * 5 by omega]; exact h0
      · rw [List.getElem?_append_right (by omega), hl, show (i + 1) * 5 + 1 - 5 = i * 5 + 1 by omega]; exact h1
      · rw [List.getElem?_append_right (by omega), hl, show (i + 1) * 5 + 2 - 5 = i * 5 + 2 by omega]; exact h2
      · rw [List.getElem?_append_right (by omega), hl, show (i + 1) * 5 + 3 - 5 = i * 5 + 3 by omega]; exact h3
      · rw [List.getElem?_append_right (by omega), hl, show (i + 1) * 5 + 4 - 5 = i * 5 + 4 by omega]; exact h4

/-- A slice of the call's own holds items. -/
def OwnIts (W : World) (B : Nat) (v : Value) (ys : List It) : Prop := W.ownsRow B 34 5 v ys.length (flat ys)
theorem own_ge {W : World} {B : Nat} {v : Value} {ys : List It} (h : OwnIts W B v ys) : ∀ k, v.ownBlock = some k → B ≤ k := by
  intro k hk
  rcases h.2 with ⟨rfl, _⟩ | ⟨g, cap, cur, rfl, hg, _⟩
  · cases hk
  · simp [Value.ownBlock] at hk; omega

/-- The records that are not too small. -/
def isRec (least : Int) (x : It) : Bool := x.q == 1 && decide (least ≤ x.v)
def recs (least : Int) (xs : List It) : List It := xs.filter (isRec least)
theorem recs_snoc (least : Int) (xs : List It) (x : It) : recs least (xs ++ [x]) = if isRec least x = true then recs least xs ++ [x] else recs least xs := by
  unfold recs
  rw [List.filter_append]
  cases h : isRec least x <;> simp [h]
theorem recs_take {least : Int} {xs : List It} {k : Nat} {x : It} (h : xs[k]? = some x) : recs least (xs.take (k + 1)) = if isRec least x = true then recs least (xs.take k) ++ [x] else recs least (xs.take k) := by
  rw [take_snoc h, recs_snoc]
theorem recs_len (least : Int) (xs : List It) (k : Nat) : (recs least (xs.take k)).length ≤ k := Nat.le_trans (List.length_filter_le _ _) (List.length_take_le _ _)

/-- One item more. -/
theorem own_step {least : Int} {xs : List It} {k : Nat} {x : It} {w1 : World} {B : Nat} {v' : Value} (h : xs[k]? = some x) (hr : isRec least x = true)
    (ho : w1.ownsRow B 34 5 v' ((recs least (xs.take k)).length + 1) (flat (recs least (xs.take k)) ++ x.cells)) : OwnIts w1 B v' (recs least (xs.take (k + 1))) := by
  unfold OwnIts
  rw [recs_take h, if_pos hr, flat_snoc]
  simpa using ho
theorem own_skip {least : Int} {xs : List It} {k : Nat} {x : It} {w1 : World} {B : Nat} {v : Value} (h : xs[k]? = some x) (hr : isRec least x = false) (ho : OwnIts w1 B v (recs least (xs.take k))) : OwnIts w1 B v (recs least (xs.take (k + 1))) := by
  rw [recs_take h, if_neg (by simp [hr])]; exact ho

theorem cells_new5 (w : World) (q t k v n : Int) (ty : Nat) : ∀ j u, ([.int .i64 q, .int .i64 t, .int .i64 k, .int .i64 v, .int .i64 n] : List Value)[j]? = some u → (w.alloc (.cells #[.int .i64 q, .int .i64 t, .int .i64 k, .int .i64 v, .int .i64 n] ty)).cell? ((⟨w.heap.size, 0, none⟩ : Addr).add j) = some u := by
  intro j u hj
  have e : ((⟨w.heap.size, 0, none⟩ : Addr).add j) = ⟨w.heap.size, j, none⟩ := by
    unfold Addr.add
    split
    · rename_i h0; rw [h0]
    · simp
  rw [e]
  simpa [go_sem] using hj
end Go.Proofs.YtcokdcehjibanaaDoor
