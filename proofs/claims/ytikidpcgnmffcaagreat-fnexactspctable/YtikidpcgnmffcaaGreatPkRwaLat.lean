/- Laid together: what the claim needs of the texts that were built one by one. -/
import Derived.Test.YtikidpcgnmffcaaGreatPkBase
import Derived.Test.YtikidpcgnmffcaaGreatPkRwLat
namespace Go.Proofs.YtikidpcgnmffcaaGreat
open Go.ChangeShapes Go.WideShapes Go.ChangeAt Go.RowKit Go.Deep
set_option linter.unusedVariables false

/-- Each number is an int. -/
def LpR.ok64 (x : LpR) : Prop := (-9223372036854775808 ≤ x.kd ∧ x.kd ≤ 9223372036854775807) ∧ (-9223372036854775808 ≤ x.tm ∧ x.tm ≤ 9223372036854775807) ∧ (-9223372036854775808 ≤ x.ke ∧ x.ke ≤ 9223372036854775807) ∧ (-9223372036854775808 ≤ x.va ∧ x.va ≤ 9223372036854775807) ∧ (-9223372036854775808 ≤ x.nn ∧ x.nn ≤ 9223372036854775807) ∧ (-9223372036854775808 ≤ x.st ∧ x.st ≤ 9223372036854775807) ∧ (-9223372036854775808 ≤ x.en ∧ x.en ≤ 9223372036854775807)


theorem Tryz.infoLp : (Tryz.prog.info? 44).map (fun i => (i.zero, i.size, i.bytes)) = some (some (.agg #[.int .i64 0, .int .i64 0, .int .i64 0, .int .i64 0, .int .i64 0, .int .i64 0, .int .i64 0]), 7, 56) := by kernel_rfl

/-- The slice that is being filled. -/
def FillLp (W : World) (g ty len : Nat) (ys : List LpR) : Prop := BlkLp W g ty len ∧ ∀ i x, ys[i]? = some x → LpRAt W g (i * 7) x

theorem FillLp.step {wr w' : World} {g ty len k : Nat} {xs : List LpR} {x : LpR} (h : FillLp wr g ty len (xs.take k)) (hb : Below wr.heap.size wr w') (hk : k < len) (hx : xs[k]? = some x) : FillLp (setLp w' g (k * 7) x) g ty len (xs.take (k + 1)) := by
  have hB := h.1.below hb h.1.lt
  refine ⟨hB.sets x, fun i y hy => ?_⟩
  have hik : i < k + 1 := by
    rcases Nat.lt_or_ge i (k + 1) with h' | h'
    · exact h'
    · rw [List.getElem?_eq_none (by simp; omega)] at hy; cases hy
  rw [List.getElem?_take_of_lt hik] at hy
  by_cases he : i = k
  · subst he
    rw [hx] at hy
    cases hy
    exact setLp_this hB hk x
  · refine setLp_ne ?_ he
    exact (h.2 i y (by rw [List.getElem?_take_of_lt (by omega)]; exact hy)).below hb h.1.lt

theorem FillLp.start {w : World} {ty len : Nat} {C : Array Value} (hC : C.size = len * 7) (xs : List LpR) : FillLp (w.alloc (.cells C ty)) w.heap.size ty len (xs.take 0) :=
  ⟨⟨C, by show (w.heap.push _)[w.heap.size]? = _; simp, hC⟩, fun i x h => by simp at h⟩

theorem FillLp.done {W : World} {g ty len k : Nat} {xs : List LpR} (h : FillLp W g ty len (xs.take k)) (hk : xs.length ≤ k) : LpRsAt W g 0 xs := by
  intro i x hx
  rw [List.take_of_length_le hk] at h
  simpa using h.2 i x hx
end Go.Proofs.YtikidpcgnmffcaaGreat
