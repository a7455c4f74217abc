/- Laid together: what the claim needs of the texts that were built one by one. -/
import Derived.Test.YtblmhpngaccllaaPkIdx
import Derived.Test.YtblmhpngaccllaaPkBase
namespace Go.Proofs.Ytblmhpngaccllaa
open Go.ChangeShapes Go.WideShapes Go.ChangeAt Go.RowKit
set_option linter.unusedVariables false

theorem ret_pb {a b : Bool} (h : b = a) : Ending.returned (.bool a) = .returned (.bool b) := by rw [h]

theorem aheadR_ky {r x : TbR} (h : ¬ r.ky = x.ky) : aheadR r x = decide (r.ky < x.ky) := by
  unfold aheadR plCmp orI cmpI
  by_cases h1 : r.ky < x.ky
  · simp [h1]
  · have h2 : x.ky < r.ky := by omega
    simp [h1, h2]

theorem aheadR_st {r x : TbR} (h : r.ky = x.ky) (h2 : ¬ r.st = x.st) : aheadR r x = decide (r.st < x.st) := by
  unfold aheadR plCmp orI cmpI
  by_cases h1 : r.st < x.st
  · simp [h, h1]
  · have h3 : x.st < r.st := by omega
    simp [h, h1, h3]

theorem aheadR_en {r x : TbR} (h : r.ky = x.ky) (h2 : r.st = x.st) : aheadR r x = decide (r.en < x.en) := by
  unfold aheadR plCmp orI cmpI
  by_cases h1 : r.en < x.en
  · simp [h, h2, h1]
  · by_cases h3 : x.en < r.en
    · simp [h, h2, h1, h3]
    · simp [h, h2, h1, h3]

/-- Whether a window is ahead of another one. -/
def lessW (st en st' en' : Int) : Bool := if st = st' then decide (en < en') else decide (st < st')

theorem l2less_any (st en st' en' : Int) (w : World) : Calls Try.prog 44 #[.agg #[.int .i64 st, .int .i64 en], .agg #[.int .i64 st', .int .i64 en']] w fun e w' => e = .returned (.bool (lessW st en st' en')) ∧ Below w.heap.size w w' := by
  by_cases h : st = st'
  · have hq : lessW st en st' en' = decide (en < en') := if_pos h
    have HQ := hide hq
    have h' : (st == st') = true := by simpa using h
    clear hq
    go_enter Try.func44, Try.ntmps44
    go_wp2
    go_ret
    exact ⟨ret_pb (unhide HQ), (belA)⟩
  · have hq : lessW st en st' en' = decide (st < st') := if_neg h
    have HQ := hide hq
    have h' : (st == st') = false := by simpa using h
    clear hq
    go_enter Try.func44, Try.ntmps44
    go_wp2
    go_ret
    exact ⟨ret_pb (unhide HQ), (belA)⟩

theorem ahead_k {r x : TbR} (h : r.ky = x.ky) : lessW r.st r.en x.st x.en = aheadR r x := by
  unfold lessW
  by_cases h2 : r.st = x.st
  · rw [if_pos h2, aheadR_en h h2]
  · rw [if_neg h2, aheadR_st h h2]

theorem l5ahead_any (r x : TbR) (w : World) : Calls Try.prog 33 #[.int .i64 r.ky, .agg #[.int .i64 r.st, .int .i64 r.en], .int .i64 x.ky, .agg #[.int .i64 x.st, .int .i64 x.en]] w fun e w' => e = .returned (.bool (aheadR r x)) ∧ Below w.heap.size w w' := by
  by_cases h : r.ky = x.ky
  · have HQ := hide (ahead_k h).symm
    have h' : (r.ky == x.ky) = true := by simpa using h
    go_enter Try.func33, Try.ntmps33
    go_wp2_with (go_at_call 44; refine (l2less_any _ _ _ _ _).mono ?_; rintro e w' ⟨rfl, hb⟩)
    go_ret
    exact ⟨ret_pb (unhide HQ), (belA)⟩
  · have HQ := hide (aheadR_ky h)
    have h' : (r.ky == x.ky) = false := by simpa using h
    go_enter Try.func33, Try.ntmps33
    go_wp2
    go_ret
    exact ⟨ret_pb (unhide HQ), (belA)⟩

/-- A row put in its place. -/
def insR (r : TbR) (xs : List TbR) : List TbR := match xs with
  | [] => [r]
  | x :: xs => if aheadR r x then r :: x :: xs else x :: insR r xs

theorem insR_len (r : TbR) (xs : List TbR) : (insR r xs).length = xs.length + 1 := by
  induction xs with
  | nil => rfl
  | cons x xs ih => unfold insR; split <;> simp [ih]

/-- How far one has come: what is laid out already. -/
def PutAt (r : TbR) (xs : List TbR) (k : Nat) (ys : List TbR) : Bool → Prop
  | true => ys ++ xs.drop k = insR r xs ∧ ys.length = k + 1
  | false => ys = xs.take k ∧ xs.take k ++ insR r (xs.drop k) = insR r xs ∧ ys.length = k

theorem putAt_start (r : TbR) (xs : List TbR) : PutAt r xs 0 [] false := ⟨rfl, by simp, rfl⟩

theorem drop_at {xs : List TbR} {k : Nat} {x : TbR} (h : xs[k]? = some x) : xs.drop k = x :: xs.drop (k + 1) := by
  obtain ⟨hk, he⟩ := List.getElem?_eq_some_iff.1 h
  rw [List.drop_eq_getElem_cons hk, he]

theorem putAt_done {r x : TbR} {xs ys : List TbR} {k : Nat} (hx : xs[k]? = some x) (h : PutAt r xs k ys true) : PutAt r xs (k + 1) (ys ++ [x]) true := by
  refine ⟨?_, by simp [h.2]⟩
  rw [← h.1, drop_at hx]; simp

theorem putAt_now {r x : TbR} {xs ys : List TbR} {k : Nat} (hx : xs[k]? = some x) (ha : aheadR r x = true) (h : PutAt r xs k ys false) : PutAt r xs (k + 1) ((ys ++ [r]) ++ [x]) true := by
  refine ⟨?_, by simp [h.2.2]⟩
  rw [← h.2.1, drop_at hx, h.1]
  simp [insR, ha]

theorem putAt_on {r x : TbR} {xs ys : List TbR} {k : Nat} (hx : xs[k]? = some x) (ha : aheadR r x = false) (h : PutAt r xs k ys false) : PutAt r xs (k + 1) (ys ++ [x]) false := by
  have e : xs.take (k + 1) = xs.take k ++ [x] := take_snocT hx
  refine ⟨by rw [e, h.1], ?_, by simp [h.2.2]⟩
  rw [e, ← h.2.1, drop_at hx]
  simp [insR, ha]

theorem putAt_end1 {r : TbR} {xs ys : List TbR} {k : Nat} (hk : xs.length ≤ k) (h : PutAt r xs k ys true) : ys = insR r xs := by
  rw [← h.1, List.drop_of_length_le hk, List.append_nil]

theorem putAt_end0 {r : TbR} {xs ys : List TbR} {k : Nat} (hk : xs.length ≤ k) (h : PutAt r xs k ys false) : ys ++ [r] = insR r xs := by
  rw [← h.2.1, List.drop_of_length_le hk, h.1]; rfl

theorem putAt_len {r : TbR} {xs ys : List TbR} {k : Nat} {d : Bool} (h : PutAt r xs k ys d) : ys.length ≤ k + 1 := by
  cases d
  · have := h.2.2; omega
  · have := h.2; omega
end Go.Proofs.Ytblmhpngaccllaa
