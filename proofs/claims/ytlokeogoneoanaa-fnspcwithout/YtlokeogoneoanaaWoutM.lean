/- Proved here: items without others, each taken away once: by counts it comes to the same as one behind the other; an item is a key of a map. -/
import Derived.Test.YtlokeogoneoanaaMapE
import Derived.Test.YtlokeogoneoanaaRwItm
import Derived.Test.YtlokeogoneoanaaRwaItm
namespace Go.Proofs.Ytlokeogoneoanaa
open Go.ChangeShapes Go.WideShapes Go.ChangeAt Go.RowKit Go.Maps Go.WideMaps
set_option linter.unusedVariables false

theorem iw_ext {x y : IwR} (h0 : x.kd = y.kd) (h1 : x.tm = y.tm) (h2 : x.ke = y.ke) (h3 : x.va = y.va) (h4 : x.nn = y.nn) : x = y := by
  cases x; cases y; simp only at h0 h1 h2 h3 h4; subst h0 h1 h2 h3 h4; rfl
instance : DecidableEq IwR := fun x y => decidable_of_iff (x.kd = y.kd ∧ x.tm = y.tm ∧ x.ke = y.ke ∧ x.va = y.va ∧ x.nn = y.nn) ⟨fun h => iw_ext h.1 h.2.1 h.2.2.1 h.2.2.2.1 h.2.2.2.2, fun h => by subst h; exact ⟨rfl, rfl, rfl, rfl, rfl⟩⟩
/-- The first one that is such an item is left out. -/
def outW (g : IwR) : List IwR → List IwR
  | [] => []
  | x :: t => if x = g then t else x :: outW g t
/-- Items without others, one behind the other. -/
def woS (xs gs : List IwR) : List IwR := gs.foldl (fun l g => outW g l) xs
/-- Items without so many of each. -/
def woC (c : IwR → Nat) : List IwR → List IwR
  | [] => []
  | x :: t => if 0 < c x then woC (fun y => if y = x then c y - 1 else c y) t else x :: woC c t
/-- How many there are of each. -/
def cnW (gs : List IwR) (y : IwR) : Nat := gs.countP (fun g => decide (g = y))
theorem woC_more (a : IwR) : ∀ (xs : List IwR) (c : IwR → Nat), woC (fun y => if y = a then c y + 1 else c y) xs = outW a (woC c xs)
  | [], c => rfl
  | x :: t, c => by
    unfold woC
    by_cases hx : 0 < c x
    · have h1 : 0 < (if x = a then c x + 1 else c x) := by split <;> omega
      rw [if_pos hx, if_pos h1, ← woC_more a t]
      congr 1
      funext y
      by_cases h2 : y = x
      · subst h2
        simp only [if_true]
        by_cases h3 : y = a
        · simp only [if_pos h3]; omega
        · simp only [if_neg h3]
      · simp only [if_neg h2]
    · by_cases ha : x = a
      · subst ha
        have h1 : 0 < (if x = x then c x + 1 else c x) := by rw [if_pos rfl]; omega
        rw [if_neg hx, if_pos h1]
        simp only [outW, if_true]
        congr 1
        funext y
        by_cases h2 : y = x
        · subst h2; simp
        · simp only [if_neg h2]
      · have h1 : ¬ 0 < (if x = a then c x + 1 else c x) := by rw [if_neg ha]; exact hx
        rw [if_neg hx, if_neg h1]
        simp only [outW, if_neg ha]
        rw [woC_more a t]
theorem woC_none : ∀ (xs : List IwR), woC (fun _ => 0) xs = xs
  | [] => rfl
  | x :: t => by unfold woC; rw [if_neg (by omega), woC_none t]
theorem cnW_snoc (gs : List IwR) (g : IwR) : cnW (gs ++ [g]) = fun y => if y = g then cnW gs y + 1 else cnW gs y := by
  funext y
  unfold cnW
  rw [List.countP_append]
  by_cases h : y = g
  · subst h; simp
  · simp only [if_neg h, List.countP_cons, List.countP_nil]
    rw [if_neg (by simp; exact fun e => h e.symm)]
    rfl
theorem cnW_le (gs : List IwR) (y : IwR) : cnW gs y ≤ gs.length := List.countP_le_length
theorem woS_snoc (xs gs : List IwR) (g : IwR) : woS xs (gs ++ [g]) = outW g (woS xs gs) := by simp [woS]
theorem wo_same (xs : List IwR) : ∀ (n : Nat) (gs : List IwR), gs.length = n → woC (cnW gs) xs = woS xs gs
  | 0, gs, h => by
    obtain rfl : gs = [] := List.eq_nil_of_length_eq_zero h
    exact woC_none xs
  | n + 1, gs, h => by
    obtain ⟨fs, g, rfl⟩ : ∃ fs g, gs = fs ++ [g] := ⟨gs.dropLast, gs.getLast (by intro e; rw [e] at h; simp at h), (List.dropLast_concat_getLast _).symm⟩
    rw [cnW_snoc, woC_more, woS_snoc, wo_same xs n fs (by simp at h; exact h)]
theorem outW_len (g : IwR) : ∀ xs : List IwR, (outW g xs).length ≤ xs.length
  | [] => Nat.le_refl _
  | x :: t => by
    unfold outW
    split
    · simp
    · have := outW_len g t; simp; omega
theorem woS_len (xs : List IwR) : ∀ gs : List IwR, (woS xs gs).length ≤ xs.length := by
  intro gs
  induction gs generalizing xs with
  | nil => exact Nat.le_refl _
  | cons g t ih => exact Nat.le_trans (ih (outW g xs)) (outW_len g xs)
/-- Where the first such item is. -/
theorem outW_at (g : IwR) : ∀ (xs : List IwR) (k : Nat), (∀ i x, i < k → xs[i]? = some x → x ≠ g) → xs[k]? = some g → outW g xs = xs.take k ++ xs.drop (k + 1)
  | [], k, _, h => by simp at h
  | x :: t, 0, _, h => by
    simp at h; subst h
    simp [outW]
  | x :: t, k + 1, hn, h => by
    have h0 : x ≠ g := hn 0 x (by omega) rfl
    unfold outW
    rw [if_neg h0, outW_at g t k (fun i y hi hy => hn (i + 1) y (by omega) (by simpa using hy)) (by simpa using h)]
    simp
theorem outW_none (g : IwR) : ∀ (xs : List IwR), (∀ i x, i < xs.length → xs[i]? = some x → x ≠ g) → outW g xs = xs
  | [], _ => rfl
  | x :: t, hn => by
    unfold outW
    rw [if_neg (hn 0 x (by simp) rfl), outW_none g t (fun i y hi hy => hn (i + 1) y (by simp; omega) (by simpa using hy))]
theorem mem_outW {g y : IwR} : ∀ {xs : List IwR}, y ∈ outW g xs → y ∈ xs
  | [], h => h
  | x :: t, h => by
    unfold outW at h
    split at h
    · exact List.mem_cons_of_mem _ h
    · rcases List.mem_cons.1 h with rfl | h
      · simp
      · exact List.mem_cons_of_mem _ (mem_outW h)
theorem mem_woS {xs gs : List IwR} {y : IwR} (h : y ∈ woS xs gs) : y ∈ xs := by
  induction gs generalizing xs with
  | nil => exact h
  | cons g t ih => exact mem_outW (ih h)

/- an item as a key -/
def IwR.val (q : IwR) : Value := .agg #[.int .i64 q.kd, .int .i64 q.tm, .int .i64 q.ke, .int .i64 q.va, .int .i64 q.nn]
def IwR.fit (q : IwR) : Prop := (Lit.int .i64 q.kd).wf = true ∧ (Lit.int .i64 q.tm).wf = true ∧ (Lit.int .i64 q.ke).wf = true ∧ (Lit.int .i64 q.va).wf = true ∧ (Lit.int .i64 q.nn).wf = true
theorem IwR.inj (q q' : IwR) (h : q.val = q'.val) : q = q' := by
  simp [IwR.val] at h
  exact iw_ext h.1 h.2.1 h.2.2.1 h.2.2.2.1 h.2.2.2.2
theorem laidW : laidOutB Try.prog = true := by kernel_rfl
theorem lawIw : KeyLaw Try.prog 35 := deep_law_laid laidW (m := 2) (by omega) (of_decide_eq_true (by kernel_rfl)) (by kernel_rfl) (by kernel_rfl)
theorem keyIw_some (q : IwR) (h : q.fit) : ∃ kl, keyOf Try.prog 35 q.val = some kl := by
  obtain ⟨h1, h2, h3, h4, h5⟩ := h
  have hN : ∃ m, Try.prog.types.size = m + 3 := ⟨Try.prog.types.size - 3, by kernel_rfl⟩
  obtain ⟨m, hm⟩ := hN
  have c1 : Try.prog.cellsOf 35 = 5 := by kernel_rfl
  have c3 : Try.prog.cellsOf 3 = 1 := by kernel_rfl
  have hk : Try.prog.keyType 35 = true := by kernel_rfl
  have hf : q.val.formed Try.prog 35 = true := by
    simp [IwR.val, Value.formed, Try.underlying35, c1]
  have hL : Try.prog.keyLits (m + 3 + 1) 35 [.int .i64 q.kd, .int .i64 q.tm, .int .i64 q.ke, .int .i64 q.va, .int .i64 q.nn] = some [.int .i64 q.kd, .int .i64 q.tm, .int .i64 q.ke, .int .i64 q.va, .int .i64 q.nn] := by
    simp [Try.underlying35, Try.underlying3, Program.keyLits, c1, c3, h1, h2, h3, h4, h5]
  have e : keyOf Try.prog 35 q.val = (if (Try.prog.keyType 35 && q.val.formed Try.prog 35) = true then (Try.prog.keyLits (Try.prog.types.size + 1) 35 q.val.cells.toList).map (fun ls => .string (keyBytes ls)) else none) := by
    unfold keyOf
    rw [Try.underlying35]
  rw [e, hk, hf, hm]
  simp only [Bool.and_self, ↓reduceIte]
  have e2 : q.val.cells.toList = [.int .i64 q.kd, .int .i64 q.tm, .int .i64 q.ke, .int .i64 q.va, .int .i64 q.nn] := rfl
  rw [e2, hL]
  exact ⟨_, rfl⟩
theorem IwR.ok64.fit {q : IwR} (h : q.ok64) : q.fit := by
  obtain ⟨h1, h2, h3, h4, h5⟩ := h
  exact ⟨WalkArith.wf_i64 h1, WalkArith.wf_i64 h2, WalkArith.wf_i64 h3, WalkArith.wf_i64 h4, WalkArith.wf_i64 h5⟩
theorem take_iw {xs : List IwR} {j : Nat} {x : IwR} (h : xs[j]? = some x) : xs.take (j + 1) = xs.take j ++ [x] := by rw [List.take_add_one, h]; rfl
end Go.Proofs.Ytlokeogoneoanaa
