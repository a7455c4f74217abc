/- Proved here: what the program says of a log is what the specification says. -/
import Derived.Test.YtikhmgkoodoeoaaLogIter
namespace Go.Proofs.Ytikhmgkoodoeoaa
open Go.RowKit Go.Shelf
set_option linter.unusedVariables false
attribute [local go_sem] Oper.semAt_some

theorem cell_lt {W : World} {b o : Nat} {v : Value} (h : W.cell? ⟨b, o, none⟩ = some v) : b < W.heap.size := by
  rcases Nat.lt_or_ge b W.heap.size with hl | hg
  · exact hl
  · simp [World.cell?, Array.getElem?_eq_none hg] at h
theorem keeps_bel {W W' : World} (h : Below W.heap.size W W') : KeepsOthers W W' := KeepsOthers.of_grownBy (bel_grown h) (fun _ _ e => by cases e)

/-- The mark behind items, if each may follow. -/
def stepM (x : It) (m : Int) : Option Int := if followB x.q x.t x.k x.v x.n m = true then some (behindI x.q x.t m) else none
def runM : List It → Int → Option Int
  | [], m => some m
  | x :: r, m => (stepM x m).bind (runM r)
theorem runM_append (p r : List It) (m : Int) : runM (p ++ r) m = (runM p m).bind (runM r) := by
  induction p generalizing m with
  | nil => rfl
  | cons x p ih =>
    show (stepM x m).bind (runM (p ++ r)) = ((stepM x m).bind (runM p)).bind (runM r)
    cases stepM x m with
    | none => rfl
    | some m' => exact ih m'
theorem runM_snoc (p : List It) (x : It) (m : Int) : runM (p ++ [x]) m = (runM p m).bind (stepM x) := by
  rw [runM_append]
  cases runM p m with
  | none => rfl
  | some m' =>
    show (stepM x m').bind (runM []) = stepM x m'
    cases stepM x m' <;> rfl
theorem runM_none {p xs : List It} (h : p <+: xs) (hn : runM p 0 = none) : runM xs 0 = none := by
  obtain ⟨r, rfl⟩ := h
  rw [runM_append, hn]; rfl
theorem stepM_go (x : It) (m : Int) (r : List It) (ih : ∀ m, logGo r m = (runM r m).isSome) : logGo (x :: r) m = ((stepM x m).bind (runM r)).isSome := by
  obtain ⟨q, t, k, v, n⟩ := x
  show (okItm q t k v n && !(q == 3) && (if q = 2 then decide (m < t) && logGo r t else logGo r m)) = _
  unfold stepM
  dsimp only
  by_cases h1 : q = 1
  · subst h1
    rw [okItm_1, show followB 1 t k v n m = okRec t k v n from rfl, show behindI 1 t m = m from rfl]
    cases okRec t k v n
    · rfl
    · simpa using ih m
  by_cases h2 : q = 2
  · subst h2
    rw [okItm_2, show followB 2 t k v n m = (okMark t k v n && decide (m < t)) from rfl]
    cases okMark t k v n
    · rfl
    · by_cases h4 : m < t
      · rw [show behindI 2 t m = t from hiI_d h4, decide_eq_true h4]
        simpa using ih t
      · rw [decide_eq_false h4]; rfl
  rw [if_neg h2, show followB q t k v n m = false from by unfold followB; rw [if_neg h1, if_neg h2]]
  by_cases h3 : q = 3
  · subst h3
    simp
  · rw [okItm_n h1 h2 h3]; rfl
theorem logGo_run (xs : List It) (m : Int) : logGo xs m = (runM xs m).isSome := by
  induction xs generalizing m with
  | nil => rfl
  | cons x r ih => exact stepM_go x m r ih

theorem okLog_short {xs : List It} (h : inB (xs.length : Int) 1 40 = false) : okLog xs = false := by unfold okLog; rw [h]; rfl
theorem okLog_last {xs : List It} {y : It} {n : Nat} (h : inB (xs.length : Int) 1 40 = true) (hl : xs.length = n + 1) (hy : xs[n]? = some y) : okLog xs = (y.endB && (runM xs 0).isSome) := by
  have hlast : xs.getLast? = some y := by rw [List.getLast?_eq_getElem?]; simpa [hl] using hy
  unfold okLog
  rw [hlast, h, logGo_run]; rfl
end Go.Proofs.Ytikhmgkoodoeoaa
