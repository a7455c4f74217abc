/- Laid together: what the claim needs of the texts that were built one by one. -/
import Derived.Test.YtabphkmhafflbaaPkCkpE
import Derived.Test.YtabphkmhafflbaaPkCkpV2
import Derived.Test.YtabphkmhafflbaaPkBase
namespace Go.Proofs.Ytabphkmhafflbaa
open Go.ChangeShapes Go.WideShapes Go.ChangeAt Go.RowKit Go.Deep
set_option linter.unusedVariables false

/-- What checkpoints are behind a giving up. -/
def restD (s t : Nat) (x : CkD) : CkD := { x with op := false, src := List.replicate s (-1), tsk := List.replicate t false, sn := List.replicate t ⟨0, [], []⟩ }

theorem copS_rep (W : World) (B t : Nat) : CopS W B (List.replicate t noSn) (List.replicate t ⟨0, [], []⟩) := by
  refine ⟨by simp, fun i p x hp hx => ?_, fun i p x hp hx => ?_, fun i p x hp hx => ?_, fun i j p q hp hq hij b hb => ?_, fun i j p q hp hq hij b hb => ?_⟩
  · obtain rfl := get_rep hp; obtain rfl := get_rep hx; exact ⟨rfl, rfl, rfl⟩
  · obtain rfl := get_rep hp; obtain rfl := get_rep hx; exact World.ownsRow_nil _ _ _ _
  · obtain rfl := get_rep hp; obtain rfl := get_rep hx; exact World.ownsRow_nil _ _ _ _
  · obtain rfl := get_rep hp; cases hb
  · obtain rfl := get_rep hp; cases hb

theorem ckLim_rest {s t : Nat} {x : CkD} (h : CkLim x) (hs : s ≤ 1000) (ht : t ≤ 1000) : CkLim (restD s t x) := by
  obtain ⟨h2, h3, h4, h6, h7⟩ := h
  refine ⟨?_, ?_, ⟨?_, fun y hy => ?_⟩, h6, h7⟩
  · simp [restD]; omega
  · simp [restD]; omega
  · simp [restD]; omega
  · have h9 : y = ⟨0, [], []⟩ := List.eq_of_mem_replicate hy
    subst h9
    simp

theorem okCk_job {s t k z p l e v r : Int} {x : CkD} (h : okCk s t k z p l e v r x = true) : (1 ≤ s ∧ s ≤ 3) ∧ (1 ≤ t ∧ t ≤ 2) := by
  unfold okCk at h
  simp only [Bool.and_eq_true] at h
  have h1 := h.1.1.1.1.1.1.1.1
  unfold okJob at h1
  simp only [Bool.and_eq_true] at h1
  exact ⟨inB_iff.1 h1.1.1.1.1.1.1.1.1, inB_iff.1 h1.1.1.1.1.1.1.1.2⟩
end Go.Proofs.Ytabphkmhafflbaa
