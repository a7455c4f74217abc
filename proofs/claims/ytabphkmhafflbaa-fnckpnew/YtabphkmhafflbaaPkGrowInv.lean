/- Laid together: what the claim needs of the texts that were built one by one. -/
import Derived.Test.YtabphkmhafflbaaPkRegInv
import Derived.ArgAppend
import Derived.Laws.OwnMore
import Derived.Deep.Onto
import Derived.Maps.AppendAt
import Derived.Test.YtabphkmhafflbaaPkBase
namespace Go.Proofs.Ytabphkmhafflbaa
open Go.ChangeShapes Go.WideShapes Go.ChangeAt Go.RowKit
set_option linter.unusedVariables false

/-- What is told of an operation: of all values, of its own blocks, of the world. -/
abbrev Gd := (Nat → Value) → (Nat → Prop) → World → Prop

def Gp (ps : List Gd) (j : Nat) : Gd := ps.getD j (fun _ _ _ => False)

def putV (V : Nat → Value) (i : Nat) (v : Value) : Nat → Value := fun j => if j = i then v else V j

def StE (dep : Nat → List Nat) (k : Nat) (q : Gd) : Prop := ∀ V V' D w w', V k = V' k → (∀ d ∈ dep k, V d = V' d) → Below w.heap.size w w' → (∀ b, D b → b < w.heap.size) → q V D w → q V' D w'

def AllG (dep : Nat → List Nat) : Nat → List Gd → Prop
  | _, [] => True
  | k, q :: qs => StE dep k q ∧ AllG dep (k + 1) qs

theorem allG_at {dep : Nat → List Nat} : ∀ (ps : List Gd) (k : Nat), AllG dep k ps → ∀ j, StE dep (k + j) (Gp ps j)
  | [], _, _, j => fun _ _ _ _ _ _ _ _ _ h => by simp [Gp] at h
  | q :: qs, k, h, 0 => h.1
  | q :: qs, k, h, j + 1 => by
    have h9 := allG_at qs (k + 1) h.2 j
    rw [show k + 1 + j = k + (j + 1) by omega] at h9
    exact h9

/-- The state of such a region. -/
structure Grow (w0 : World) (ps : List Gd) (dep : Nat → List Nat) (ex : Nat → Nat → Bool) (lit : (Nat → Value) → Array Value) (ds : List Deferred) (L : Nat → Bool) (ac : Act) (w : World) (V : Nat → Value) (D : Nat → Nat → Prop) : Prop where
  act : ac = ⟨lit V, ds⟩
  dn : ∀ j, L j = true → ∀ d ∈ dep j, L d = true
  hP : ∀ j, L j = true → Gp ps j V (D j) w
  dis : ∀ j k b, L j = true → L k = true → j ≠ k → ex j k = false → D j b → ¬ D k b
  rng : ∀ j b, L j = true → D j b → w0.heap.size ≤ b ∧ b < w.heap.size
  bel : Below w0.heap.size w0 w

def Growing (w0 : World) (ps : List Gd) (dep : Nat → List Nat) (ex : Nat → Nat → Bool) (lit : (Nat → Value) → Array Value) (ds : List Deferred) (L : Nat → Bool) (ac : Act) (w : World) : Prop := ∃ V D, Grow w0 ps dep ex lit ds L ac w V D

theorem more_true {L : Nat → Bool} {i j : Nat} (h : L j = true) : more L i j = true := by
  by_cases e : j = i
  · subst e; exact more_self _ _
  · rw [more_ne e]; exact h

theorem Grow.step {w0 : World} {ps : List Gd} {dep : Nat → List Nat} {ex : Nat → Nat → Bool} {lit : (Nat → Value) → Array Value} {ds : List Deferred} {L : Nat → Bool} {ac0 ac : Act} {w : World} {V : Nat → Value} {D : Nat → Nat → Prop} {i : Nat} (h : Grow w0 ps dep ex lit ds L ac0 w V D) (hst : AllG dep 0 ps) (hsym : ∀ j k, ex j k = ex k j) (hL : L i = false) (v : Value) (d : Nat → Prop) (w' : World) (hb : Below w.heap.size w w') (hdep : ∀ x ∈ dep i, L x = true) (hv : Gp ps i (putV V i v) d w') (hsrc : ∀ b, d b → (w.heap.size ≤ b ∧ b < w'.heap.size) ∨ ∃ j0, L j0 = true ∧ D j0 b ∧ ∀ k, k ≠ i → ex i k = false → k ≠ j0 ∧ ex j0 k = false) (ha : ac = ⟨lit (putV V i v), ds⟩) : Growing w0 ps dep ex lit ds (more L i) ac w' := by
  have one : ∀ k b, L k = true → k ≠ i → ex i k = false → d b → ¬ D k b := by
    intro k b hk hki he hd hDk
    rcases hsrc b hd with ⟨h1, _⟩ | ⟨j0, hj0, hD0, hx⟩
    · have := (h.rng k b hk hDk).2; omega
    · obtain ⟨h2, h3⟩ := hx k hki he
      exact h.dis j0 k b hj0 hk (fun e => h2 e.symm) h3 hD0 hDk
  have back : ∀ k, more L i k = true → k ≠ i → L k = true := fun k hk hki => by rw [more_ne hki] at hk; exact hk
  refine ⟨putV V i v, fun j => if j = i then d else D j, ha, ?_, ?_, ?_, ?_, h.bel.trans (hb.mono h.bel.size)⟩
  · intro j hj x hx
    by_cases hji : j = i
    · subst hji; exact more_true (hdep x hx)
    · exact more_true (h.dn j (back j hj hji) x hx)
  · intro j hj
    by_cases hji : j = i
    · subst hji
      simp only [if_true]
      exact hv
    · have hjL := back j hj hji
      simp only [if_neg hji]
      have h9 := allG_at ps 0 hst j
      rw [Nat.zero_add] at h9
      refine h9 V (putV V i v) (D j) w w' ?_ ?_ hb (fun b hb' => (h.rng j b hjL hb').2) (h.hP j hjL)
      · simp [putV, hji]
      · intro x hx
        have hxi : x ≠ i := fun e => by
          have := h.dn j hjL x hx
          rw [e, hL] at this
          cases this
        simp [putV, hxi]
  · intro j k b hj hk hjk he hDj hDk
    by_cases hji : j = i
    · subst hji
      have hkj : k ≠ j := fun e => hjk e.symm
      simp only [if_true] at hDj
      simp only [if_neg hkj] at hDk
      exact one k b (back k hk hkj) hkj he hDj hDk
    · simp only [if_neg hji] at hDj
      by_cases hki : k = i
      · subst hki
        simp only [if_true] at hDk
        exact one j b (back j hj hji) hji (by rw [hsym]; exact he) hDk hDj
      · simp only [if_neg hki] at hDk
        exact h.dis j k b (back j hj hji) (back k hk hki) hjk he hDj hDk
  · intro j b hj hDj
    by_cases hji : j = i
    · subst hji
      simp only [if_true] at hDj
      rcases hsrc b hDj with ⟨h1, h2⟩ | ⟨j0, hj0, hD0, _⟩
      · exact ⟨Nat.le_trans h.bel.size h1, h2⟩
      · have h9 := h.rng j0 b hj0 hD0
        exact ⟨h9.1, Nat.lt_of_lt_of_le h9.2 hb.size⟩
    · simp only [if_neg hji] at hDj
      have h9 := h.rng j b (back j hj hji) hDj
      exact ⟨h9.1, Nat.lt_of_lt_of_le h9.2 hb.size⟩

/-- An operation that leaves the world as it is. -/
theorem Grow.pure {w0 : World} {ps : List Gd} {dep : Nat → List Nat} {ex : Nat → Nat → Bool} {lit : (Nat → Value) → Array Value} {ds : List Deferred} {L : Nat → Bool} {ac0 ac : Act} {w : World} {V : Nat → Value} {D : Nat → Nat → Prop} {i : Nat} (h : Grow w0 ps dep ex lit ds L ac0 w V D) (hst : AllG dep 0 ps) (hsym : ∀ j k, ex j k = ex k j) (hL : L i = false) (v : Value) (hdep : ∀ x ∈ dep i, L x = true) (hv : Gp ps i (putV V i v) (fun _ => False) w) (ha : ac = ⟨lit (putV V i v), ds⟩) : Growing w0 ps dep ex lit ds (more L i) ac w :=
  h.step hst hsym hL v (fun _ => False) w (Below.refl _ _) hdep hv (fun _ hb => hb.elim) ha
end Go.Proofs.Ytabphkmhafflbaa
