/- Laid together: what the claim needs of the texts that were built one by one. -/
import Derived.Test.YtiececddlmjalaaPkCkpO
import Derived.Test.YtiececddlmjalaaPkJob
import Derived.Deep.Onto
import Derived.Test.YtiececddlmjalaaPkBase
namespace Go.Proofs.Ytiececddlmjalaa
open Go.ChangeShapes Go.WideShapes Go.ChangeAt Go.RowKit Go.Deep
set_option linter.unusedVariables false

theorem Try.infoInt1 : (Try.prog.info? 3).map (fun i => (i.zero, i.size, i.bytes)) = some (some (.int .i64 0), 1, 8) := by kernel_rfl

theorem Try.infoBoo1 : (Try.prog.info? 4).map (fun i => (i.zero, i.size, i.bytes)) = some (some (.bool false), 1, 1) := by kernel_rfl

theorem Try.infoSn1 : (Try.prog.info? 54).map (fun i => (i.zero, i.size, i.bytes)) = some (some (.agg #[.int .i64 0, .slice none 0 0, .slice none 0 0]), 3, 56) := by kernel_rfl

/-- Rows of two types do not share a block. -/
theorem own_ne {W : World} {B B' : Nat} {e e' : TypeId} {s s' n n' : Nat} {v v' : Value} {xs xs' : List Value} (h : W.ownsRow B e s v n xs) (h' : W.ownsRow B' e' s' v' n' xs') (he : e ≠ e') : v.ownBlock = none ∨ v.ownBlock ≠ v'.ownBlock := by
  rcases h with ⟨_, ⟨rfl, _⟩ | ⟨g, cap, cur, rfl, _, hb, _⟩⟩
  · exact Or.inl rfl
  · refine Or.inr fun hc => ?_
    rcases h' with ⟨_, ⟨rfl, _⟩ | ⟨g', cap', cur', rfl, _, hb', _⟩⟩
    · cases hc
    · have h1 : g = g' := Option.some.inj hc
      subst h1
      rw [hb] at hb'
      injection hb' with h2
      injection h2 with _ h3
      exact he h3

/-- A row stays where another, of another type, gets one more. -/
theorem own_step {W w1 : World} {o : Obj} {B B' : Nat} {e e' : TypeId} {s s' n n' : Nat} {v v' : Value} {xs xs' : List Value} (h : W.ownsRow B e s v n xs) (h' : W.ownsRow B' e' s' v' n' xs') (he : e ≠ e') (hg : (W.alloc o).grownBy w1 v'.ownBlock) : w1.ownsRow B e s v n xs := (h.alloc o).kept hg (own_ne h h' he)

theorem own_geV {W : World} {B : Nat} {e : TypeId} {s n : Nat} {v : Value} {xs : List Value} (h : W.ownsRow B e s v n xs) : ∀ q, v.ownBlock = some q → B ≤ q := fun q hq => (h.lt q hq).1

theorem cell_new3 (w : World) {g : Nat} (hg : g = w.heap.size) (u0 u1 u2 : Value) (ty : Nat) : ∀ j x, ([u0, u1, u2] : List Value)[j]? = some x → (w.alloc (.cells #[u0, u1, u2] ty)).cell? ((⟨g, 0, none⟩ : Addr).add j) = some x := by
  subst hg
  intro j x hx
  match j, hx with
  | 0, hx => simp at hx; subst hx; simp [go_sem, Addr.add]
  | 1, hx => simp at hx; subst hx; simp [go_sem, Addr.add]
  | 2, hx => simp at hx; subst hx; simp [go_sem, Addr.add]

theorem lit_at {W : World} {B e size g : Nat} (h : B ≤ W.heap.size) (hg : g = W.heap.size) : (W.alloc (.cells #[] e)).ownsRow B e size (.slice (some ⟨g, 0, none⟩) 0 0) 0 [] := by
  subst hg
  exact World.ownsRow_lit (base := B) (size := size) W #[] 0 h (by decide) (by simp)
end Go.Proofs.Ytiececddlmjalaa
