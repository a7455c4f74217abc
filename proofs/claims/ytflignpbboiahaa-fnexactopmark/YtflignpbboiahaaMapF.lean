/- Proved here, for any program: a map of the call's own, as a function of its keys: made, looked up, stored into. -/
import Derived.Test.YtflignpbboiahaaGenF
import Derived.Maps.Own
import Derived.Maps.OwnSet
import Derived.Maps.Views
import Derived.DeepKeys4
import Derived.MapViews
namespace Go.Proofs.Ytflignpbboiahaa
open Go.ChangeShapes Go.WideShapes Go.ChangeAt Go.RowKit Go.Maps
set_option linter.unusedVariables false

section
variable {κ : Type} {P : Program} {k : TypeId} {R : Value → Option (DataW Unit × List MemPlace)} {zd : DataW Unit} {b n : Nat} {kv : κ → Value} {ok : κ → Prop} {f : κ → DataW Unit} {w : World}

/-- Block b is a map that holds, at each key that is ok, what f says. -/
def OwnsFn (w : World) (P : Program) (k : TypeId) (R : Value → Option (DataW Unit × List MemPlace)) (zd : DataW Unit) (b n : Nat) (kv : κ → Value) (ok : κ → Prop) (f : κ → DataW Unit) : Prop :=
  ∃ D, w.ownsMap P k R b n D ∧ ∀ q, ok q → ∀ kl, keyOf P k (kv q) = some kl → D.atKey kl zd = f q

theorem OwnsFn.made (w : World) (P : Program) (k : TypeId) (R : Value → Option (DataW Unit × List MemPlace)) (zd : DataW Unit) (kv : κ → Value) (ok : κ → Prop) : OwnsFn (w.alloc (.map #[] 0)) P k R zd w.heap.size 0 kv ok (fun _ => zd) :=
  ⟨_, World.ownsMap_made w P k R, fun _ _ _ _ => rfl⟩
theorem OwnsFn.lt (h : OwnsFn w P k R zd b n kv ok f) : b < w.heap.size := by
  obtain ⟨D, h, _⟩ := h
  exact h.lt
theorem OwnsFn.below {w' : World} (h : OwnsFn w P k R zd b n kv ok f) (hb : Below w.heap.size w w') : OwnsFn w' P k R zd b n kv ok f := by
  obtain ⟨D, h, hf⟩ := h
  exact ⟨D, h.kept ⟨hb.os, hb.tape, hb.output, hb.size, fun k hk _ => hb.block k hk⟩ (row := none) (by simp), hf⟩
theorem OwnsFn.grown {w' : World} {row : Option Nat} (h : OwnsFn w P k R zd b n kv ok f) (hg : w.grownBy w' row) (hne : some b ≠ row) : OwnsFn w' P k R zd b n kv ok f := by
  obtain ⟨D, h, hf⟩ := h
  exact ⟨D, h.kept hg hne, hf⟩
theorem OwnsFn.drew (h : OwnsFn w P k R zd b n kv ok f) : OwnsFn w.drew P k R zd b n kv ok f := h
theorem OwnsFn.look {t e : TypeId} (h : OwnsFn w P k R zd b n kv ok f) (K : Keyed P k) (ht : P.underlying t = some (.map k e)) {z : Value} (hz : (zeroValue e).run P w = .ok z w) {zp : List MemPlace} (hzd : R z = some (zd, zp)) (hk : ∀ q, ok q → ∃ kl, keyOf P k (kv q) = some kl) (q : κ) (hq : ok q) :
    ∃ v ps, (Instr.lookup t (.map (some b)) (kv q) false).run P w = .ok v w ∧ R v = some (f q, ps) := by
  obtain ⟨D, h, hf⟩ := h
  obtain ⟨kl, hkl⟩ := hk q hq
  obtain ⟨v, ps, h1, h2⟩ := h.lookup K ht hz hzd hkl
  exact ⟨v, ps, h1, by rw [h2, hf q hq kl hkl]⟩
theorem OwnsFn.store [DecidableEq κ] {t e : TypeId} (h : OwnsFn w P k R zd b n kv ok f) (K : Keyed P k) (ht : P.underlying t = some (.map k e)) (hn : n < maxLen) (hk : ∀ q, ok q → ∃ kl, keyOf P k (kv q) = some kl) (hinj : ∀ q q', kv q = kv q' → q = q') (q : κ) (hq : ok q) {val : Value} {d : DataW Unit} {ps : List MemPlace} (hv : R val = some (d, ps)) :
    ∃ w', (Instr.mapUpdate t (.map (some b)) (kv q) val).run P w = .ok () w' ∧ OwnsFn w' P k R zd b (n + 1) kv ok (fun x => if x = q then d else f x) ∧ w.grownBy w' (some b) := by
  obtain ⟨D, h, hf⟩ := h
  obtain ⟨kl, hkl⟩ := hk q hq
  obtain ⟨w', h1, h2, h3⟩ := h.update K ht hn hkl hv
  refine ⟨w', h1, ⟨_, h2, fun x hx kx hkx => ?_⟩, h3⟩
  show _ = if x = q then d else f x
  by_cases e : x = q
  · subst e
    rw [hkl] at hkx
    cases hkx
    rw [if_pos rfl, atKey_put_same h.isMap (K.key hkl)]
  · rw [if_neg e]
    have hne : kx ≠ kl := fun e' => e (hinj _ _ (K.inj (by rw [← e']; exact hkx) hkl))
    rw [atKey_put_other hne]
    exact hf x hx kx hkx
end
end Go.Proofs.Ytflignpbboiahaa
