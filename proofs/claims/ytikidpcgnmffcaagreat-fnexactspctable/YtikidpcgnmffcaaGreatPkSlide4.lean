/- Laid together: what the claim needs of the texts that were built one by one. -/
import Derived.Test.YtikidpcgnmffcaaGreatPkSlide2
import Derived.Test.YtikidpcgnmffcaaGreatPkSlide3
import Derived.Maps.Own
import Derived.Test.YtikidpcgnmffcaaGreatPkBase
namespace Go.Proofs.YtikidpcgnmffcaaGreat
open Go.ChangeShapes Go.WideShapes Go.ChangeAt Go.RowKit Go.Maps
set_option linter.unusedVariables false

/-- A function in a map is read as its number. -/
def rdF (v : Value) : Option (DataW Unit × List MemPlace) := match v with
  | .func (.func n) f c => if f.size = 0 ∧ c.size = 0 then some (.lit (.int .i64 n), []) else none
  | .nilFunc => some (.lit (.int .i64 (-1)), [])
  | _ => none

theorem rdF_inv {v : Value} {n : Nat} {ps : List MemPlace} (h : rdF v = some (.lit (.int .i64 (n : Int)), ps)) : v = .func (.func n) #[] #[] := by
  unfold rdF at h
  split at h
  · rename_i m f c
    split at h
    · rename_i hc
      simp only [Option.some.injEq, Prod.mk.injEq, DataW.lit.injEq, Lit.int.injEq, true_and] at h
      obtain ⟨h1, h2⟩ := hc
      have e1 : f = #[] := Array.eq_empty_of_size_eq_zero h1
      have e2 : c = #[] := Array.eq_empty_of_size_eq_zero h2
      have e3 : m = n := Int.ofNat.inj h.1
      rw [e1, e2, e3]
    · cases h
  · simp only [Option.some.injEq, Prod.mk.injEq, DataW.lit.injEq, Lit.int.injEq, true_and] at h
    have := h.1
    omega
  · cases h

/-- The map of functions, behind none, one, two and three entries. -/
def dF0 : DataW Unit := .map []

def dF1 : DataW Unit := dF0.put (.int .i64 1) (.lit (.int .i64 ((54 : Nat) : Int)))

def dF2 : DataW Unit := dF1.put (.int .i64 2) (.lit (.int .i64 ((55 : Nat) : Int)))

def dF3 : DataW Unit := dF2.put (.int .i64 3) (.lit (.int .i64 ((56 : Nat) : Int)))

theorem zeroF (w : World) : (zeroValue 65).run Tryz.prog w = .ok .nilFunc w := by kernel_rfl

theorem keyI : Keyed Tryz.prog 3 := int_keyed Tryz.underlying3

theorem kI (n : Int) (h : (Lit.int .i64 n).wf = true) : keyOf Tryz.prog 3 (.int .i64 n) = some (.int .i64 n) := by
  exact keyOf_int_mk Tryz.underlying3 h

theorem mapMade : ∃ u1 u2 u3 : World → World, (∀ W : World, (Instr.mapUpdate 88 (.map (some W.heap.size)) (.int .i64 1) (.func (.func 54) #[] #[])).run Tryz.prog (W.alloc (.map #[] 0)) = .ok () (u1 W)) ∧ (∀ W : World, (Instr.mapUpdate 88 (.map (some W.heap.size)) (.int .i64 2) (.func (.func 55) #[] #[])).run Tryz.prog (u1 W) = .ok () (u2 W)) ∧ (∀ W : World, (Instr.mapUpdate 88 (.map (some W.heap.size)) (.int .i64 3) (.func (.func 56) #[] #[])).run Tryz.prog (u2 W) = .ok () (u3 W)) ∧
    (∀ W : World, (Instr.lookup 88 (.map (some W.heap.size)) (.int .i64 1) false).run Tryz.prog (u3 W) = .ok (.func (.func 54) #[] #[]) (u3 W)) ∧ (∀ W : World, (Instr.lookup 88 (.map (some W.heap.size)) (.int .i64 2) false).run Tryz.prog (u3 W) = .ok (.func (.func 55) #[] #[]) (u3 W)) ∧ (∀ W : World, (Instr.lookup 88 (.map (some W.heap.size)) (.int .i64 3) false).run Tryz.prog (u3 W) = .ok (.func (.func 56) #[] #[]) (u3 W)) ∧ (∀ W : World, Below W.heap.size W (u3 W)) := by
  have H1 : ∀ W : World, ∃ w2, (Instr.mapUpdate 88 (.map (some W.heap.size)) (.int .i64 1) (.func (.func 54) #[] #[])).run Tryz.prog (W.alloc (.map #[] 0)) = .ok () (w2) ∧ w2.ownsMap Tryz.prog 3 rdF W.heap.size 1 dF1 ∧ Below W.heap.size W w2 := fun W => by
    obtain ⟨w2, h1, h2, h3⟩ := World.ownsMap.update (World.ownsMap_made W Tryz.prog 3 rdF) keyI Tryz.underlying88 (by decide) (kI 1 (by decide)) (show rdF (.func (.func 54) #[] #[]) = some (.lit (.int .i64 ((54 : Nat) : Int)), []) from rfl)
    exact ⟨w2, h1, h2, (bel_one W _).grown h3 (by simp) (by intro k hk; cases hk; omega)⟩
  obtain ⟨u1, hu1⟩ := Classical.skolem.1 H1
  have H2 : ∀ W : World, ∃ w2, (Instr.mapUpdate 88 (.map (some W.heap.size)) (.int .i64 2) (.func (.func 55) #[] #[])).run Tryz.prog (u1 W) = .ok () (w2) ∧ w2.ownsMap Tryz.prog 3 rdF W.heap.size 2 dF2 ∧ Below W.heap.size W w2 := fun W => by
    obtain ⟨w2, h1, h2, h3⟩ := World.ownsMap.update (hu1 W).2.1 keyI Tryz.underlying88 (by decide) (kI 2 (by decide)) (show rdF (.func (.func 55) #[] #[]) = some (.lit (.int .i64 ((55 : Nat) : Int)), []) from rfl)
    exact ⟨w2, h1, h2, (hu1 W).2.2.grown h3 (hu1 W).2.2.size (by intro k hk; cases hk; omega)⟩
  obtain ⟨u2, hu2⟩ := Classical.skolem.1 H2
  have H3 : ∀ W : World, ∃ w2, (Instr.mapUpdate 88 (.map (some W.heap.size)) (.int .i64 3) (.func (.func 56) #[] #[])).run Tryz.prog (u2 W) = .ok () (w2) ∧ w2.ownsMap Tryz.prog 3 rdF W.heap.size 3 dF3 ∧ Below W.heap.size W w2 := fun W => by
    obtain ⟨w2, h1, h2, h3⟩ := World.ownsMap.update (hu2 W).2.1 keyI Tryz.underlying88 (by decide) (kI 3 (by decide)) (show rdF (.func (.func 56) #[] #[]) = some (.lit (.int .i64 ((56 : Nat) : Int)), []) from rfl)
    exact ⟨w2, h1, h2, (hu2 W).2.2.grown h3 (hu2 W).2.2.size (by intro k hk; cases hk; omega)⟩
  obtain ⟨u3, hu3⟩ := Classical.skolem.1 H3
  have L : ∀ (W : World) (k : Int) (fn : Nat), (Lit.int .i64 k).wf = true → dF3.atKey (.int .i64 k) (.lit (.int .i64 (-1))) = .lit (.int .i64 (fn : Int)) → (Instr.lookup 88 (.map (some W.heap.size)) (.int .i64 k) false).run Tryz.prog (u3 W) = .ok (.func (.func fn) #[] #[]) (u3 W) := fun W k fn hk ha => by
    obtain ⟨v, ps, h1, h2⟩ := World.ownsMap.lookup (hu3 W).2.1 keyI Tryz.underlying88 (zeroF (u3 W)) (show rdF .nilFunc = some (.lit (.int .i64 (-1)), []) from rfl) (kI k hk)
    rw [ha] at h2
    rw [h1, rdF_inv h2]
  exact ⟨u1, u2, u3, fun W => (hu1 W).1, fun W => (hu2 W).1, fun W => (hu3 W).1, fun W => L W 1 _ (by decide) rfl, fun W => L W 2 _ (by decide) rfl, fun W => L W 3 _ (by decide) rfl, fun W => (hu3 W).2.2⟩
end Go.Proofs.YtikidpcgnmffcaaGreat
