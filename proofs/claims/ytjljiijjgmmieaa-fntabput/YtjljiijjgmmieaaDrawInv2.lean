/- Proved here: the state of a region that draws, with many draws an operation. -/
import Derived.Test.YtjljiijjgmmieaaDrawInv
namespace Go.Proofs.Ytjljiijjgmmieaa
open Go.ChangeShapes Go.WideShapes Go.ChangeAt Go.RowKit
set_option linter.unusedVariables false

/-- The state of a region that draws. -/
def DrawingX (R B0 : Nat) (a : Option Addr) (len cap p : Nat) (w0 : World) (ps : List Prd) (js : List Nat) (lit : (Nat → Value) → Array Value) (ds : List Deferred) (L : Nat → Bool) (ac : Act) (w : World) : Prop := ∃ V : Nat → Value, ac = ⟨lit V, ds⟩ ∧ (∀ j, L j = true → Pd ps j (V j) w) ∧ Kp R w0 w ∧ B0 ≤ w.heap.size ∧ R < B0 ∧ ∃ p', p' ≤ p + 500 * cntL L js ∧ Rd R w a len cap p'
/-- An operation that leaves the world as it is. -/
theorem DrawingX.pure {R B0 : Nat} {a : Option Addr} {len cap p : Nat} {w0 w : World} {ps : List Prd} {js : List Nat} {lit : (Nat → Value) → Array Value} {ds : List Deferred} {L : Nat → Bool} {ac : Act} {V : Nat → Value} {i : Nat} (v : Value) (hP : ∀ j, L j = true → Pd ps j (V j) w) (hk : Kp R w0 w) (hB : B0 ≤ w.heap.size) (hR : R < B0) (hr : ∃ p', p' ≤ p + 500 * cntL L js ∧ Rd R w a len cap p') (hv : Pd ps i v w) (ha : ac = ⟨lit (put1 V i v), ds⟩) : DrawingX R B0 a len cap p w0 ps js lit ds (more L i) ac w := by
  obtain ⟨p', hp, hd⟩ := hr
  have hc := cntL_le L i js
  exact ⟨put1 V i v, ha, more_of hP (fun _ _ h => h) hv, hk, hB, hR, p', by omega, hd⟩
/-- An operation that makes one block more. -/
theorem DrawingX.made {R B0 : Nat} {a : Option Addr} {len cap p : Nat} {w0 w : World} {ps : List Prd} {js : List Nat} {lit : (Nat → Value) → Array Value} {ds : List Deferred} {L : Nat → Bool} {ac : Act} {V : Nat → Value} {i : Nat} (v : Value) (o : Obj) (hst : AllSt R ps) (hP : ∀ j, L j = true → Pd ps j (V j) w) (hk : Kp R w0 w) (hB : B0 ≤ w.heap.size) (hR : R < B0) (hr : ∃ p', p' ≤ p + 500 * cntL L js ∧ Rd R w a len cap p') (hv : Pd ps i v (w.alloc o)) (ha : ac = ⟨lit (put1 V i v), ds⟩) : DrawingX R B0 a len cap p w0 ps js lit ds (more L i) ac (w.alloc o) := by
  obtain ⟨p', hp, hd⟩ := hr
  have hc := cntL_le L i js
  have hb : Below w.heap.size w (w.alloc o) := bel_one _ _
  have hkp : Kp R w (w.alloc o) := Kp.of_bel (by omega) hb
  exact ⟨put1 V i v, ha, more_of hP (fun j u h => allSt_at ps hst j u w _ hkp h) hv, hk.trans hkp, by have := hb.size; omega, hR, p', by omega, hd.kp (by omega) hb⟩
/-- An operation that draws. -/
theorem DrawingX.drew {R B0 : Nat} {a : Option Addr} {len cap p : Nat} {w0 w w' : World} {ps : List Prd} {js : List Nat} {lit : (Nat → Value) → Array Value} {ds : List Deferred} {L : Nat → Bool} {ac : Act} {V : Nat → Value} {i : Nat} (v : Value) (hst : AllSt R ps) (hP : ∀ j, L j = true → Pd ps j (V j) w) (hk : Kp R w0 w) (hB : B0 ≤ w.heap.size) (hR : R < B0) (hkp : Kp R w w') (hr : ∃ p', p' ≤ p + 500 * cntL (more L i) js ∧ Rd R w' a len cap p') (hv : Pd ps i v w') (ha : ac = ⟨lit (put1 V i v), ds⟩) : DrawingX R B0 a len cap p w0 ps js lit ds (more L i) ac w' := 
  ⟨put1 V i v, ha, more_of hP (fun j u h => allSt_at ps hst j u w _ hkp h) hv, hk.trans hkp, Nat.le_trans hB hkp.low.size, hR, hr⟩
end Go.Proofs.Ytjljiijjgmmieaa
