/- Proved here, for any program: a slice of the call's own stays so where older memory stays as it is. -/
import Derived.Test.YtcokdcehjibanaaDoorGenA
import Derived.OwnWalk
namespace Go.Proofs.YtcokdcehjibanaaDoor
open Go.ChangeShapes Go.WideShapes Go.ChangeAt Go.RowKit
set_option linter.unusedVariables false

theorem ownBel {W W' : World} {B : Nat} {e : TypeId} {size n : Nat} {v : Value} {xs : List Value} (h : W.ownsRow B e size v n xs) (hb : Below W.heap.size W W') : W'.ownsRow B e size v n xs := by
  rcases h with ⟨hl, h | ⟨g, cap, cur, hv, hB, hblk, r⟩⟩
  · exact ⟨hl, Or.inl h⟩
  · exact ⟨hl, Or.inr ⟨g, cap, cur, hv, hB, (hb.block g (Array.getElem?_eq_some_iff.1 hblk).1).trans hblk, r⟩⟩
theorem belDrew {B : Nat} {W W' : World} (h : Below B W W') (n : Nat) : Below B W (W'.drewN n) := h.trans ⟨rfl, rfl, rfl, Nat.le_refl _, fun _ _ => rfl⟩

theorem ownLit {W : World} {B g : Nat} (ty k : Nat) (h : B ≤ W.heap.size) (hg : g = W.heap.size) : (W.alloc (.cells #[] ty)).ownsRow B ty k (.slice (some ⟨g, 0, none⟩) 0 0) 0 [] := by
  subst hg
  exact World.ownsRow_lit (base := B) (size := k) W #[] 0 h (Nat.zero_le _) (by simp)
end Go.Proofs.YtcokdcehjibanaaDoor
