/- Laid together: what the claim needs of the texts that were built one by one. -/
import Derived.Test.YtabphkmhafflbaaPkCkpC8
import Derived.Test.YtabphkmhafflbaaPkBase
namespace Go.Proofs.Ytabphkmhafflbaa
open Go.ChangeShapes Go.WideShapes Go.ChangeAt Go.RowKit Go.Deep
set_option linter.unusedVariables false

theorem CopS.keepB {W W' : World} {B : Nat} {l : List (Int × SnV)} {xs : List SnD} (h : CopS W B l xs) (hb : ∀ b, B ≤ b → b < W.heap.size → W'.heap[b]? = W.heap[b]?) : CopS W' B l xs :=
  ⟨h.len, h.at_, fun i q x hq hx => own_upB (h.r1 i q x hq hx) (fun b hv => hb b (World.ownsRow.lt (h.r1 i q x hq hx) b hv).1 (World.ownsRow.lt (h.r1 i q x hq hx) b hv).2), fun i q x hq hx => own_upB (h.r2 i q x hq hx) (fun b hv => hb b (World.ownsRow.lt (h.r2 i q x hq hx) b hv).1 (World.ownsRow.lt (h.r2 i q x hq hx) b hv).2), h.d1, h.d2⟩
end Go.Proofs.Ytabphkmhafflbaa
