/- Laid together: what the claim needs of the texts that were built one by one. -/
import Derived.Test.YtabphkmhafflbaaPkCkpA
import Derived.Test.YtabphkmhafflbaaPkCkpS3
import Derived.Test.YtabphkmhafflbaaPkCkpI4
import Derived.Test.YtabphkmhafflbaaPkBase
namespace Go.Proofs.Ytabphkmhafflbaa
open Go.ChangeShapes Go.WideShapes Go.ChangeAt Go.RowKit Go.Deep
set_option linter.unusedVariables false

theorem CkDis.keepB {W W' : World} {B : Nat} {src : List Int} {tsk : List Bool} {sn : List SnD} {at_ : List Int} {ssn : List SnD} {v2 v3 v4 v6 v7 : Value} {l4 l7 : List (Int × SnV)} (h : CkDis W B src tsk sn at_ ssn v2 v3 v4 v6 v7 l4 l7) (hb : ∀ b, B ≤ b → b < W.heap.size → W'.heap[b]? = W.heap[b]?) : CkDis W' B src tsk sn at_ ssn v2 v3 v4 v6 v7 l4 l7 := by
  have up : ∀ {e : TypeId} {size n : Nat} {v : Value} {xs : List Value}, W.ownsRow B e size v n xs → W'.ownsRow B e size v n xs := fun h9 => own_upB h9 (fun b hv => hb b (World.ownsRow.lt h9 b hv).1 (World.ownsRow.lt h9 b hv).2)
  exact ⟨up h.o2, up h.o3, up h.o4, h.k4.keepB hb, up h.o6, up h.o7, h.k7.keepB hb, h.d26, h.d47, h.dm, h.dr, h.dk⟩

theorem zero_newk {w w' : World} (hb : Below w.heap.size w w') : NewK w ckZero (.returned (.agg #[.int .i64 0, .bool false, .slice none 0 0, .slice none 0 0, .slice none 0 0, .int .i64 0, .slice none 0 0, .slice none 0 0])) w' := by
  obtain ⟨a2, c2, a3, c3, a4, c4, a6, c6, a7, c7, v4, v7, e, hM, hW, hS, hb'⟩ := zero_newC hb
  exact ⟨a2, c2, a3, c3, a4, c4, a6, c6, a7, c7, v4, v7, e, hM, hW, hS, hb'⟩
end Go.Proofs.Ytabphkmhafflbaa
