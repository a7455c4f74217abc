/- Proved here: a row in its box, and worlds in which one box alone has turned. -/
import Derived.Test.YtflignpbboiahaaOpEnt
import Derived.Test.YtflignpbboiahaaRwPan
import Derived.Test.YtflignpbboiahaaOpOkI
namespace Go.Proofs.Ytflignpbboiahaa
open Go.ChangeShapes Go.WideShapes Go.ChangeAt Go.RowKit
set_option linter.unusedVariables false

set_option linter.unusedSimpArgs false
/-- A row lies in a box. -/
def BxO (W : World) (g : Nat) (x : OrR) : Prop := W.heap[g]? = some (.cells #[.int .i64 x.ky, .int .i64 x.st, .int .i64 x.en, .int .i64 x.an, .int .i64 x.asu, .int .i64 x.ale, .int .i64 x.amo, .int .i64 x.fn, .int .i64 x.fsu, .int .i64 x.fle, .int .i64 x.fmo, .int .i64 x.td, .bool x.tm] 66 (0, 0))
theorem BxO.new (W : World) (x : OrR) : BxO (W.alloc (.cells #[.int .i64 x.ky, .int .i64 x.st, .int .i64 x.en, .int .i64 x.an, .int .i64 x.asu, .int .i64 x.ale, .int .i64 x.amo, .int .i64 x.fn, .int .i64 x.fsu, .int .i64 x.fle, .int .i64 x.fmo, .int .i64 x.td, .bool x.tm] 66)) W.heap.size x := World.alloc_heap_new W _
theorem BxO.lt {W : World} {g : Nat} {x : OrR} (h : BxO W g x) : g < W.heap.size := (Array.getElem?_eq_some_iff.1 h).1
theorem BxO.bel {W W' : World} {B g : Nat} {x : OrR} (h : BxO W g x) (hb : Below B W W') (hg : g < B) : BxO W' g x := (hb.block g hg).trans h
/-- What a row tells, and what it is behind that. -/
def telB (m : Int) (x : OrR) : Bool := decide (x.en ≤ m) && decide (0 < x.fn)
def toldX (x : OrR) : OrR := { x with td := x.td + 1, tm := true, fn := 0, fsu := 0, fle := 0, fmo := 0 }
def panX (pc : Bool) (x : OrR) : PnR := ⟨x.ky, x.st, x.en, x.td, if x.tm = true then 2 else 1, if pc = true then x.fn else x.an, if pc = true then x.fsu else x.asu, if pc = true then x.fle else x.ale, if pc = true then x.fmo else x.amo⟩
theorem plO_told (x : OrR) : plO (toldX x) = plO x := rfl
theorem tel_told (m : Int) (x : OrR) : telB m (toldX x) = false := by simp [telB, toldX]
theorem gb_bel {w w' : World} {g : Option Nat} (h : Below w.heap.size w w') : w.grownBy w' g := ⟨h.os, h.tape, h.output, h.size, fun k hk _ => h.block k hk⟩
theorem gb_set {w w' : World} {g : Nat} {p : Addr} (h : w.grownBy w' (some g)) (hp : p.block = g ∨ w.heap.size ≤ p.block) (v : Value) : w.grownBy (w'.setCell p v) (some g) := by
  refine ⟨h.os, h.tape, h.output, by rw [World.setCell]; simpa using h.size, fun k hk hne => ?_⟩
  have hne' : k ≠ p.block := by
    rintro rfl
    rcases hp with h9 | h9
    · exact hne (by rw [h9])
    · omega
  rw [Below.heap_setCell w' p v k hne']
  exact h.block k hk hne
theorem gb_trans {a b c : World} {g : Nat} (h : a.grownBy b (some g)) (k : b.grownBy c (some g)) : a.grownBy c (some g) :=
  ⟨k.os.trans h.os, k.tape.trans h.tape, k.output.trans h.output, Nat.le_trans h.size k.size, fun i hi hne => (k.block i (Nat.lt_of_lt_of_le hi h.size) hne).trans (h.block i hi hne)⟩
end Go.Proofs.Ytflignpbboiahaa
