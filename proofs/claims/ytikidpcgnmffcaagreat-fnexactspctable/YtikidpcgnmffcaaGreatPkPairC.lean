/- Laid together: what the claim needs of the texts that were built one by one. -/
import Derived.Test.YtikidpcgnmffcaaGreatPkPairI
import Derived.Test.YtikidpcgnmffcaaGreatPkBase
namespace Go.Proofs.YtikidpcgnmffcaaGreat
open Go.RowKit Go.Shelf
set_option linter.unusedVariables false
attribute [local go_sem] Oper.semAt_some

def BxL (W : World) (q : Nat) (x : LpR) : Prop := W.heap[q]? = some (.cells #[.int .i64 x.kd, .int .i64 x.tm, .int .i64 x.ke, .int .i64 x.va, .int .i64 x.nn, .int .i64 x.st, .int .i64 x.en] 44 (0, 0))

theorem BxL.new (W : World) (x : LpR) : BxL (W.alloc (.cells #[.int .i64 x.kd, .int .i64 x.tm, .int .i64 x.ke, .int .i64 x.va, .int .i64 x.nn, .int .i64 x.st, .int .i64 x.en] 44)) W.heap.size x := World.alloc_heap_new W _

theorem BxL.cells {W : World} {q : Nat} {x : LpR} (h : BxL W q x) : W.cell? ⟨q, 0, none⟩ = some (.int .i64 x.kd) ∧ W.cell? ⟨q, 1, none⟩ = some (.int .i64 x.tm) ∧ W.cell? ⟨q, 2, none⟩ = some (.int .i64 x.ke) ∧ W.cell? ⟨q, 3, none⟩ = some (.int .i64 x.va) ∧ W.cell? ⟨q, 4, none⟩ = some (.int .i64 x.nn) ∧ W.cell? ⟨q, 5, none⟩ = some (.int .i64 x.st) ∧ W.cell? ⟨q, 6, none⟩ = some (.int .i64 x.en) := ⟨(Joins.cell_of_block h 0), (Joins.cell_of_block h 1), (Joins.cell_of_block h 2), (Joins.cell_of_block h 3), (Joins.cell_of_block h 4), (Joins.cell_of_block h 5), (Joins.cell_of_block h 6)⟩
end Go.Proofs.YtikidpcgnmffcaaGreat
