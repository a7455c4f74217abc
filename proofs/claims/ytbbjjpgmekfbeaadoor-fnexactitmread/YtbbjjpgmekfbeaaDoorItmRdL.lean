/- Proved here: the law of reading an item, walked. -/
import Derived.Test.YtbbjjpgmekfbeaaDoorItmRdK
namespace Go.Proofs.YtbbjjpgmekfbeaaDoor
open Go.ChangeShapes Go.WideShapes Go.ChangeAt Go.RowKit
set_option linter.unusedVariables false


set_option linter.unusedSimpArgs false in
set_option maxRecDepth 20000 in
set_option maxHeartbeats 1000000 in
theorem eqItmR_any (q t k v n : Int) (w : World) : Calls Tryd.prog 9 #[.agg #[.int .i64 q, .int .i64 t, .int .i64 k, .int .i64 v, .int .i64 n], .agg #[.int .i64 q, .int .i64 t, .int .i64 k, .int .i64 v, .int .i64 n]] w fun e w' => e = .returned (.bool true) ∧ Below w.heap.size w w' := by
  go_enter Tryd.func9, Tryd.ntmps9
  go_wp2
  go_ret
  exact ⟨rfl, (by repeat (first | (with_reducible exact Below.refl _ _) | (with_reducible assumption) | (with_reducible refine bel_set ?_ (by first | (simp; done) | (simp; omega)) _) | (with_reducible refine bel_alloc ?_ _) | (with_reducible refine bel_drew ?_) | (with_reducible refine bel_drewN ?_ _) | (with_reducible refine bel_trans ?_ (by with_reducible assumption))))⟩
set_option linter.unusedSimpArgs false in
set_option maxRecDepth 20000 in
set_option maxHeartbeats 1000000 in
theorem lawItmRead {tp1 tp2 : TypeId} {p1 p2 : Value} {m : Int} (s : ByteArray) (w : World) (hE : Env tp1 tp2 p1 p2 m w) : Calls Tryd.prog 3 #[.string s] w fun e w' => e = .returned (.bool true) ∧ Below w.heap.size w w' := by
  have HE := hide hE
  clear hE
  by_cases hz : (1048576 : Int) < (s.size : Int)
  · go_enter Tryd.func3, Tryd.ntmps3
    go_wp2_with fail
    go_ret
    exact ⟨rfl, Below.refl _ _⟩
  · have hs : s.size ≤ 1048576 := by omega
    go_enter Tryd.func3, Tryd.ntmps3
    go_wp2_with fail
    refine (specitmread_any s _ hs).mono ?_
    rintro e w1 ⟨q, t, k, v, n, c, rfl, hR1, hb1⟩
    have HR1 := hide hR1
    clear hR1
    have HE1 := hide ((unhide HE).bel hb1)
    go_wp2_with fail
    refine (implitmread_any s _ ((unhide HE1).bel (bel_one _ _))).mono ?_
    rintro e w2 ⟨q', t', k', v', n', d, rfl, hR2, hb2⟩
    obtain ⟨rfl, rfl, rfl, rfl, rfl, rfl⟩ := (unhide HR1).same hR2
    clear HR1 hR2
    have hX2 := (hb2.block w1.heap.size (by simp)).trans blk_at0
    have x0 : w2.cell? ⟨w1.heap.size, 0, none⟩ = some (.int .i64 q) := by simp [World.cell?, hX2, go_sem]
    have x1 : w2.cell? ⟨w1.heap.size, 1, none⟩ = some (.int .i64 t) := by simp [World.cell?, hX2, go_sem]
    have x2 : w2.cell? ⟨w1.heap.size, 2, none⟩ = some (.int .i64 k) := by simp [World.cell?, hX2, go_sem]
    have x3 : w2.cell? ⟨w1.heap.size, 3, none⟩ = some (.int .i64 v) := by simp [World.cell?, hX2, go_sem]
    have x4 : w2.cell? ⟨w1.heap.size, 4, none⟩ = some (.int .i64 n) := by simp [World.cell?, hX2, go_sem]
    have hz2 : w1.heap.size < w2.heap.size := by have h9 := hb2.size; simp at h9; omega
    have hbb := bel_trans hb1 (bel_trans (bel_one _ _) hb2)
    clear hb1 hb2 hX2
    have hcc : (c == c) = true := by cases c <;> rfl
    go_wp2_with fail
    refine (eqItmR_any _ _ _ _ _ _).mono ?_
    rintro e w3 ⟨rfl, hb3⟩
    go_wp2
    go_ret
    exact ⟨rfl, bel_trans (bel_alloc hbb _) hb3⟩
end Go.Proofs.YtbbjjpgmekfbeaaDoor
