/- Proved here: the law of reading a window, walked. -/
import Derived.Test.YtejkphofkdcekaaDoorReadImpl

namespace Go.Proofs.YtejkphofkdcekaaDoor
open Go.ChangeShapes Go.WideShapes Go.ChangeAt Go.RowKit
set_option linter.unusedVariables false

theorem eqWinR_any (a b : Int) (w : World) : Calls Tryd.prog 20 #[.agg #[.int .i64 a, .int .i64 b], .agg #[.int .i64 a, .int .i64 b]] w fun e w' => e = .returned (.bool true) ∧ Below w.heap.size w w' := by
  go_enter Tryd.func20, Tryd.ntmps20
  go_wp2
  go_ret
  exact ⟨rfl, (by repeat (first | exact Below.refl _ _ | exact bel_one _ _ | assumption | refine bel_alloc ?_ _ | refine bel_drew ?_ | refine bel_drewN ?_ _ | refine bel_trans ?_ (by assumption)))⟩

set_option maxRecDepth 20000 in
set_option maxHeartbeats 1000000 in
theorem lawWinRead {tp1 tp2 : TypeId} {p1 p2 : Value} {m : Int} (s : ByteArray) (w : World) (hE : Env tp1 tp2 p1 p2 m w) : Calls Tryd.prog 6 #[.string s] w fun e w' => e = .returned (.bool true) ∧ Below w.heap.size w w' := by
  have HE := hide hE
  clear hE
  by_cases hz : (1048576 : Int) < (s.size : Int)
  · go_enter Tryd.func6, Tryd.ntmps6
    go_wp2_with fail
    go_ret
    exact ⟨rfl, Below.refl _ _⟩
  · have hs : s.size ≤ 1048576 := by omega
    go_enter Tryd.func6, Tryd.ntmps6
    go_wp2_with fail
    refine (specread_any s _ hs).mono ?_
    rintro e w1 ⟨a, b, c, rfl, hR1, hb1⟩
    have HR1 := hide hR1
    clear hR1
    have HE1 := hide ((unhide HE).bel hb1)
    go_wp2_with fail
    refine (implread_any ((unhide HE1).bel (bel_one _ _)) hs).mono ?_
    rintro e w2 ⟨x, y, d, rfl, hR2, hb2⟩
    obtain ⟨rfl, rfl, rfl⟩ := (unhide HR1).same hR2
    clear HR1 hR2
    obtain ⟨hc, hf, hs1⟩ := bcell hb2
    have x0 : w2.cell? ⟨w1.heap.size, 0, none⟩ = some (.int .i64 a) := (hc _ _ (by simp)).trans (by simp [go_sem])
    have x1 : w2.cell? ⟨w1.heap.size, 1, none⟩ = some (.int .i64 b) := (hc _ _ (by simp)).trans (by simp [go_sem])
    have hz2 : w1.heap.size < w2.heap.size := hs1 _ (by simp)
    have hbb := bel_trans hb1 (bel_trans (bel_one _ _) hb2)
    clear hc hf hs1 hb1 hb2
    have hcc : (c == c) = true := by cases c <;> rfl
    go_wp2_with (go_at_call 20; refine (eqWinR_any _ _ _).mono ?_; rintro e w' ⟨rfl, hb⟩; obtain ⟨hc, hf, hs⟩ := bcell hb)
    go_ret
    exact ⟨rfl, bel_trans (bel_alloc hbb _) hb⟩
end Go.Proofs.YtejkphofkdcekaaDoor
