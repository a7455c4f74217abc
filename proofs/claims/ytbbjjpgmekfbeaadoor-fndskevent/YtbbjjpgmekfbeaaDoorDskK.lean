/- Proved here: an event of a kind and numbers, by the program. -/
import Derived.Test.YtbbjjpgmekfbeaaDoorDskJ
import Derived.Laws.CopyRow
import Derived.Laws.CopyOwn
import Derived.Laws.IdiomCopy
namespace Go.Proofs.YtbbjjpgmekfbeaaDoor
open Go.ChangeShapes Go.WideShapes Go.ChangeAt Go.RowKit
set_option linter.unusedVariables false


theorem sizeIn9 : (Tryd.prog.info? 3).map (·.size) = some 1 := by kernel_rfl
theorem two {α : Type} {l : List α} (h : l.length = 2) : ∃ a b, l = [a, b] := by
  match l, h with
  | [a, b], _ => exact ⟨a, b, rfl⟩
theorem lt_blk {W : World} {g : Nat} {o : Obj} (h : W.heap[g]? = some o) : g < W.heap.size := by
  rcases Nat.lt_or_ge g W.heap.size with h1 | h1
  · exact h1
  · rw [Array.getElem?_eq_none h1] at h; cases h

/-- The event of a kind and numbers. -/
def readX (c : Nat) (k : Int) (ns : List Int) : Int × Int × Int × Bool := if ns.length = c then (k, ns.getD 0 0, ns.getD 1 0, true) else (0, 0, 0, false)
set_option linter.unusedSimpArgs false in
set_option maxRecDepth 20000 in
set_option maxHeartbeats 2000000 in
theorem read1_any {a : Option Addr} {m cap : Nat} {ns : List Int} (w : World) (hm : ns.length = m) (h : NumsAt w a ns) : Calls Tryd.prog 25 #[.int .i64 1, .slice a m cap] w fun e w' => EvP (readX 1 1 ns) w e w' := by
  go_enter Tryd.func25, Tryd.ntmps25
  by_cases hl : m = 1
  · obtain rfl := hl
    obtain ⟨n0, rfl⟩ := one hm
    have HI : Hid (readX 1 1 [n0] = (1, n0, 0, true)) := hide rfl
    obtain h | ⟨g, rfl, hc⟩ := h
    · cases h
    have zg : g < w.heap.size := cellLt (hc 0 n0 rfl)
    obtain ⟨w3, hcp, hG, hR, hb3⟩ : ∃ w3, (Builtin.copy_ #[44, 44] 3 #[.slice (some ⟨w.heap.size + 1, 0, none⟩) 2 2, .slice (some ⟨g, 0, none⟩) 1 cap]).run Tryd.prog ((w.alloc (.cells #[.int .i64 0, .int .i64 0, .int .i64 0] 29)).alloc (.cells #[.int .i64 0, .int .i64 0] 69)) = .ok (.int .i64 1) w3 ∧ w3.heap[w.heap.size + 1]? = some (.cells #[.int .i64 n0, .int .i64 0] 69 (0, 0)) ∧ w3.heap[w.heap.size]? = some (.cells #[.int .i64 0, .int .i64 0, .int .i64 0] 29 (0, 0)) ∧ Below w.heap.size w w3 := by
      have e1 : (w.alloc (.cells #[.int .i64 0, .int .i64 0, .int .i64 0] 29)).heap.size = w.heap.size + 1 := by simp
      have hg : ((w.alloc (.cells #[.int .i64 0, .int .i64 0, .int .i64 0] 29)).alloc (.cells #[.int .i64 0, .int .i64 0] 69)).heap[w.heap.size + 1]? = some (.cells #[.int .i64 0, .int .i64 0] 69 (0, 0)) := by rw [← e1]; exact blk_at0
      have hr := run_copy_row (P := Tryd.prog) ((w.alloc (.cells #[.int .i64 0, .int .i64 0, .int .i64 0] 29)).alloc (.cells #[.int .i64 0, .int .i64 0] 69)) 44 44 3 3 (w.heap.size + 1) 0 2 2 ⟨g, 0, none⟩ 1 cap #[.int .i64 0, .int .i64 0] 69 [.int .i64 n0] Tryd.underlying44 sizeIn9 hg (by rfl) (fun j u hj => by
        have hb9 : Below w.heap.size w ((w.alloc (.cells #[.int .i64 0, .int .i64 0, .int .i64 0] 29)).alloc (.cells #[.int .i64 0, .int .i64 0] 69)) := bel_alloc (bel_one _ _) _
        match j, hj with
        | 0, hj => simp at hj; subst hj; exact cell_keep hb9 (hc 0 n0 rfl)
        | j + 1, hj => simp at hj) (by simp) (by simp [Value.oneCell'])
      have hb1 : ∀ cs, Below (w.alloc (.cells #[.int .i64 0, .int .i64 0, .int .i64 0] 29)).heap.size (w.alloc (.cells #[.int .i64 0, .int .i64 0, .int .i64 0] 29)) (((w.alloc (.cells #[.int .i64 0, .int .i64 0, .int .i64 0] 29)).alloc (.cells #[.int .i64 0, .int .i64 0] 69)).setRow (w.heap.size + 1) cs) := fun cs => below_setRow (bel_one _ _) (by rw [e1]; exact Nat.le_refl _) cs
      refine ⟨_, hr, ?_, ((hb1 _).block w.heap.size (by simp)).trans blk_at0, bel_trans (bel_one _ _) (hb1 _)⟩
      rw [setRow_heap _ _ _ _ _ _ hg]
      rfl
    clear hc
    have z3 : w.heap.size + 1 < w3.heap.size := lt_blk hG
    have z4 : w.heap.size < w3.heap.size := by omega
    have g0 : w3.cell? ⟨w.heap.size + 1, 0, none⟩ = some (.int .i64 n0) := by simp [World.cell?, hG, go_sem]
    have g1 : w3.cell? ⟨w.heap.size + 1, 1, none⟩ = some (.int .i64 0) := by simp [World.cell?, hG, go_sem]
    have r0 : w3.cell? ⟨w.heap.size, 0, none⟩ = some (.int .i64 0) := by simp [World.cell?, hR, go_sem]
    have rf0 : w3.frozen? ⟨w.heap.size, 0, none⟩ = false := by simp [World.frozen?, hR, go_sem]
    have r1 : w3.cell? ⟨w.heap.size, 1, none⟩ = some (.int .i64 0) := by simp [World.cell?, hR, go_sem]
    have rf1 : w3.frozen? ⟨w.heap.size, 1, none⟩ = false := by simp [World.frozen?, hR, go_sem]
    have r2 : w3.cell? ⟨w.heap.size, 2, none⟩ = some (.int .i64 0) := by simp [World.cell?, hR, go_sem]
    have rf2 : w3.frozen? ⟨w.heap.size, 2, none⟩ = false := by simp [World.frozen?, hR, go_sem]
    go_wp2
    refine bodyPost_ret (v := .tuple #[.agg #[.int .i64 1, .int .i64 n0, .int .i64 0], .bool true]) (by simp (maxDischargeDepth := 9) [results, Tryd.results25, go_sem, *]) rfl ⟨1, n0, 0, true, rfl, unhide HI, (by repeat (first | (with_reducible exact Below.refl _ _) | (with_reducible assumption) | (with_reducible refine bel_set ?_ (by first | (simp; done) | (simp; omega)) _) | (with_reducible refine bel_alloc ?_ _) | (with_reducible refine bel_drew ?_) | (with_reducible refine bel_drewN ?_ _) | (with_reducible refine bel_trans ?_ (by with_reducible assumption))))⟩
  · have hl2 : ¬ (m : Int) = 1 := by omega
    have HI : Hid (readX 1 1 ns = (0, 0, 0, false)) := hide (if_neg (by omega))
    clear h hm
    go_wp2
    refine bodyPost_ret (v := .tuple #[.agg #[.int .i64 0, .int .i64 0, .int .i64 0], .bool false]) (by simp (maxDischargeDepth := 9) [results, Tryd.results25, go_sem, *]) rfl ⟨0, 0, 0, false, rfl, unhide HI, (by repeat (first | (with_reducible exact Below.refl _ _) | (with_reducible assumption) | (with_reducible refine bel_set ?_ (by first | (simp; done) | (simp; omega)) _) | (with_reducible refine bel_alloc ?_ _) | (with_reducible refine bel_drew ?_) | (with_reducible refine bel_drewN ?_ _) | (with_reducible refine bel_trans ?_ (by with_reducible assumption))))⟩
set_option linter.unusedSimpArgs false in
set_option maxRecDepth 20000 in
set_option maxHeartbeats 2000000 in
theorem read2_any {a : Option Addr} {m cap : Nat} {ns : List Int} (w : World) (hm : ns.length = m) (h : NumsAt w a ns) : Calls Tryd.prog 25 #[.int .i64 2, .slice a m cap] w fun e w' => EvP (readX 2 2 ns) w e w' := by
  go_enter Tryd.func25, Tryd.ntmps25
  by_cases hl : m = 2
  · obtain rfl := hl
    obtain ⟨n0, n1, rfl⟩ := two hm
    have HI : Hid (readX 2 2 [n0, n1] = (2, n0, n1, true)) := hide rfl
    obtain h | ⟨g, rfl, hc⟩ := h
    · cases h
    have zg : g < w.heap.size := cellLt (hc 0 n0 rfl)
    obtain ⟨w3, hcp, hG, hR, hb3⟩ : ∃ w3, (Builtin.copy_ #[44, 44] 3 #[.slice (some ⟨w.heap.size + 1, 0, none⟩) 2 2, .slice (some ⟨g, 0, none⟩) 2 cap]).run Tryd.prog ((w.alloc (.cells #[.int .i64 0, .int .i64 0, .int .i64 0] 29)).alloc (.cells #[.int .i64 0, .int .i64 0] 69)) = .ok (.int .i64 2) w3 ∧ w3.heap[w.heap.size + 1]? = some (.cells #[.int .i64 n0, .int .i64 n1] 69 (0, 0)) ∧ w3.heap[w.heap.size]? = some (.cells #[.int .i64 0, .int .i64 0, .int .i64 0] 29 (0, 0)) ∧ Below w.heap.size w w3 := by
      have e1 : (w.alloc (.cells #[.int .i64 0, .int .i64 0, .int .i64 0] 29)).heap.size = w.heap.size + 1 := by simp
      have hg : ((w.alloc (.cells #[.int .i64 0, .int .i64 0, .int .i64 0] 29)).alloc (.cells #[.int .i64 0, .int .i64 0] 69)).heap[w.heap.size + 1]? = some (.cells #[.int .i64 0, .int .i64 0] 69 (0, 0)) := by rw [← e1]; exact blk_at0
      have hr := run_copy_row (P := Tryd.prog) ((w.alloc (.cells #[.int .i64 0, .int .i64 0, .int .i64 0] 29)).alloc (.cells #[.int .i64 0, .int .i64 0] 69)) 44 44 3 3 (w.heap.size + 1) 0 2 2 ⟨g, 0, none⟩ 2 cap #[.int .i64 0, .int .i64 0] 69 [.int .i64 n0, .int .i64 n1] Tryd.underlying44 sizeIn9 hg (by rfl) (fun j u hj => by
        have hb9 : Below w.heap.size w ((w.alloc (.cells #[.int .i64 0, .int .i64 0, .int .i64 0] 29)).alloc (.cells #[.int .i64 0, .int .i64 0] 69)) := bel_alloc (bel_one _ _) _
        match j, hj with
        | 0, hj => simp at hj; subst hj; exact cell_keep hb9 (hc 0 n0 rfl)
        | 1, hj => simp at hj; subst hj; exact cell_keep hb9 (hc 1 n1 rfl)
        | j + 2, hj => simp at hj) (by simp) (by simp [Value.oneCell'])
      have hb1 : ∀ cs, Below (w.alloc (.cells #[.int .i64 0, .int .i64 0, .int .i64 0] 29)).heap.size (w.alloc (.cells #[.int .i64 0, .int .i64 0, .int .i64 0] 29)) (((w.alloc (.cells #[.int .i64 0, .int .i64 0, .int .i64 0] 29)).alloc (.cells #[.int .i64 0, .int .i64 0] 69)).setRow (w.heap.size + 1) cs) := fun cs => below_setRow (bel_one _ _) (by rw [e1]; exact Nat.le_refl _) cs
      refine ⟨_, hr, ?_, ((hb1 _).block w.heap.size (by simp)).trans blk_at0, bel_trans (bel_one _ _) (hb1 _)⟩
      rw [setRow_heap _ _ _ _ _ _ hg]
      rfl
    clear hc
    have z3 : w.heap.size + 1 < w3.heap.size := lt_blk hG
    have z4 : w.heap.size < w3.heap.size := by omega
    have g0 : w3.cell? ⟨w.heap.size + 1, 0, none⟩ = some (.int .i64 n0) := by simp [World.cell?, hG, go_sem]
    have g1 : w3.cell? ⟨w.heap.size + 1, 1, none⟩ = some (.int .i64 n1) := by simp [World.cell?, hG, go_sem]
    have r0 : w3.cell? ⟨w.heap.size, 0, none⟩ = some (.int .i64 0) := by simp [World.cell?, hR, go_sem]
    have rf0 : w3.frozen? ⟨w.heap.size, 0, none⟩ = false := by simp [World.frozen?, hR, go_sem]
    have r1 : w3.cell? ⟨w.heap.size, 1, none⟩ = some (.int .i64 0) := by simp [World.cell?, hR, go_sem]
    have rf1 : w3.frozen? ⟨w.heap.size, 1, none⟩ = false := by simp [World.frozen?, hR, go_sem]
    have r2 : w3.cell? ⟨w.heap.size, 2, none⟩ = some (.int .i64 0) := by simp [World.cell?, hR, go_sem]
    have rf2 : w3.frozen? ⟨w.heap.size, 2, none⟩ = false := by simp [World.frozen?, hR, go_sem]
    go_wp2
    refine bodyPost_ret (v := .tuple #[.agg #[.int .i64 2, .int .i64 n0, .int .i64 n1], .bool true]) (by simp (maxDischargeDepth := 9) [results, Tryd.results25, go_sem, *]) rfl ⟨2, n0, n1, true, rfl, unhide HI, (by repeat (first | (with_reducible exact Below.refl _ _) | (with_reducible assumption) | (with_reducible refine bel_set ?_ (by first | (simp; done) | (simp; omega)) _) | (with_reducible refine bel_alloc ?_ _) | (with_reducible refine bel_drew ?_) | (with_reducible refine bel_drewN ?_ _) | (with_reducible refine bel_trans ?_ (by with_reducible assumption))))⟩
  · have hl2 : ¬ (m : Int) = 2 := by omega
    have HI : Hid (readX 2 2 ns = (0, 0, 0, false)) := hide (if_neg (by omega))
    clear h hm
    go_wp2
    refine bodyPost_ret (v := .tuple #[.agg #[.int .i64 0, .int .i64 0, .int .i64 0], .bool false]) (by simp (maxDischargeDepth := 9) [results, Tryd.results25, go_sem, *]) rfl ⟨0, 0, 0, false, rfl, unhide HI, (by repeat (first | (with_reducible exact Below.refl _ _) | (with_reducible assumption) | (with_reducible refine bel_set ?_ (by first | (simp; done) | (simp; omega)) _) | (with_reducible refine bel_alloc ?_ _) | (with_reducible refine bel_drew ?_) | (with_reducible refine bel_drewN ?_ _) | (with_reducible refine bel_trans ?_ (by with_reducible assumption))))⟩
set_option linter.unusedSimpArgs false in
set_option maxRecDepth 20000 in
set_option maxHeartbeats 2000000 in
theorem read3_any {a : Option Addr} {m cap : Nat} {ns : List Int} (w : World) (hm : ns.length = m) (h : NumsAt w a ns) : Calls Tryd.prog 25 #[.int .i64 3, .slice a m cap] w fun e w' => EvP (readX 0 3 ns) w e w' := by
  go_enter Tryd.func25, Tryd.ntmps25
  by_cases hl : m = 0
  · obtain rfl := hl
    have HI : Hid (readX 0 3 ns = (3, 0, 0, true)) := hide (by rw [List.eq_nil_of_length_eq_zero hm]; rfl)
    clear h hm
    have hcp := run_copy_none (P := Tryd.prog) ((w.alloc (.cells #[.int .i64 0, .int .i64 0, .int .i64 0] 29)).alloc (.cells #[.int .i64 0, .int .i64 0] 69)) 44 44 3 3 (some ⟨w.heap.size + 1, 0, none⟩) a 2 2 0 cap Tryd.underlying44 sizeIn9 (by rfl)
    go_wp2
    refine bodyPost_ret (v := .tuple #[.agg #[.int .i64 3, .int .i64 0, .int .i64 0], .bool true]) (by simp (maxDischargeDepth := 9) [results, Tryd.results25, go_sem, *]) rfl ⟨3, 0, 0, true, rfl, unhide HI, (by repeat (first | (with_reducible exact Below.refl _ _) | (with_reducible assumption) | (with_reducible refine bel_set ?_ (by first | (simp; done) | (simp; omega)) _) | (with_reducible refine bel_alloc ?_ _) | (with_reducible refine bel_drew ?_) | (with_reducible refine bel_drewN ?_ _) | (with_reducible refine bel_trans ?_ (by with_reducible assumption))))⟩
  · have hl2 : ¬ (m : Int) = 0 := by omega
    have HI : Hid (readX 0 3 ns = (0, 0, 0, false)) := hide (if_neg (by omega))
    clear h hm
    go_wp2
    refine bodyPost_ret (v := .tuple #[.agg #[.int .i64 0, .int .i64 0, .int .i64 0], .bool false]) (by simp (maxDischargeDepth := 9) [results, Tryd.results25, go_sem, *]) rfl ⟨0, 0, 0, false, rfl, unhide HI, (by repeat (first | (with_reducible exact Below.refl _ _) | (with_reducible assumption) | (with_reducible refine bel_set ?_ (by first | (simp; done) | (simp; omega)) _) | (with_reducible refine bel_alloc ?_ _) | (with_reducible refine bel_drew ?_) | (with_reducible refine bel_drewN ?_ _) | (with_reducible refine bel_trans ?_ (by with_reducible assumption))))⟩
set_option linter.unusedSimpArgs false in
set_option maxRecDepth 20000 in
set_option maxHeartbeats 2000000 in
theorem read4_any {a : Option Addr} {m cap : Nat} {ns : List Int} (w : World) (hm : ns.length = m) (h : NumsAt w a ns) : Calls Tryd.prog 25 #[.int .i64 4, .slice a m cap] w fun e w' => EvP (readX 0 4 ns) w e w' := by
  go_enter Tryd.func25, Tryd.ntmps25
  by_cases hl : m = 0
  · obtain rfl := hl
    have HI : Hid (readX 0 4 ns = (4, 0, 0, true)) := hide (by rw [List.eq_nil_of_length_eq_zero hm]; rfl)
    clear h hm
    have hcp := run_copy_none (P := Tryd.prog) ((w.alloc (.cells #[.int .i64 0, .int .i64 0, .int .i64 0] 29)).alloc (.cells #[.int .i64 0, .int .i64 0] 69)) 44 44 3 3 (some ⟨w.heap.size + 1, 0, none⟩) a 2 2 0 cap Tryd.underlying44 sizeIn9 (by rfl)
    go_wp2
    refine bodyPost_ret (v := .tuple #[.agg #[.int .i64 4, .int .i64 0, .int .i64 0], .bool true]) (by simp (maxDischargeDepth := 9) [results, Tryd.results25, go_sem, *]) rfl ⟨4, 0, 0, true, rfl, unhide HI, (by repeat (first | (with_reducible exact Below.refl _ _) | (with_reducible assumption) | (with_reducible refine bel_set ?_ (by first | (simp; done) | (simp; omega)) _) | (with_reducible refine bel_alloc ?_ _) | (with_reducible refine bel_drew ?_) | (with_reducible refine bel_drewN ?_ _) | (with_reducible refine bel_trans ?_ (by with_reducible assumption))))⟩
  · have hl2 : ¬ (m : Int) = 0 := by omega
    have HI : Hid (readX 0 4 ns = (0, 0, 0, false)) := hide (if_neg (by omega))
    clear h hm
    go_wp2
    refine bodyPost_ret (v := .tuple #[.agg #[.int .i64 0, .int .i64 0, .int .i64 0], .bool false]) (by simp (maxDischargeDepth := 9) [results, Tryd.results25, go_sem, *]) rfl ⟨0, 0, 0, false, rfl, unhide HI, (by repeat (first | (with_reducible exact Below.refl _ _) | (with_reducible assumption) | (with_reducible refine bel_set ?_ (by first | (simp; done) | (simp; omega)) _) | (with_reducible refine bel_alloc ?_ _) | (with_reducible refine bel_drew ?_) | (with_reducible refine bel_drewN ?_ _) | (with_reducible refine bel_trans ?_ (by with_reducible assumption))))⟩
set_option linter.unusedSimpArgs false in
set_option maxRecDepth 20000 in
set_option maxHeartbeats 2000000 in
theorem read5_any {a : Option Addr} {m cap : Nat} {ns : List Int} (w : World) (hm : ns.length = m) (h : NumsAt w a ns) : Calls Tryd.prog 25 #[.int .i64 5, .slice a m cap] w fun e w' => EvP (readX 0 5 ns) w e w' := by
  go_enter Tryd.func25, Tryd.ntmps25
  by_cases hl : m = 0
  · obtain rfl := hl
    have HI : Hid (readX 0 5 ns = (5, 0, 0, true)) := hide (by rw [List.eq_nil_of_length_eq_zero hm]; rfl)
    clear h hm
    have hcp := run_copy_none (P := Tryd.prog) ((w.alloc (.cells #[.int .i64 0, .int .i64 0, .int .i64 0] 29)).alloc (.cells #[.int .i64 0, .int .i64 0] 69)) 44 44 3 3 (some ⟨w.heap.size + 1, 0, none⟩) a 2 2 0 cap Tryd.underlying44 sizeIn9 (by rfl)
    go_wp2
    refine bodyPost_ret (v := .tuple #[.agg #[.int .i64 5, .int .i64 0, .int .i64 0], .bool true]) (by simp (maxDischargeDepth := 9) [results, Tryd.results25, go_sem, *]) rfl ⟨5, 0, 0, true, rfl, unhide HI, (by repeat (first | (with_reducible exact Below.refl _ _) | (with_reducible assumption) | (with_reducible refine bel_set ?_ (by first | (simp; done) | (simp; omega)) _) | (with_reducible refine bel_alloc ?_ _) | (with_reducible refine bel_drew ?_) | (with_reducible refine bel_drewN ?_ _) | (with_reducible refine bel_trans ?_ (by with_reducible assumption))))⟩
  · have hl2 : ¬ (m : Int) = 0 := by omega
    have HI : Hid (readX 0 5 ns = (0, 0, 0, false)) := hide (if_neg (by omega))
    clear h hm
    go_wp2
    refine bodyPost_ret (v := .tuple #[.agg #[.int .i64 0, .int .i64 0, .int .i64 0], .bool false]) (by simp (maxDischargeDepth := 9) [results, Tryd.results25, go_sem, *]) rfl ⟨0, 0, 0, false, rfl, unhide HI, (by repeat (first | (with_reducible exact Below.refl _ _) | (with_reducible assumption) | (with_reducible refine bel_set ?_ (by first | (simp; done) | (simp; omega)) _) | (with_reducible refine bel_alloc ?_ _) | (with_reducible refine bel_drew ?_) | (with_reducible refine bel_drewN ?_ _) | (with_reducible refine bel_trans ?_ (by with_reducible assumption))))⟩
set_option linter.unusedSimpArgs false in
set_option maxRecDepth 20000 in
set_option maxHeartbeats 2000000 in
theorem read6_any {a : Option Addr} {m cap : Nat} {ns : List Int} (w : World) (hm : ns.length = m) (h : NumsAt w a ns) : Calls Tryd.prog 25 #[.int .i64 6, .slice a m cap] w fun e w' => EvP (readX 1 6 ns) w e w' := by
  go_enter Tryd.func25, Tryd.ntmps25
  by_cases hl : m = 1
  · obtain rfl := hl
    obtain ⟨n0, rfl⟩ := one hm
    have HI : Hid (readX 1 6 [n0] = (6, n0, 0, true)) := hide rfl
    obtain h | ⟨g, rfl, hc⟩ := h
    · cases h
    have zg : g < w.heap.size := cellLt (hc 0 n0 rfl)
    obtain ⟨w3, hcp, hG, hR, hb3⟩ : ∃ w3, (Builtin.copy_ #[44, 44] 3 #[.slice (some ⟨w.heap.size + 1, 0, none⟩) 2 2, .slice (some ⟨g, 0, none⟩) 1 cap]).run Tryd.prog ((w.alloc (.cells #[.int .i64 0, .int .i64 0, .int .i64 0] 29)).alloc (.cells #[.int .i64 0, .int .i64 0] 69)) = .ok (.int .i64 1) w3 ∧ w3.heap[w.heap.size + 1]? = some (.cells #[.int .i64 n0, .int .i64 0] 69 (0, 0)) ∧ w3.heap[w.heap.size]? = some (.cells #[.int .i64 0, .int .i64 0, .int .i64 0] 29 (0, 0)) ∧ Below w.heap.size w w3 := by
      have e1 : (w.alloc (.cells #[.int .i64 0, .int .i64 0, .int .i64 0] 29)).heap.size = w.heap.size + 1 := by simp
      have hg : ((w.alloc (.cells #[.int .i64 0, .int .i64 0, .int .i64 0] 29)).alloc (.cells #[.int .i64 0, .int .i64 0] 69)).heap[w.heap.size + 1]? = some (.cells #[.int .i64 0, .int .i64 0] 69 (0, 0)) := by rw [← e1]; exact blk_at0
      have hr := run_copy_row (P := Tryd.prog) ((w.alloc (.cells #[.int .i64 0, .int .i64 0, .int .i64 0] 29)).alloc (.cells #[.int .i64 0, .int .i64 0] 69)) 44 44 3 3 (w.heap.size + 1) 0 2 2 ⟨g, 0, none⟩ 1 cap #[.int .i64 0, .int .i64 0] 69 [.int .i64 n0] Tryd.underlying44 sizeIn9 hg (by rfl) (fun j u hj => by
        have hb9 : Below w.heap.size w ((w.alloc (.cells #[.int .i64 0, .int .i64 0, .int .i64 0] 29)).alloc (.cells #[.int .i64 0, .int .i64 0] 69)) := bel_alloc (bel_one _ _) _
        match j, hj with
        | 0, hj => simp at hj; subst hj; exact cell_keep hb9 (hc 0 n0 rfl)
        | j + 1, hj => simp at hj) (by simp) (by simp [Value.oneCell'])
      have hb1 : ∀ cs, Below (w.alloc (.cells #[.int .i64 0, .int .i64 0, .int .i64 0] 29)).heap.size (w.alloc (.cells #[.int .i64 0, .int .i64 0, .int .i64 0] 29)) (((w.alloc (.cells #[.int .i64 0, .int .i64 0, .int .i64 0] 29)).alloc (.cells #[.int .i64 0, .int .i64 0] 69)).setRow (w.heap.size + 1) cs) := fun cs => below_setRow (bel_one _ _) (by rw [e1]; exact Nat.le_refl _) cs
      refine ⟨_, hr, ?_, ((hb1 _).block w.heap.size (by simp)).trans blk_at0, bel_trans (bel_one _ _) (hb1 _)⟩
      rw [setRow_heap _ _ _ _ _ _ hg]
      rfl
    clear hc
    have z3 : w.heap.size + 1 < w3.heap.size := lt_blk hG
    have z4 : w.heap.size < w3.heap.size := by omega
    have g0 : w3.cell? ⟨w.heap.size + 1, 0, none⟩ = some (.int .i64 n0) := by simp [World.cell?, hG, go_sem]
    have g1 : w3.cell? ⟨w.heap.size + 1, 1, none⟩ = some (.int .i64 0) := by simp [World.cell?, hG, go_sem]
    have r0 : w3.cell? ⟨w.heap.size, 0, none⟩ = some (.int .i64 0) := by simp [World.cell?, hR, go_sem]
    have rf0 : w3.frozen? ⟨w.heap.size, 0, none⟩ = false := by simp [World.frozen?, hR, go_sem]
    have r1 : w3.cell? ⟨w.heap.size, 1, none⟩ = some (.int .i64 0) := by simp [World.cell?, hR, go_sem]
    have rf1 : w3.frozen? ⟨w.heap.size, 1, none⟩ = false := by simp [World.frozen?, hR, go_sem]
    have r2 : w3.cell? ⟨w.heap.size, 2, none⟩ = some (.int .i64 0) := by simp [World.cell?, hR, go_sem]
    have rf2 : w3.frozen? ⟨w.heap.size, 2, none⟩ = false := by simp [World.frozen?, hR, go_sem]
    go_wp2
    refine bodyPost_ret (v := .tuple #[.agg #[.int .i64 6, .int .i64 n0, .int .i64 0], .bool true]) (by simp (maxDischargeDepth := 9) [results, Tryd.results25, go_sem, *]) rfl ⟨6, n0, 0, true, rfl, unhide HI, (by repeat (first | (with_reducible exact Below.refl _ _) | (with_reducible assumption) | (with_reducible refine bel_set ?_ (by first | (simp; done) | (simp; omega)) _) | (with_reducible refine bel_alloc ?_ _) | (with_reducible refine bel_drew ?_) | (with_reducible refine bel_drewN ?_ _) | (with_reducible refine bel_trans ?_ (by with_reducible assumption))))⟩
  · have hl2 : ¬ (m : Int) = 1 := by omega
    have HI : Hid (readX 1 6 ns = (0, 0, 0, false)) := hide (if_neg (by omega))
    clear h hm
    go_wp2
    refine bodyPost_ret (v := .tuple #[.agg #[.int .i64 0, .int .i64 0, .int .i64 0], .bool false]) (by simp (maxDischargeDepth := 9) [results, Tryd.results25, go_sem, *]) rfl ⟨0, 0, 0, false, rfl, unhide HI, (by repeat (first | (with_reducible exact Below.refl _ _) | (with_reducible assumption) | (with_reducible refine bel_set ?_ (by first | (simp; done) | (simp; omega)) _) | (with_reducible refine bel_alloc ?_ _) | (with_reducible refine bel_drew ?_) | (with_reducible refine bel_drewN ?_ _) | (with_reducible refine bel_trans ?_ (by with_reducible assumption))))⟩
set_option linter.unusedSimpArgs false in
set_option maxRecDepth 20000 in
set_option maxHeartbeats 2000000 in
theorem read7_any {a : Option Addr} {m cap : Nat} {ns : List Int} (w : World) (hm : ns.length = m) (h : NumsAt w a ns) : Calls Tryd.prog 25 #[.int .i64 7, .slice a m cap] w fun e w' => EvP (readX 0 7 ns) w e w' := by
  go_enter Tryd.func25, Tryd.ntmps25
  by_cases hl : m = 0
  · obtain rfl := hl
    have HI : Hid (readX 0 7 ns = (7, 0, 0, true)) := hide (by rw [List.eq_nil_of_length_eq_zero hm]; rfl)
    clear h hm
    have hcp := run_copy_none (P := Tryd.prog) ((w.alloc (.cells #[.int .i64 0, .int .i64 0, .int .i64 0] 29)).alloc (.cells #[.int .i64 0, .int .i64 0] 69)) 44 44 3 3 (some ⟨w.heap.size + 1, 0, none⟩) a 2 2 0 cap Tryd.underlying44 sizeIn9 (by rfl)
    go_wp2
    refine bodyPost_ret (v := .tuple #[.agg #[.int .i64 7, .int .i64 0, .int .i64 0], .bool true]) (by simp (maxDischargeDepth := 9) [results, Tryd.results25, go_sem, *]) rfl ⟨7, 0, 0, true, rfl, unhide HI, (by repeat (first | (with_reducible exact Below.refl _ _) | (with_reducible assumption) | (with_reducible refine bel_set ?_ (by first | (simp; done) | (simp; omega)) _) | (with_reducible refine bel_alloc ?_ _) | (with_reducible refine bel_drew ?_) | (with_reducible refine bel_drewN ?_ _) | (with_reducible refine bel_trans ?_ (by with_reducible assumption))))⟩
  · have hl2 : ¬ (m : Int) = 0 := by omega
    have HI : Hid (readX 0 7 ns = (0, 0, 0, false)) := hide (if_neg (by omega))
    clear h hm
    go_wp2
    refine bodyPost_ret (v := .tuple #[.agg #[.int .i64 0, .int .i64 0, .int .i64 0], .bool false]) (by simp (maxDischargeDepth := 9) [results, Tryd.results25, go_sem, *]) rfl ⟨0, 0, 0, false, rfl, unhide HI, (by repeat (first | (with_reducible exact Below.refl _ _) | (with_reducible assumption) | (with_reducible refine bel_set ?_ (by first | (simp; done) | (simp; omega)) _) | (with_reducible refine bel_alloc ?_ _) | (with_reducible refine bel_drew ?_) | (with_reducible refine bel_drewN ?_ _) | (with_reducible refine bel_trans ?_ (by with_reducible assumption))))⟩
end Go.Proofs.YtbbjjpgmekfbeaaDoor
