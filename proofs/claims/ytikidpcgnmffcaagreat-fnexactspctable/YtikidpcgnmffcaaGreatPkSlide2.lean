/- Laid together: what the claim needs of the texts that were built one by one. -/
import Derived.Test.YtikidpcgnmffcaaGreatPkSlide
import Derived.Deep.Onto
import Derived.Test.YtikidpcgnmffcaaGreatPkBase
namespace Go.Proofs.YtikidpcgnmffcaaGreat
open Go.ChangeShapes Go.WideShapes Go.ChangeAt Go.RowKit
set_option linter.unusedVariables false

set_option maxRecDepth 20000 in
set_option maxHeartbeats 2000000 in
theorem specslide_any (s t k z p l e : Int) (b : Bool) (v r : Int) (T : Int) (hT : 0 ≤ T ∧ T ≤ 60) (hz : 1 ≤ z ∧ z ≤ 20) (hp : 1 ≤ p ∧ p ≤ 20) (hk : k = 2) (w : World) : Calls Tryz.prog 27 #[.agg #[.int .i64 s, .int .i64 t, .int .i64 k, .int .i64 z, .int .i64 p, .int .i64 l, .int .i64 e, .bool b, .int .i64 v, .int .i64 r], .int .i64 T] w fun e' w' => ∃ v', e' = .returned v' ∧ OwnWn w' w.heap.size v' (slideGo z p T 61 0) ∧ Below w.heap.size w w' := by
  subst hk
  obtain ⟨i0, hi, hz0, hz1, hz2⟩ := info_parts Tryz.infoWin
  go_enter Tryz.func27, Tryz.ntmps27
  go_wp2
  go_loopw [5, 6] (fun v' s' wr => ∃ (st : Int) (n : Nat) (ys : List WnR), s' = .int .i64 st ∧ 0 ≤ st ∧ st ≤ 80 ∧ T + 1 ≤ st + n ∧ n + ys.length ≤ 61 ∧ Hid (slideGo z p T 61 0 = ys ++ slideGo z p T n st) ∧ OwnWn wr (w.heap.size + 1) v' ys ∧ Below (w.heap.size + 1) (w.alloc (.cells #[.int .i64 s, .int .i64 t, .int .i64 2, .int .i64 z, .int .i64 p, .int .i64 l, .int .i64 e, .bool b, .int .i64 v, .int .i64 r] 28)) wr) (fun _ s' _ => (T + 1 - intOf s').toNat)
  case atStart => exact ⟨0, 61, [], rfl, by omega, by omega, by omega, by simp, hide rfl, own_lit0 (W := (w.alloc (.cells #[.int .i64 s, .int .i64 t, .int .i64 2, .int .i64 z, .int .i64 p, .int .i64 l, .int .i64 e, .bool b, .int .i64 v, .int .i64 r] 28))) (B := w.heap.size + 1) (by simp) (by simp), (Below.refl (w.heap.size + 1) (w.alloc (.cells #[.int .i64 s, .int .i64 t, .int .i64 2, .int .i64 z, .int .i64 p, .int .i64 l, .int .i64 e, .bool b, .int .i64 v, .int .i64 r] 28))).alloc (by simp) _⟩
  case round =>
    obtain ⟨st, n, ys, rfl, hs0, hs1, hsn, hyn, HQ, hO, hbw⟩ := hrel
    have hws : w.heap.size + 1 ≤ wr.heap.size := by have := hbw.size; simpa using this
    have hgs : w.heap.size < wr.heap.size := by omega
    have c0 : wr.cell? ⟨w.heap.size, 0, none⟩ = some (.int .i64 s) := (hbw.cell (p := ⟨w.heap.size, 0, none⟩) (by simp)).trans (by simp [go_sem])
    have c1 : wr.cell? ⟨w.heap.size, 1, none⟩ = some (.int .i64 t) := (hbw.cell (p := ⟨w.heap.size, 1, none⟩) (by simp)).trans (by simp [go_sem])
    have c2 : wr.cell? ⟨w.heap.size, 2, none⟩ = some (.int .i64 2) := (hbw.cell (p := ⟨w.heap.size, 2, none⟩) (by simp)).trans (by simp [go_sem])
    have c3 : wr.cell? ⟨w.heap.size, 3, none⟩ = some (.int .i64 z) := (hbw.cell (p := ⟨w.heap.size, 3, none⟩) (by simp)).trans (by simp [go_sem])
    have c4 : wr.cell? ⟨w.heap.size, 4, none⟩ = some (.int .i64 p) := (hbw.cell (p := ⟨w.heap.size, 4, none⟩) (by simp)).trans (by simp [go_sem])
    have c5 : wr.cell? ⟨w.heap.size, 5, none⟩ = some (.int .i64 l) := (hbw.cell (p := ⟨w.heap.size, 5, none⟩) (by simp)).trans (by simp [go_sem])
    have c6 : wr.cell? ⟨w.heap.size, 6, none⟩ = some (.int .i64 e) := (hbw.cell (p := ⟨w.heap.size, 6, none⟩) (by simp)).trans (by simp [go_sem])
    have c7 : wr.cell? ⟨w.heap.size, 7, none⟩ = some (.bool b) := (hbw.cell (p := ⟨w.heap.size, 7, none⟩) (by simp)).trans (by simp [go_sem])
    have c8 : wr.cell? ⟨w.heap.size, 8, none⟩ = some (.int .i64 v) := (hbw.cell (p := ⟨w.heap.size, 8, none⟩) (by simp)).trans (by simp [go_sem])
    have c9 : wr.cell? ⟨w.heap.size, 9, none⟩ = some (.int .i64 r) := (hbw.cell (p := ⟨w.heap.size, 9, none⟩) (by simp)).trans (by simp [go_sem])
    have HO := hide hO
    have hge := hide (ownWn_ge hO)
    clear hO
    by_cases h1 : st ≤ T
    · obtain ⟨n, rfl⟩ : ∃ m, n = m + 1 := ⟨n - 1, by omega⟩
      by_cases h2 : T < st + z
      · have HQ2 := hide (snocW _ _ _ _ ((unhide HQ).trans (by rw [slideGo_in h1 h2])))
        clear HQ
        go_wp2_with (first
          | (at_builtin; go_loud (refine wpList_append_own _ rfl _ _ 64 rfl (w.heap.size + 1) 42 i0 _ 2 16 Tryz.underlying64 hi hz0 hz1 hz2 rfl (by decide) u5 _ _ rfl (World.ownsRow.alloc (unhide HO) _) ⟨wr.heap.size, 0, none⟩ 1 1 [.int .i64 st, .int .i64 (st + z)] rfl rfl (cells_newWn wr st (st + z) _) (by simp [Value.oneCell']) (by unfold maxLen; omega) (by omega) (by have := hbw.size; simp at this ⊢; omega) ?_); intro v' w1 hown' hgrow _; go_loud (have hb1 := (hbw.alloc hws _).grown hgrow (by simp; omega) (unhide hge)); go_loud (have d4 : w1.cell? ⟨w.heap.size, 4, none⟩ = some (.int .i64 p) := (hb1.cell (p := ⟨w.heap.size, 4, none⟩) (by simp)).trans (by simp [go_sem]))))
        go_roundw
        case rel => exact ⟨st + p, n, ys ++ [⟨st, st + z⟩], rfl, by omega, by omega, by omega, by simp; omega, HQ2, ownWn_snoc (x := ⟨st, st + z⟩) hown', hb1⟩
        case measure => simp [intOf]; omega
      · have HQ2 := hide ((unhide HQ).trans (by rw [slideGo_out h1 h2]))
        clear HQ
        go_wp2
        go_roundw
        case rel => exact ⟨st + p, n, ys, rfl, by omega, by omega, by omega, by omega, HQ2, unhide HO, hbw⟩
        case measure => simp [intOf]; omega
    · have HQ2 : Hid (slideGo z p T 61 0 = ys) := hide ((unhide HQ).trans (by rw [slideGo_end h1]; simp))
      clear HQ
      go_wp2
      go_ret
      refine ⟨_, rfl, ?_, ?_⟩
      · rw [unhide HQ2]; exact World.ownsRow.mono (unhide HO) (by omega)
      · exact bel_trans (bel_one _ _) (by simpa using hbw)
end Go.Proofs.YtikidpcgnmffcaaGreat
