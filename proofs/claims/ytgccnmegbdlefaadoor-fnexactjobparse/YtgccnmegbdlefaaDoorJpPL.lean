/- Proved here: the law on JobParse returns true at every argument. -/
import Derived.Test.YtgccnmegbdlefaaDoorJpQ
import Derived.Test.YtgccnmegbdlefaaDoorJpP3
namespace Go.Proofs.YtgccnmegbdlefaaDoor
open Go.ChangeShapes Go.WideShapes Go.ChangeAt Go.RowKit
set_option linter.unusedVariables false
set_option linter.unusedSimpArgs false

theorem eqJob_any (s t k z p l e : Int) (b : Bool) (v r : Int) (w : World) : Calls Tryd.prog 20 #[.agg #[.int .i64 s, .int .i64 t, .int .i64 k, .int .i64 z, .int .i64 p, .int .i64 l, .int .i64 e, .bool b, .int .i64 v, .int .i64 r], .agg #[.int .i64 s, .int .i64 t, .int .i64 k, .int .i64 z, .int .i64 p, .int .i64 l, .int .i64 e, .bool b, .int .i64 v, .int .i64 r]] w fun e' w' => e' = .returned (.bool true) ∧ Below w.heap.size w w' := by
  go_enter Tryd.func20, Tryd.ntmps20
  go_wp2
  go_ret
  exact ⟨rfl, (by repeat (first | (with_reducible refine bel_set ?_ (by first | (simp; done) | (simp; omega)) _) | (with_reducible refine bel_alloc ?_ _) | (with_reducible exact Below.refl _ _) | (with_reducible assumption) | (with_reducible refine bel_drew ?_) | (with_reducible refine bel_drewN ?_ _) | (with_reducible refine bel_trans ?_ (by with_reducible assumption))))⟩
set_option maxRecDepth 20000 in
set_option maxHeartbeats 4000000 in
theorem lawJobParse {tp1 tp2 : TypeId} {p1 p2 : Value} (a0 : Option Addr) (len0 cap0 : Nat) (L : List ByteArray) (w : World) (w0 : StRs w a0 len0 (stL L)) (hs : ∀ x ∈ L, x.size ≤ maxLen) (hE : EnvJ tp1 tp2 p1 p2 w) : Calls Tryd.prog 5 #[.slice a0 len0 cap0] w fun e' w' => e' = .returned (.bool true) ∧ Below w.heap.size w w' := by
  have hLl : L.length = len0 := by have := w0.1; rw [stL_len] at this; exact this
  go_enter Tryd.func5, Tryd.ntmps5
  go_wp2_with fail
  refine (szSt_any a0 len0 cap0 L _ w0 hs).mono ?_
  rintro e wx ⟨lf, rfl, hw, hcase⟩
  obtain rfl := hw.symm
  clear hw
  rcases hcase with hneg | ⟨hpos, hlen, hsz⟩
  · go_wp2_with fail
    go_ret
    exact ⟨rfl, Below.refl _ _⟩
  · have hl : len0 ≤ 1048576 := by omega
    have HS := hide hsz
    clear hs hsz
    go_wp2_with fail
    refine (toSt_any _ len0 _ (stL L) _ w0 hl).mono ?_
    rintro e1 w1 ⟨b1, rfl, H1, R1, ge1, hb1⟩
    clear R1 ge1
    go_wp2_with fail
    refine (specjobparse_any _ _ _ L _ H1 (unhide HS) hl).mono ?_
    rintro e2 w2 ⟨s, t, k, z, p, l, e', b, v, r, c, rfl, hJ1, hb2⟩
    have HJ1 := hide hJ1
    have hB2 : Below w.heap.size w w2 := bel_trans hb1 hb2
    clear hJ1 H1 hb1 hb2
    go_wp2_with fail
    refine (toSt_any _ len0 _ (stL L) _ (w0.below (bel_alloc hB2 _)) hl).mono ?_
    rintro e3 w3 ⟨b3, rfl, H3, R3, ge3, hb3⟩
    clear R3 ge3
    have hq3 : Below (w2.alloc (.cells #[.int .i64 s, .int .i64 t, .int .i64 k, .int .i64 z, .int .i64 p, .int .i64 l, .int .i64 e', .bool b, .int .i64 v, .int .i64 r] 24)).heap.size (w2.alloc (.cells #[.int .i64 s, .int .i64 t, .int .i64 k, .int .i64 z, .int .i64 p, .int .i64 l, .int .i64 e', .bool b, .int .i64 v, .int .i64 r] 24)) w3 := hb3
    have hB3 : Below w.heap.size w w3 := bel_trans (bel_alloc hB2 _) hb3
    have z3 : w2.heap.size < w3.heap.size := by have h9 := hq3.size; simp at h9; omega
    clear hb3
    go_wp2_with fail
    refine (impljobparse_any _ _ _ L _ H3 (unhide HS) hl (hE.bel hB3)).mono ?_
    rintro e4 w4 ⟨s2, t2, k2, z2, p2', l2, e2', b2, v2, r2, c2, rfl, hJ2, hb4⟩
    obtain ⟨h1, h2, h3⟩ := (unhide HJ1).same hJ2
    simp only [List.cons.injEq, and_true] at h1
    obtain ⟨rfl, rfl, rfl, rfl, rfl, rfl, rfl, rfl, rfl⟩ := h1
    subst h2
    subst h3
    clear hJ2 HJ1
    have hq4 : Below w3.heap.size w3 w4 := hb4
    have hB4 : Below w.heap.size w w4 := bel_trans hB3 hq4
    have z4 : w2.heap.size < w4.heap.size := by have h9 := hq4.size; omega
    have z5 : ¬ w2.heap.size = w4.heap.size := by omega
    have z6 : w2.heap.size < w4.heap.size + 1 := by omega
    have H4 := H3.below hq4
    have a0 : w4.cell? ⟨w2.heap.size, 0, none⟩ = some (.int .i64 s) := (hq4.cell (p := ⟨w2.heap.size, 0, none⟩) z3).trans ((hq3.cell (p := ⟨w2.heap.size, 0, none⟩) (by simp)).trans (by simp [go_sem]))
    have a1 : w4.cell? ⟨w2.heap.size, 1, none⟩ = some (.int .i64 t) := (hq4.cell (p := ⟨w2.heap.size, 1, none⟩) z3).trans ((hq3.cell (p := ⟨w2.heap.size, 1, none⟩) (by simp)).trans (by simp [go_sem]))
    have a2 : w4.cell? ⟨w2.heap.size, 2, none⟩ = some (.int .i64 k) := (hq4.cell (p := ⟨w2.heap.size, 2, none⟩) z3).trans ((hq3.cell (p := ⟨w2.heap.size, 2, none⟩) (by simp)).trans (by simp [go_sem]))
    have a3 : w4.cell? ⟨w2.heap.size, 3, none⟩ = some (.int .i64 z) := (hq4.cell (p := ⟨w2.heap.size, 3, none⟩) z3).trans ((hq3.cell (p := ⟨w2.heap.size, 3, none⟩) (by simp)).trans (by simp [go_sem]))
    have a4 : w4.cell? ⟨w2.heap.size, 4, none⟩ = some (.int .i64 p) := (hq4.cell (p := ⟨w2.heap.size, 4, none⟩) z3).trans ((hq3.cell (p := ⟨w2.heap.size, 4, none⟩) (by simp)).trans (by simp [go_sem]))
    have a5 : w4.cell? ⟨w2.heap.size, 5, none⟩ = some (.int .i64 l) := (hq4.cell (p := ⟨w2.heap.size, 5, none⟩) z3).trans ((hq3.cell (p := ⟨w2.heap.size, 5, none⟩) (by simp)).trans (by simp [go_sem]))
    have a6 : w4.cell? ⟨w2.heap.size, 6, none⟩ = some (.int .i64 e') := (hq4.cell (p := ⟨w2.heap.size, 6, none⟩) z3).trans ((hq3.cell (p := ⟨w2.heap.size, 6, none⟩) (by simp)).trans (by simp [go_sem]))
    have a7 : w4.cell? ⟨w2.heap.size, 7, none⟩ = some (.bool b) := (hq4.cell (p := ⟨w2.heap.size, 7, none⟩) z3).trans ((hq3.cell (p := ⟨w2.heap.size, 7, none⟩) (by simp)).trans (by simp [go_sem]))
    have a8 : w4.cell? ⟨w2.heap.size, 8, none⟩ = some (.int .i64 v) := (hq4.cell (p := ⟨w2.heap.size, 8, none⟩) z3).trans ((hq3.cell (p := ⟨w2.heap.size, 8, none⟩) (by simp)).trans (by simp [go_sem]))
    have a9 : w4.cell? ⟨w2.heap.size, 9, none⟩ = some (.int .i64 r) := (hq4.cell (p := ⟨w2.heap.size, 9, none⟩) z3).trans ((hq3.cell (p := ⟨w2.heap.size, 9, none⟩) (by simp)).trans (by simp [go_sem]))
    clear hb4 H3 hq3
    go_wp2_with (go_at_call 20; refine (eqJob_any _ _ _ _ _ _ _ _ _ _ _).mono ?_; rintro e5 w5 ⟨rfl, hb5⟩)
    have hB5 : Below w.heap.size w w5 := bel_trans (bel_alloc hB4 _) hb5
    have H5 := (H4.below (bel_alloc (Below.refl _ _) _)).below hb5
    refine (toSt_any _ len0 _ (stL L) _ (w0.below hB5) hl).mono ?_
    rintro e6 w6 ⟨b6, rfl, H6, R6, ge6, hb6⟩
    have H7 := H5.below hb6
    have hB6 : Below w.heap.size w w6 := bel_trans hB5 hb6
    go_wp2_with fail
    refine (eqSt_any _ _ len0 _ _ (stL L) _ H7 H6).mono ?_
    rintro e7 w7 ⟨rfl, hb7⟩
    go_wp2_with fail
    go_ret
    exact ⟨rfl, bel_trans hB6 hb7⟩
end Go.Proofs.YtgccnmegbdlefaaDoor
