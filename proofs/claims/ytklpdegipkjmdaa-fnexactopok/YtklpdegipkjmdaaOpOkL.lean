/- Proved here: the law on OpOk returns true at every argument. -/
import Derived.Test.YtklpdegipkjmdaaOpOkI
import Derived.Test.YtklpdegipkjmdaaOpOkS
import Derived.Deep.DeepCutAuto
namespace Go.Proofs.Ytklpdegipkjmdaa
open Go.ChangeShapes Go.WideShapes Go.ChangeAt Go.RowKit
set_option linter.unusedVariables false

theorem specopok_eq (s t k z p l e : Int) (b : Bool) (v r : Int) (m : Int) (a : Option Addr) (len cap : Nat) (xs : List OrR) (w : World) {ob : Bool} (h : OrRs w a len xs) (hV : Hid (okOp s t k z p l e v r m xs = ob)) : Calls Try.prog 7 #[.agg #[.int .i64 s, .int .i64 t, .int .i64 k, .int .i64 z, .int .i64 p, .int .i64 l, .int .i64 e, .bool b, .int .i64 v, .int .i64 r], .agg #[.int .i64 m, .slice a len cap]] w fun e' w' => e' = .returned (.bool ob) ∧ Below w.heap.size w w' := by
  rw [← unhide hV]; exact specopok_any s t k z p l e b v r m a len cap xs w h
theorem implopok_eq (s t k z p l e : Int) (b : Bool) (v r : Int) (m : Int) (a : Option Addr) (len cap : Nat) (xs : List OrR) (w : World) {ob : Bool} (h : OrRs w a len xs) (hV : Hid (okOp s t k z p l e v r m xs = ob)) : Calls Try.prog 10 #[.agg #[.int .i64 s, .int .i64 t, .int .i64 k, .int .i64 z, .int .i64 p, .int .i64 l, .int .i64 e, .bool b, .int .i64 v, .int .i64 r], .agg #[.int .i64 m, .slice a len cap]] w fun e' w' => e' = .returned (.bool ob) ∧ Below w.heap.size w w' := by
  rw [← unhide hV]; exact implopok_any s t k z p l e b v r m a len cap xs w h

set_option maxRecDepth 20000 in
set_option maxHeartbeats 8000000 in
theorem lawOpOk (s t k z p l e : Int) (b : Bool) (v r : Int) (m : Int) (a0 : Option Addr) (len0 cap0 : Nat) (z0 : List OrR) (w : World) (w0 : OrRs w a0 len0 z0) : Calls Try.prog 3 #[.agg #[.int .i64 s, .int .i64 t, .int .i64 k, .int .i64 z, .int .i64 p, .int .i64 l, .int .i64 e, .bool b, .int .i64 v, .int .i64 r], .agg #[.int .i64 m, .slice a0 len0 cap0]] w fun e' w' => e' = .returned (.bool true) ∧ Below w.heap.size w w' := by
  have hm := w0.2.1
  by_cases hl : (len0 : Int) ≤ 1048576
  · have hl0 : len0 ≤ 1048576 := by omega
    have hbb : Below w.heap.size w (((w.alloc (.cells #[.int .i64 s, .int .i64 t, .int .i64 k, .int .i64 z, .int .i64 p, .int .i64 l, .int .i64 e, .bool b, .int .i64 v, .int .i64 r] 23)).alloc (.cells #[.int .i64 m, .slice a0 len0 cap0] 26)).alloc (.cells #[.int .i64 m, .slice a0 len0 cap0] 26)) := (by repeat (first | (with_reducible exact Below.refl _ _) | (with_reducible assumption) | (with_reducible refine bel_set ?_ (by first | (simp; done) | (simp; omega)) _) | (with_reducible refine bel_alloc ?_ _) | (with_reducible refine bel_drew ?_) | (with_reducible refine bel_drewN ?_ _) | (with_reducible refine bel_trans ?_ (by with_reducible assumption))))
    have H0 := w0.below hbb
    have hB0 : Below (((w.alloc (.cells #[.int .i64 s, .int .i64 t, .int .i64 k, .int .i64 z, .int .i64 p, .int .i64 l, .int .i64 e, .bool b, .int .i64 v, .int .i64 r] 23)).alloc (.cells #[.int .i64 m, .slice a0 len0 cap0] 26)).alloc (.cells #[.int .i64 m, .slice a0 len0 cap0] 26)).heap.size (((w.alloc (.cells #[.int .i64 s, .int .i64 t, .int .i64 k, .int .i64 z, .int .i64 p, .int .i64 l, .int .i64 e, .bool b, .int .i64 v, .int .i64 r] 23)).alloc (.cells #[.int .i64 m, .slice a0 len0 cap0] 26)).alloc (.cells #[.int .i64 m, .slice a0 len0 cap0] 26)) (((w.alloc (.cells #[.int .i64 s, .int .i64 t, .int .i64 k, .int .i64 z, .int .i64 p, .int .i64 l, .int .i64 e, .bool b, .int .i64 v, .int .i64 r] 23)).alloc (.cells #[.int .i64 m, .slice a0 len0 cap0] 26)).alloc (.cells #[.int .i64 m, .slice a0 len0 cap0] 26)) := Below.refl _ _
    obtain ⟨ob, hV0⟩ : ∃ ob, okOp s t k z p l e v r m z0 = ob := ⟨_, rfl⟩
    have hV := hide hV0
    clear hV0
    go_enter Try.func3, Try.ntmps3
    go_wp2_with fail
    refine (szSt_small m a0 len0 cap0 _ hm hl).mono ?_
    rintro e' wx ⟨rfl, hw⟩
    obtain rfl := hw.symm
    clear hw
    go_wp2_with fail
    go_cut [6] (fun pv W => pv = .bool ob ∧ Below (((w.alloc (.cells #[.int .i64 s, .int .i64 t, .int .i64 k, .int .i64 z, .int .i64 p, .int .i64 l, .int .i64 e, .bool b, .int .i64 v, .int .i64 r] 23)).alloc (.cells #[.int .i64 m, .slice a0 len0 cap0] 26)).alloc (.cells #[.int .i64 m, .slice a0 len0 cap0] 26)).heap.size (((w.alloc (.cells #[.int .i64 s, .int .i64 t, .int .i64 k, .int .i64 z, .int .i64 p, .int .i64 l, .int .i64 e, .bool b, .int .i64 v, .int .i64 r] 23)).alloc (.cells #[.int .i64 m, .slice a0 len0 cap0] 26)).alloc (.cells #[.int .i64 m, .slice a0 len0 cap0] 26)) W)
    case first =>
      go_region_with (first
        | (go_at_call 8; refine (toJob_any _ _ _ _ _ _ _ _ _ _ _).mono ?_; rintro e' w1x ⟨rfl, hq1⟩; obtain ⟨hc1, hf1, hs1⟩ := bcell hq1; (try have hz10 : w.heap.size < w1x.heap.size := (by have h9 := hq1.size; (try simp at h9); omega)); (try have hz11 : w.heap.size + 1 < w1x.heap.size := (by have h9 := hq1.size; (try simp at h9); omega)); (try have hz12 : w.heap.size + 1 + 1 < w1x.heap.size := (by have h9 := hq1.size; (try simp at h9); omega)); (try have hk1_0_0 : w1x.cell? ⟨w.heap.size + 1, 0, none⟩ = some (.int .i64 m) := ((hc1 _ _ (by first | assumption | (simp; done) | (simp; omega) | omega)).trans (by first | assumption | (simp (maxDischargeDepth := 9) [go_sem, *]; done)))); (try have hk1_0_1 : w1x.cell? ⟨w.heap.size + 1, 1, none⟩ = some (.slice a0 len0 cap0) := ((hc1 _ _ (by first | assumption | (simp; done) | (simp; omega) | omega)).trans (by first | assumption | (simp (maxDischargeDepth := 9) [go_sem, *]; done)))))
        | (go_at_call 9; refine (toSt_any _ _ len0 _ z0 _ (H0.below (by repeat (first | (with_reducible exact Below.refl _ _) | (with_reducible assumption) | (with_reducible refine bel_set ?_ (by first | (simp; done) | (simp; omega)) _) | (with_reducible refine bel_alloc ?_ _) | (with_reducible refine bel_drew ?_) | (with_reducible refine bel_drewN ?_ _) | (with_reducible refine bel_trans ?_ (by with_reducible assumption))))) hl0).mono ?_; rintro e' w2x ⟨b1, rfl, H1, R1, ge1, hq2⟩)
        | (go_at_call 7; refine (specopok_eq _ _ _ _ _ _ _ _ _ _ _ _ _ _ z0 _ (H1.below (by repeat (first | (with_reducible exact Below.refl _ _) | (with_reducible assumption) | (with_reducible refine bel_set ?_ (by first | (simp; done) | (simp; omega)) _) | (with_reducible refine bel_alloc ?_ _) | (with_reducible refine bel_drew ?_) | (with_reducible refine bel_drewN ?_ _) | (with_reducible refine bel_trans ?_ (by with_reducible assumption))))) hV).mono ?_; rintro e' w3x ⟨rfl, hq3⟩))
      all_goals
        go_wp2
        go_meet
        exact ⟨rfl, (by repeat (first | (with_reducible exact Below.refl _ _) | (with_reducible assumption) | (with_reducible refine bel_set ?_ (by first | (simp; done) | (simp; omega)) _) | (with_reducible refine bel_alloc ?_ _) | (with_reducible refine bel_drew ?_) | (with_reducible refine bel_drewN ?_ _) | (with_reducible refine bel_trans ?_ (by with_reducible assumption))))⟩
    case rest =>
      rename World => w1c
      obtain ⟨rfl, hB1⟩ := hcut
      replace H0 := H0.below hB1
      have hz1 := hB1.size
      have c0_0 : w1c.cell? ⟨w.heap.size, 0, none⟩ = some (.int .i64 s) := (hB1.cell (p := ⟨w.heap.size, 0, none⟩) (by simp <;> omega)).trans (by simp [go_sem])
      have c0_1 : w1c.cell? ⟨w.heap.size, 1, none⟩ = some (.int .i64 t) := (hB1.cell (p := ⟨w.heap.size, 1, none⟩) (by simp <;> omega)).trans (by simp [go_sem])
      have c0_2 : w1c.cell? ⟨w.heap.size, 2, none⟩ = some (.int .i64 k) := (hB1.cell (p := ⟨w.heap.size, 2, none⟩) (by simp <;> omega)).trans (by simp [go_sem])
      have c0_3 : w1c.cell? ⟨w.heap.size, 3, none⟩ = some (.int .i64 z) := (hB1.cell (p := ⟨w.heap.size, 3, none⟩) (by simp <;> omega)).trans (by simp [go_sem])
      have c0_4 : w1c.cell? ⟨w.heap.size, 4, none⟩ = some (.int .i64 p) := (hB1.cell (p := ⟨w.heap.size, 4, none⟩) (by simp <;> omega)).trans (by simp [go_sem])
      have c0_5 : w1c.cell? ⟨w.heap.size, 5, none⟩ = some (.int .i64 l) := (hB1.cell (p := ⟨w.heap.size, 5, none⟩) (by simp <;> omega)).trans (by simp [go_sem])
      have c0_6 : w1c.cell? ⟨w.heap.size, 6, none⟩ = some (.int .i64 e) := (hB1.cell (p := ⟨w.heap.size, 6, none⟩) (by simp <;> omega)).trans (by simp [go_sem])
      have c0_7 : w1c.cell? ⟨w.heap.size, 7, none⟩ = some (.bool b) := (hB1.cell (p := ⟨w.heap.size, 7, none⟩) (by simp <;> omega)).trans (by simp [go_sem])
      have c0_8 : w1c.cell? ⟨w.heap.size, 8, none⟩ = some (.int .i64 v) := (hB1.cell (p := ⟨w.heap.size, 8, none⟩) (by simp <;> omega)).trans (by simp [go_sem])
      have c0_9 : w1c.cell? ⟨w.heap.size, 9, none⟩ = some (.int .i64 r) := (hB1.cell (p := ⟨w.heap.size, 9, none⟩) (by simp <;> omega)).trans (by simp [go_sem])
      have c1_0 : w1c.cell? ⟨w.heap.size + 1, 0, none⟩ = some (.int .i64 m) := (hB1.cell (p := ⟨w.heap.size + 1, 0, none⟩) (by simp <;> omega)).trans (by simp [go_sem])
      have c1_1 : w1c.cell? ⟨w.heap.size + 1, 1, none⟩ = some (.slice a0 len0 cap0) := (hB1.cell (p := ⟨w.heap.size + 1, 1, none⟩) (by simp <;> omega)).trans (by simp [go_sem])
      have c2_0 : w1c.cell? ⟨w.heap.size + 1 + 1, 0, none⟩ = some (.int .i64 m) := (hB1.cell (p := ⟨w.heap.size + 1 + 1, 0, none⟩) (by simp <;> omega)).trans (by simp [go_sem])
      have c2_1 : w1c.cell? ⟨w.heap.size + 1 + 1, 1, none⟩ = some (.slice a0 len0 cap0) := (hB1.cell (p := ⟨w.heap.size + 1 + 1, 1, none⟩) (by simp <;> omega)).trans (by simp [go_sem])
      go_wp2_with fail
      clear c0_0 c0_1 c0_2 c0_3 c0_4 c0_5 c0_6 c0_7 c0_8 c0_9 c1_0 c1_1 c2_0 c2_1
      refine (toSt_any _ _ len0 _ z0 _ H0 hl0).mono ?_
      rintro e w2x ⟨b1, rfl, H1, R1, ge1, hb⟩
      have hb2 : Below w1c.heap.size w1c w2x := (by repeat (first | (with_reducible refine bel_set ?_ (by first | (simp; done) | (simp; omega)) _) | (with_reducible refine bel_alloc ?_ _) | (with_reducible exact Below.refl _ _) | (with_reducible assumption) | (with_reducible refine bel_drew ?_) | (with_reducible refine bel_drewN ?_ _) | (with_reducible refine bel_trans ?_ (by with_reducible assumption))))
      clear hb
      have hB2 : Below (((w.alloc (.cells #[.int .i64 s, .int .i64 t, .int .i64 k, .int .i64 z, .int .i64 p, .int .i64 l, .int .i64 e, .bool b, .int .i64 v, .int .i64 r] 23)).alloc (.cells #[.int .i64 m, .slice a0 len0 cap0] 26)).alloc (.cells #[.int .i64 m, .slice a0 len0 cap0] 26)).heap.size (((w.alloc (.cells #[.int .i64 s, .int .i64 t, .int .i64 k, .int .i64 z, .int .i64 p, .int .i64 l, .int .i64 e, .bool b, .int .i64 v, .int .i64 r] 23)).alloc (.cells #[.int .i64 m, .slice a0 len0 cap0] 26)).alloc (.cells #[.int .i64 m, .slice a0 len0 cap0] 26)) w2x := bel_trans hB1 hb2
      have hz2 := hb2.size
      replace H0 := H0.below hb2
      replace ge1 : ∀ g o, 0 < len0 → b1 = some ⟨g, o, none⟩ → w1c.heap.size ≤ g := fun g o hp e9 => Nat.le_trans (by first | exact Nat.le_refl _ | (simp; done) | (simp; omega)) (ge1 g o hp e9)
      have lt1 : ∀ g o, 0 < len0 → b1 = some ⟨g, o, none⟩ → g < w2x.heap.size := fun g o hp ha => by subst ha; exact H1.lt hp
      have c0_0 : w2x.cell? ⟨w.heap.size, 0, none⟩ = some (.int .i64 s) := (hB2.cell (p := ⟨w.heap.size, 0, none⟩) (by simp <;> omega)).trans (by simp [go_sem])
      have c0_1 : w2x.cell? ⟨w.heap.size, 1, none⟩ = some (.int .i64 t) := (hB2.cell (p := ⟨w.heap.size, 1, none⟩) (by simp <;> omega)).trans (by simp [go_sem])
      have c0_2 : w2x.cell? ⟨w.heap.size, 2, none⟩ = some (.int .i64 k) := (hB2.cell (p := ⟨w.heap.size, 2, none⟩) (by simp <;> omega)).trans (by simp [go_sem])
      have c0_3 : w2x.cell? ⟨w.heap.size, 3, none⟩ = some (.int .i64 z) := (hB2.cell (p := ⟨w.heap.size, 3, none⟩) (by simp <;> omega)).trans (by simp [go_sem])
      have c0_4 : w2x.cell? ⟨w.heap.size, 4, none⟩ = some (.int .i64 p) := (hB2.cell (p := ⟨w.heap.size, 4, none⟩) (by simp <;> omega)).trans (by simp [go_sem])
      have c0_5 : w2x.cell? ⟨w.heap.size, 5, none⟩ = some (.int .i64 l) := (hB2.cell (p := ⟨w.heap.size, 5, none⟩) (by simp <;> omega)).trans (by simp [go_sem])
      have c0_6 : w2x.cell? ⟨w.heap.size, 6, none⟩ = some (.int .i64 e) := (hB2.cell (p := ⟨w.heap.size, 6, none⟩) (by simp <;> omega)).trans (by simp [go_sem])
      have c0_7 : w2x.cell? ⟨w.heap.size, 7, none⟩ = some (.bool b) := (hB2.cell (p := ⟨w.heap.size, 7, none⟩) (by simp <;> omega)).trans (by simp [go_sem])
      have c0_8 : w2x.cell? ⟨w.heap.size, 8, none⟩ = some (.int .i64 v) := (hB2.cell (p := ⟨w.heap.size, 8, none⟩) (by simp <;> omega)).trans (by simp [go_sem])
      have c0_9 : w2x.cell? ⟨w.heap.size, 9, none⟩ = some (.int .i64 r) := (hB2.cell (p := ⟨w.heap.size, 9, none⟩) (by simp <;> omega)).trans (by simp [go_sem])
      have c1_0 : w2x.cell? ⟨w.heap.size + 1, 0, none⟩ = some (.int .i64 m) := (hB2.cell (p := ⟨w.heap.size + 1, 0, none⟩) (by simp <;> omega)).trans (by simp [go_sem])
      have c1_1 : w2x.cell? ⟨w.heap.size + 1, 1, none⟩ = some (.slice a0 len0 cap0) := (hB2.cell (p := ⟨w.heap.size + 1, 1, none⟩) (by simp <;> omega)).trans (by simp [go_sem])
      have c2_0 : w2x.cell? ⟨w.heap.size + 1 + 1, 0, none⟩ = some (.int .i64 m) := (hB2.cell (p := ⟨w.heap.size + 1 + 1, 0, none⟩) (by simp <;> omega)).trans (by simp [go_sem])
      have c2_1 : w2x.cell? ⟨w.heap.size + 1 + 1, 1, none⟩ = some (.slice a0 len0 cap0) := (hB2.cell (p := ⟨w.heap.size + 1 + 1, 1, none⟩) (by simp <;> omega)).trans (by simp [go_sem])
      have hx1 : w.heap.size + 1 < w2x.heap.size := by have h9 := hB2.size; simp at h9; omega
      have hx0 : w.heap.size < w2x.heap.size := by omega
      go_wp2_with fail
      go_cut [8] (fun pv W => pv = .bool ob ∧ Below (w2x.alloc (.cells #[.int .i64 m, .slice b1 len0 len0] 33)).heap.size (w2x.alloc (.cells #[.int .i64 m, .slice b1 len0 len0] 33)) W)
      case first =>
        go_region_with (first
          | (go_at_call 8; refine (toJob_any _ _ _ _ _ _ _ _ _ _ _).mono ?_; rintro e' w3x ⟨rfl, hq3⟩; obtain ⟨hc3, hf3, hs3⟩ := bcell hq3; (try have hz30 : w2x.heap.size < w3x.heap.size := (by have h9 := hq3.size; (try simp at h9); omega)); (try have hk3_0_0 : w3x.cell? ⟨w2x.heap.size, 0, none⟩ = some (.int .i64 m) := ((hc3 _ _ (by first | assumption | (simp; done) | (simp; omega) | omega)).trans (by first | assumption | (simp (maxDischargeDepth := 9) [go_sem, *]; done)))); (try have hk3_0_1 : w3x.cell? ⟨w2x.heap.size, 1, none⟩ = some (.slice b1 len0 len0) := ((hc3 _ _ (by first | assumption | (simp; done) | (simp; omega) | omega)).trans (by first | assumption | (simp (maxDischargeDepth := 9) [go_sem, *]; done)))))
          | (go_at_call 10; refine (implopok_eq _ _ _ _ _ _ _ _ _ _ _ _ _ _ z0 _ (H1.below (by repeat (first | (with_reducible exact Below.refl _ _) | (with_reducible assumption) | (with_reducible refine bel_set ?_ (by first | (simp; done) | (simp; omega)) _) | (with_reducible refine bel_alloc ?_ _) | (with_reducible refine bel_drew ?_) | (with_reducible refine bel_drewN ?_ _) | (with_reducible refine bel_trans ?_ (by with_reducible assumption))))) hV).mono ?_; rintro e' w4x ⟨rfl, hq4⟩))
        all_goals
          go_wp2
          go_meet
          exact ⟨rfl, (by repeat (first | (with_reducible exact Below.refl _ _) | (with_reducible assumption) | (with_reducible refine bel_set ?_ (by first | (simp; done) | (simp; omega)) _) | (with_reducible refine bel_alloc ?_ _) | (with_reducible refine bel_drew ?_) | (with_reducible refine bel_drewN ?_ _) | (with_reducible refine bel_trans ?_ (by with_reducible assumption))))⟩
      case rest =>
        rename World => wd
        obtain ⟨rfl, hD⟩ := hcut
        clear c0_0 c0_1 c0_2 c0_3 c0_4 c0_5 c0_6 c0_7 c0_8 c0_9 c1_0 c1_1 c2_0 c2_1
        have hb3 : Below w2x.heap.size w2x wd := bel_trans (bel_one _ _) hD
        have hB3 : Below (((w.alloc (.cells #[.int .i64 s, .int .i64 t, .int .i64 k, .int .i64 z, .int .i64 p, .int .i64 l, .int .i64 e, .bool b, .int .i64 v, .int .i64 r] 23)).alloc (.cells #[.int .i64 m, .slice a0 len0 cap0] 26)).alloc (.cells #[.int .i64 m, .slice a0 len0 cap0] 26)).heap.size (((w.alloc (.cells #[.int .i64 s, .int .i64 t, .int .i64 k, .int .i64 z, .int .i64 p, .int .i64 l, .int .i64 e, .bool b, .int .i64 v, .int .i64 r] 23)).alloc (.cells #[.int .i64 m, .slice a0 len0 cap0] 26)).alloc (.cells #[.int .i64 m, .slice a0 len0 cap0] 26)) wd := bel_trans hB2 hb3
        have y0 : wd.cell? ⟨w2x.heap.size, 0, none⟩ = some (.int .i64 m) := (hD.cell (p := ⟨w2x.heap.size, 0, none⟩) (by simp)).trans (by simp [go_sem])
        have y1 : wd.cell? ⟨w2x.heap.size, 1, none⟩ = some (.slice b1 len0 len0) := (hD.cell (p := ⟨w2x.heap.size, 1, none⟩) (by simp)).trans (by simp [go_sem])
        have hz3 := hb3.size
        have hxd : w2x.heap.size < wd.heap.size := by have h9 := hD.size; simp at h9; omega
        have hxe : w.heap.size + 1 < wd.heap.size := by omega
        replace H0 := H0.below hb3
        replace H1 := H1.below hb3
        have c0_0 : wd.cell? ⟨w.heap.size, 0, none⟩ = some (.int .i64 s) := (hB3.cell (p := ⟨w.heap.size, 0, none⟩) (by simp <;> omega)).trans (by simp [go_sem])
        have c0_1 : wd.cell? ⟨w.heap.size, 1, none⟩ = some (.int .i64 t) := (hB3.cell (p := ⟨w.heap.size, 1, none⟩) (by simp <;> omega)).trans (by simp [go_sem])
        have c0_2 : wd.cell? ⟨w.heap.size, 2, none⟩ = some (.int .i64 k) := (hB3.cell (p := ⟨w.heap.size, 2, none⟩) (by simp <;> omega)).trans (by simp [go_sem])
        have c0_3 : wd.cell? ⟨w.heap.size, 3, none⟩ = some (.int .i64 z) := (hB3.cell (p := ⟨w.heap.size, 3, none⟩) (by simp <;> omega)).trans (by simp [go_sem])
        have c0_4 : wd.cell? ⟨w.heap.size, 4, none⟩ = some (.int .i64 p) := (hB3.cell (p := ⟨w.heap.size, 4, none⟩) (by simp <;> omega)).trans (by simp [go_sem])
        have c0_5 : wd.cell? ⟨w.heap.size, 5, none⟩ = some (.int .i64 l) := (hB3.cell (p := ⟨w.heap.size, 5, none⟩) (by simp <;> omega)).trans (by simp [go_sem])
        have c0_6 : wd.cell? ⟨w.heap.size, 6, none⟩ = some (.int .i64 e) := (hB3.cell (p := ⟨w.heap.size, 6, none⟩) (by simp <;> omega)).trans (by simp [go_sem])
        have c0_7 : wd.cell? ⟨w.heap.size, 7, none⟩ = some (.bool b) := (hB3.cell (p := ⟨w.heap.size, 7, none⟩) (by simp <;> omega)).trans (by simp [go_sem])
        have c0_8 : wd.cell? ⟨w.heap.size, 8, none⟩ = some (.int .i64 v) := (hB3.cell (p := ⟨w.heap.size, 8, none⟩) (by simp <;> omega)).trans (by simp [go_sem])
        have c0_9 : wd.cell? ⟨w.heap.size, 9, none⟩ = some (.int .i64 r) := (hB3.cell (p := ⟨w.heap.size, 9, none⟩) (by simp <;> omega)).trans (by simp [go_sem])
        have c1_0 : wd.cell? ⟨w.heap.size + 1, 0, none⟩ = some (.int .i64 m) := (hB3.cell (p := ⟨w.heap.size + 1, 0, none⟩) (by simp <;> omega)).trans (by simp [go_sem])
        have c1_1 : wd.cell? ⟨w.heap.size + 1, 1, none⟩ = some (.slice a0 len0 cap0) := (hB3.cell (p := ⟨w.heap.size + 1, 1, none⟩) (by simp <;> omega)).trans (by simp [go_sem])
        have c2_0 : wd.cell? ⟨w.heap.size + 1 + 1, 0, none⟩ = some (.int .i64 m) := (hB3.cell (p := ⟨w.heap.size + 1 + 1, 0, none⟩) (by simp <;> omega)).trans (by simp [go_sem])
        have c2_1 : wd.cell? ⟨w.heap.size + 1 + 1, 1, none⟩ = some (.slice a0 len0 cap0) := (hB3.cell (p := ⟨w.heap.size + 1 + 1, 1, none⟩) (by simp <;> omega)).trans (by simp [go_sem])
        go_wp2_with fail
        go_region_with (first
          | (go_at_call 9; refine (toSt_any _ _ len0 _ z0 _ (H0.below (by repeat (first | (with_reducible exact Below.refl _ _) | (with_reducible assumption) | (with_reducible refine bel_set ?_ (by first | (simp; done) | (simp; omega)) _) | (with_reducible refine bel_alloc ?_ _) | (with_reducible refine bel_drew ?_) | (with_reducible refine bel_drewN ?_ _) | (with_reducible refine bel_trans ?_ (by with_reducible assumption))))) hl0).mono ?_; rintro e' w5x ⟨b2, rfl, H2, R2, ge2, hq5⟩; obtain ⟨hc5, hf5, hs5⟩ := bcell hq5; (try have hz50 : w2x.heap.size < w5x.heap.size := (by have h9 := hq5.size; (try simp at h9); omega)); (try have hk5_0_0 : w5x.cell? ⟨w2x.heap.size, 0, none⟩ = some (.int .i64 m) := ((hc5 _ _ (by first | assumption | (simp; done) | (simp; omega) | omega)).trans (by first | assumption | (simp (maxDischargeDepth := 9) [go_sem, *]; done)))); (try have hk5_0_1 : w5x.cell? ⟨w2x.heap.size, 1, none⟩ = some (.slice b1 len0 len0) := ((hc5 _ _ (by first | assumption | (simp; done) | (simp; omega) | omega)).trans (by first | assumption | (simp (maxDischargeDepth := 9) [go_sem, *]; done)))))
          | (go_at_call 11; refine (eqSt_any _ _ _ len0 _ _ z0 _ (H1.below (by repeat (first | (with_reducible exact Below.refl _ _) | (with_reducible assumption) | (with_reducible refine bel_set ?_ (by first | (simp; done) | (simp; omega)) _) | (with_reducible refine bel_alloc ?_ _) | (with_reducible refine bel_drew ?_) | (with_reducible refine bel_drewN ?_ _) | (with_reducible refine bel_trans ?_ (by with_reducible assumption))))) (H2.below (by repeat (first | (with_reducible exact Below.refl _ _) | (with_reducible assumption) | (with_reducible refine bel_set ?_ (by first | (simp; done) | (simp; omega)) _) | (with_reducible refine bel_alloc ?_ _) | (with_reducible refine bel_drew ?_) | (with_reducible refine bel_drewN ?_ _) | (with_reducible refine bel_trans ?_ (by with_reducible assumption)))))).mono ?_; rintro e' w6x ⟨rfl, hq6⟩))
        all_goals
          go_wp2
          go_ret
          exact ⟨rfl, (by repeat (first | (with_reducible exact Below.refl _ _) | (with_reducible assumption) | (with_reducible refine bel_set ?_ (by first | (simp; done) | (simp; omega)) _) | (with_reducible refine bel_alloc ?_ _) | (with_reducible refine bel_drew ?_) | (with_reducible refine bel_drewN ?_ _) | (with_reducible refine bel_trans ?_ (by with_reducible assumption))))⟩
  · go_enter Try.func3, Try.ntmps3
    go_wp2_with fail
    refine (szSt_big m a0 len0 cap0 _ hm (by omega)).mono ?_
    rintro e' wx ⟨rfl, hw⟩
    obtain rfl := hw.symm
    go_wp2_with fail
    go_ret
    exact ⟨rfl, (by repeat (first | (with_reducible exact Below.refl _ _) | (with_reducible assumption) | (with_reducible refine bel_set ?_ (by first | (simp; done) | (simp; omega)) _) | (with_reducible refine bel_alloc ?_ _) | (with_reducible refine bel_drew ?_) | (with_reducible refine bel_drewN ?_ _) | (with_reducible refine bel_trans ?_ (by with_reducible assumption))))⟩
end Go.Proofs.Ytklpdegipkjmdaa
