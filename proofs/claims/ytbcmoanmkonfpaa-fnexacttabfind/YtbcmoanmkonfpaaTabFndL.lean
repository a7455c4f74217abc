/- Proved here: the law on TabFind returns true at every argument. -/
import Derived.Test.YtbcmoanmkonfpaaTabFnd2
import Derived.Deep.DeepCutAuto
namespace Go.Proofs.Ytbcmoanmkonfpaa
open Go.ChangeShapes Go.WideShapes Go.ChangeAt Go.RowKit
set_option linter.unusedVariables false

theorem foundV_is (o : Option TbR) : ∃ n s l m b, foundV o = .tuple #[.agg #[.int .i64 n, .int .i64 s, .int .i64 l, .int .i64 m], .bool b] := by
  cases o with
  | none => exact ⟨_, _, _, _, _, rfl⟩
  | some x => exact ⟨_, _, _, _, _, rfl⟩
theorem specfind_eq (a : Option Addr) (len cap : Nat) (xs : List TbR) (ky st en : Int) (w : World) {n s l m : Int} {b : Bool} (h : TbRs w a len xs) (hV : Hid (foundV (findT ky st en xs) = .tuple #[.agg #[.int .i64 n, .int .i64 s, .int .i64 l, .int .i64 m], .bool b])) : Calls Try.prog 18 #[.slice a len cap, .int .i64 ky, .agg #[.int .i64 st, .int .i64 en]] w fun e w' => e = .returned (.tuple #[.agg #[.int .i64 n, .int .i64 s, .int .i64 l, .int .i64 m], .bool b]) ∧ Below w.heap.size w w' := by
  have := specfind_any a len cap xs ky st en w h
  rw [unhide hV] at this
  exact this
theorem implfind_eq (a : Option Addr) (len cap : Nat) (xs : List TbR) (ky st en : Int) (w : World) {n s l m : Int} {b : Bool} (h : TbRs w a len xs) (hV : Hid (foundV (findT ky st en xs) = .tuple #[.agg #[.int .i64 n, .int .i64 s, .int .i64 l, .int .i64 m], .bool b])) : Calls Try.prog 21 #[.slice a len cap, .int .i64 ky, .agg #[.int .i64 st, .int .i64 en]] w fun e w' => e = .returned (.tuple #[.agg #[.int .i64 n, .int .i64 s, .int .i64 l, .int .i64 m], .bool b]) ∧ Below w.heap.size w w' := by
  have := implfind_any a len cap xs ky st en w h
  rw [unhide hV] at this
  exact this

theorem cells4_set {W : World} {B : Nat} {v0 v1 v2 v3 u0 u1 u2 u3 : Value} (h0 : W.cell? ⟨B, 0, none⟩ = some u0) (h1 : W.cell? ⟨B, 1, none⟩ = some u1) (h2 : W.cell? ⟨B, 2, none⟩ = some u2) (h3 : W.cell? ⟨B, 3, none⟩ = some u3) :
    ((((W.setCell ⟨B, 0, none⟩ v0).setCell ⟨B, 1, none⟩ v1).setCell ⟨B, 2, none⟩ v2).setCell ⟨B, 3, none⟩ v3).cell? ⟨B, 0, none⟩ = some v0 ∧ ((((W.setCell ⟨B, 0, none⟩ v0).setCell ⟨B, 1, none⟩ v1).setCell ⟨B, 2, none⟩ v2).setCell ⟨B, 3, none⟩ v3).cell? ⟨B, 1, none⟩ = some v1 ∧ ((((W.setCell ⟨B, 0, none⟩ v0).setCell ⟨B, 1, none⟩ v1).setCell ⟨B, 2, none⟩ v2).setCell ⟨B, 3, none⟩ v3).cell? ⟨B, 2, none⟩ = some v2 ∧ ((((W.setCell ⟨B, 0, none⟩ v0).setCell ⟨B, 1, none⟩ v1).setCell ⟨B, 2, none⟩ v2).setCell ⟨B, 3, none⟩ v3).cell? ⟨B, 3, none⟩ = some v3 := by
  have o : ∀ (X : World) (i j : Nat) (v : Value), i ≠ j → (X.setCell ⟨B, i, none⟩ v).cell? ⟨B, j, none⟩ = X.cell? ⟨B, j, none⟩ := fun X i j v h => World.cell?_setCell_other _ _ _ _ (by intro e; injection e with e1 e2; exact h e2)
  have s : ∀ (X : World) (i : Nat) (v u : Value), X.cell? ⟨B, i, none⟩ = some u → (X.setCell ⟨B, i, none⟩ v).cell? ⟨B, i, none⟩ = some v := fun X i v u h => World.cell?_setCell_same' _ _ _ (by rw [h]; rfl)
  refine ⟨?_, ?_, ?_, ?_⟩
  · rw [o _ _ _ _ (by decide), o _ _ _ _ (by decide), o _ _ _ _ (by decide)]; exact s _ _ _ _ h0
  · rw [o _ _ _ _ (by decide), o _ _ _ _ (by decide)]; exact s _ _ _ u1 (by rw [o _ _ _ _ (by decide)]; exact h1)
  · rw [o _ _ _ _ (by decide)]; exact s _ _ _ u2 (by rw [o _ _ _ _ (by decide), o _ _ _ _ (by decide)]; exact h2)
  · exact s _ _ _ u3 (by rw [o _ _ _ _ (by decide), o _ _ _ _ (by decide), o _ _ _ _ (by decide)]; exact h3)

set_option maxRecDepth 20000 in
set_option maxHeartbeats 1000000 in
theorem lawTabFind (a0 : Option Addr) (len0 cap0 : Nat) (z0 : List TbR) (ky st en : Int) (w : World) (w0 : TbRs w a0 len0 z0) : Calls Try.prog 5 #[.slice a0 len0 cap0, .int .i64 ky, .agg #[.int .i64 st, .int .i64 en]] w fun e' w' => e' = .returned (.bool true) ∧ Below w.heap.size w w' := by
  have hm := w0.2.1
  by_cases hl : (len0 : Int) ≤ 1048576
  · have hl0 : len0 ≤ 1048576 := by omega
    obtain ⟨n, s, l, m, b, hV0⟩ := foundV_is (findT ky st en z0)
    have hV := hide hV0
    clear hV0
    have H0 := w0.below (bel_one w (.cells #[.int .i64 st, .int .i64 en] 23))
    go_enter Try.func5, Try.ntmps5
    go_wp2_with fail
    refine (szTb_small a0 len0 cap0 _ hm hl).mono ?_
    rintro e wx ⟨rfl, hw⟩
    obtain rfl := hw.symm
    clear hw
    go_wp2_with fail
    go_cut [8, 9] (fun p q W => ∃ B : Nat, p = .pointer (some ⟨B, 0, none⟩) ∧ q = .bool b ∧ (W.cell? ⟨B, 0, none⟩ = some (.int .i64 n) ∧ W.cell? ⟨B, 1, none⟩ = some (.int .i64 s) ∧ W.cell? ⟨B, 2, none⟩ = some (.int .i64 l) ∧ W.cell? ⟨B, 3, none⟩ = some (.int .i64 m)) ∧ B < W.heap.size ∧ (W.cell? ⟨w.heap.size, 0, none⟩ = some (.int .i64 st) ∧ W.cell? ⟨w.heap.size, 1, none⟩ = some (.int .i64 en)) ∧ Below (w.alloc (.cells #[.int .i64 st, .int .i64 en] 23)).heap.size (w.alloc (.cells #[.int .i64 st, .int .i64 en] 23)) W)
    case first =>
      go_region_with (first
        | (go_at_call 19; refine (toTb_any _ len0 _ z0 _ (H0.below (by repeat (first | (with_reducible exact Below.refl _ _) | (with_reducible assumption) | (with_reducible refine bel_set ?_ (by first | (simp; done) | (simp; omega)) _) | (with_reducible refine bel_alloc ?_ _) | (with_reducible refine bel_drew ?_) | (with_reducible refine bel_drewN ?_ _) | (with_reducible refine bel_trans ?_ (by with_reducible assumption))))) hl0).mono ?_; rintro e w1x ⟨b1, rfl, H1, R1, ge1, hq1⟩; obtain ⟨hc1, hf1, hs1⟩ := bcell hq1; (try have hz10 : w.heap.size < w1x.heap.size := (by have h9 := hq1.size; (try simp at h9); omega)); (try have hz11 : w.heap.size + 1 < w1x.heap.size := (by have h9 := hq1.size; (try simp at h9); omega)))
        | (go_at_call 20; refine (toWin_any _ _ _).mono ?_; rintro e w2x ⟨rfl, hq2⟩; obtain ⟨hc2, hf2, hs2⟩ := bcell hq2; (try have hz20 : w.heap.size < w2x.heap.size := (by have h9 := hq2.size; (try simp at h9); omega)); (try have hz21 : w.heap.size + 1 < w2x.heap.size := (by have h9 := hq2.size; (try simp at h9); omega)); (try have hz22 : w1x.heap.size < w2x.heap.size := (by have h9 := hq2.size; (try simp at h9); omega)))
        | (go_at_call 18; refine (specfind_eq _ _ _ z0 _ _ _ _ (H1.below (by repeat (first | (with_reducible exact Below.refl _ _) | (with_reducible assumption) | (with_reducible refine bel_set ?_ (by first | (simp; done) | (simp; omega)) _) | (with_reducible refine bel_alloc ?_ _) | (with_reducible refine bel_drew ?_) | (with_reducible refine bel_drewN ?_ _) | (with_reducible refine bel_trans ?_ (by with_reducible assumption))))) hV).mono ?_; rintro e w3x ⟨rfl, hq3⟩; obtain ⟨hc3, hf3, hs3⟩ := bcell hq3; (try have hz30 : w.heap.size < w3x.heap.size := (by have h9 := hq3.size; (try simp at h9); omega)); (try have hz31 : w.heap.size + 1 < w3x.heap.size := (by have h9 := hq3.size; (try simp at h9); omega)); (try have hz32 : w1x.heap.size < w3x.heap.size := (by have h9 := hq3.size; (try simp at h9); omega)); (try have hz33 : w2x.heap.size < w3x.heap.size := (by have h9 := hq3.size; (try simp at h9); omega))))
      all_goals
        go_wp2
        go_meet
        refine ⟨_, rfl, rfl, ?_, ?_, ⟨?_, ?_⟩, (by repeat (first | (with_reducible exact Below.refl _ _) | (with_reducible assumption) | (with_reducible refine bel_set ?_ (by first | (simp; done) | (simp; omega)) _) | (with_reducible refine bel_alloc ?_ _) | (with_reducible refine bel_drew ?_) | (with_reducible refine bel_drewN ?_ _) | (with_reducible refine bel_trans ?_ (by with_reducible assumption))))⟩
      all_goals first | (go_keep; done) | (simp; done) | (simp; omega) | omega | (refine ⟨?_, ?_, ?_, ?_⟩ <;> first | (go_keep; done) | (simp; done)) | exact cells4_set (u0 := .int .i64 0) (u1 := .int .i64 0) (u2 := .int .i64 0) (u3 := .int .i64 0) (by simp (maxDischargeDepth := 9) [go_sem, *]) (by simp (maxDischargeDepth := 9) [go_sem, *]) (by simp (maxDischargeDepth := 9) [go_sem, *]) (by simp (maxDischargeDepth := 9) [go_sem, *]) | (simp (maxDischargeDepth := 9) [go_sem, *]; done)
    case rest =>
      obtain ⟨B, rfl, rfl, ⟨eB0, eB1, eB2, eB3⟩, hBs, ⟨x0, x1⟩, hB1⟩ := hcut
      clear x0 x1
      replace H0 := H0.below hB1
      have hz1 := hB1.size
      have c0_0 : wc.cell? ⟨w.heap.size, 0, none⟩ = some (.int .i64 st) := (hB1.cell (p := ⟨w.heap.size, 0, none⟩) (by simp)).trans (by simp [go_sem])
      have c0_1 : wc.cell? ⟨w.heap.size, 1, none⟩ = some (.int .i64 en) := (hB1.cell (p := ⟨w.heap.size, 1, none⟩) (by simp)).trans (by simp [go_sem])
      go_wp2_with fail
      clear c0_0 c0_1
      refine (toTb_any _ len0 _ z0 _ H0 hl0).mono ?_
      rintro e w2x ⟨b1, rfl, H1, R1, ge1, hb⟩
      have hb2 : Below wc.heap.size wc w2x := (by repeat (first | (with_reducible refine bel_set ?_ (by first | (simp; done) | (simp; omega)) _) | (with_reducible refine bel_alloc ?_ _) | (with_reducible exact Below.refl _ _) | (with_reducible assumption) | (with_reducible refine bel_drew ?_) | (with_reducible refine bel_drewN ?_ _) | (with_reducible refine bel_trans ?_ (by with_reducible assumption))))
      clear hb
      have hB2 : Below (w.alloc (.cells #[.int .i64 st, .int .i64 en] 23)).heap.size (w.alloc (.cells #[.int .i64 st, .int .i64 en] 23)) w2x := bel_trans hB1 hb2
      have hz2 := hb2.size
      replace H0 := H0.below hb2
      replace ge1 : ∀ g o, 0 < len0 → b1 = some ⟨g, o, none⟩ → wc.heap.size ≤ g := fun g o hp e9 => Nat.le_trans (by first | exact Nat.le_refl _ | (simp; done) | (simp; omega)) (ge1 g o hp e9)
      have lt1 : ∀ g o, 0 < len0 → b1 = some ⟨g, o, none⟩ → g < w2x.heap.size := fun g o hp ha => by subst ha; exact H1.lt hp
      have c0_0 : w2x.cell? ⟨w.heap.size, 0, none⟩ = some (.int .i64 st) := (hB2.cell (p := ⟨w.heap.size, 0, none⟩) (by simp)).trans (by simp [go_sem])
      have c0_1 : w2x.cell? ⟨w.heap.size, 1, none⟩ = some (.int .i64 en) := (hB2.cell (p := ⟨w.heap.size, 1, none⟩) (by simp)).trans (by simp [go_sem])
      go_wp2_with fail
      clear c0_0 c0_1
      refine (toWin_any _ _ _).mono ?_
      rintro e w3x ⟨rfl, hb⟩
      have hb3 : Below w2x.heap.size w2x w3x := (by repeat (first | (with_reducible refine bel_set ?_ (by first | (simp; done) | (simp; omega)) _) | (with_reducible refine bel_alloc ?_ _) | (with_reducible exact Below.refl _ _) | (with_reducible assumption) | (with_reducible refine bel_drew ?_) | (with_reducible refine bel_drewN ?_ _) | (with_reducible refine bel_trans ?_ (by with_reducible assumption))))
      clear hb
      have hB3 : Below (w.alloc (.cells #[.int .i64 st, .int .i64 en] 23)).heap.size (w.alloc (.cells #[.int .i64 st, .int .i64 en] 23)) w3x := bel_trans hB2 hb3
      have hz3 := hb3.size
      replace H0 := H0.below hb3
      replace H1 := H1.below hb3
      replace R1 := R1.below hb3
      go_wp2_with fail
      refine (implfind_eq _ _ _ z0 _ _ _ _ H1 hV).mono ?_
      rintro e w4x ⟨rfl, hb⟩
      have hb4 : Below w3x.heap.size w3x w4x := (by repeat (first | (with_reducible refine bel_set ?_ (by first | (simp; done) | (simp; omega)) _) | (with_reducible refine bel_alloc ?_ _) | (with_reducible exact Below.refl _ _) | (with_reducible assumption) | (with_reducible refine bel_drew ?_) | (with_reducible refine bel_drewN ?_ _) | (with_reducible refine bel_trans ?_ (by with_reducible assumption))))
      clear hb
      have hB4 : Below (w.alloc (.cells #[.int .i64 st, .int .i64 en] 23)).heap.size (w.alloc (.cells #[.int .i64 st, .int .i64 en] 23)) w4x := bel_trans hB3 hb4
      have hz4 := hb4.size
      replace H0 := H0.below hb4
      replace H1 := H1.below hb4
      replace R1 := R1.below hb4
      have f0 : w4x.cell? ⟨B, 0, none⟩ = some (.int .i64 n) := ((bel_trans hb2 (bel_trans hb3 hb4)).cell (p := ⟨B, 0, none⟩) hBs).trans eB0
      have f1 : w4x.cell? ⟨B, 1, none⟩ = some (.int .i64 s) := ((bel_trans hb2 (bel_trans hb3 hb4)).cell (p := ⟨B, 1, none⟩) hBs).trans eB1
      have f2 : w4x.cell? ⟨B, 2, none⟩ = some (.int .i64 l) := ((bel_trans hb2 (bel_trans hb3 hb4)).cell (p := ⟨B, 2, none⟩) hBs).trans eB2
      have f3 : w4x.cell? ⟨B, 3, none⟩ = some (.int .i64 m) := ((bel_trans hb2 (bel_trans hb3 hb4)).cell (p := ⟨B, 3, none⟩) hBs).trans eB3
      have hB9 : B < w4x.heap.size := by omega
      go_wp2_with fail
      refine (eqAggT _ _ _ _ _).mono ?_
      rintro e w5x ⟨rfl, hb⟩
      have hb5 : Below w4x.heap.size w4x w5x := (by repeat (first | (with_reducible refine bel_set ?_ (by first | (simp; done) | (simp; omega)) _) | (with_reducible refine bel_alloc ?_ _) | (with_reducible exact Below.refl _ _) | (with_reducible assumption) | (with_reducible refine bel_drew ?_) | (with_reducible refine bel_drewN ?_ _) | (with_reducible refine bel_trans ?_ (by with_reducible assumption))))
      clear hb
      have hB5 : Below (w.alloc (.cells #[.int .i64 st, .int .i64 en] 23)).heap.size (w.alloc (.cells #[.int .i64 st, .int .i64 en] 23)) w5x := bel_trans hB4 hb5
      have hz5 := hb5.size
      replace H0 := H0.below hb5
      replace H1 := H1.below hb5
      replace R1 := R1.below hb5
      go_wp2_with fail
      refine (toTb_any _ len0 _ z0 _ H0 hl0).mono ?_
      rintro e w6x ⟨b2, rfl, H2, R2, ge2, hb⟩
      have hb6 : Below w5x.heap.size w5x w6x := (by repeat (first | (with_reducible refine bel_set ?_ (by first | (simp; done) | (simp; omega)) _) | (with_reducible refine bel_alloc ?_ _) | (with_reducible exact Below.refl _ _) | (with_reducible assumption) | (with_reducible refine bel_drew ?_) | (with_reducible refine bel_drewN ?_ _) | (with_reducible refine bel_trans ?_ (by with_reducible assumption))))
      clear hb
      have hB6 : Below (w.alloc (.cells #[.int .i64 st, .int .i64 en] 23)).heap.size (w.alloc (.cells #[.int .i64 st, .int .i64 en] 23)) w6x := bel_trans hB5 hb6
      have hz6 := hb6.size
      replace H0 := H0.below hb6
      replace H1 := H1.below hb6
      replace R1 := R1.below hb6
      replace ge2 : ∀ g o, 0 < len0 → b2 = some ⟨g, o, none⟩ → w5x.heap.size ≤ g := fun g o hp e9 => Nat.le_trans (by first | exact Nat.le_refl _ | (simp; done) | (simp; omega)) (ge2 g o hp e9)
      have lt2 : ∀ g o, 0 < len0 → b2 = some ⟨g, o, none⟩ → g < w6x.heap.size := fun g o hp ha => by subst ha; exact H2.lt hp
      go_wp2_with fail
      refine (eqTb_any _ _ len0 _ _ z0 _ H1 H2).mono ?_
      rintro e w7x ⟨rfl, hb⟩
      have hb7 : Below w6x.heap.size w6x w7x := (by repeat (first | (with_reducible refine bel_set ?_ (by first | (simp; done) | (simp; omega)) _) | (with_reducible refine bel_alloc ?_ _) | (with_reducible exact Below.refl _ _) | (with_reducible assumption) | (with_reducible refine bel_drew ?_) | (with_reducible refine bel_drewN ?_ _) | (with_reducible refine bel_trans ?_ (by with_reducible assumption))))
      clear hb
      have hB7 : Below (w.alloc (.cells #[.int .i64 st, .int .i64 en] 23)).heap.size (w.alloc (.cells #[.int .i64 st, .int .i64 en] 23)) w7x := bel_trans hB6 hb7
      have hz7 := hb7.size
      replace H0 := H0.below hb7
      replace H1 := H1.below hb7
      replace R1 := R1.below hb7
      replace H2 := H2.below hb7
      replace R2 := R2.below hb7
      go_wp2_with fail
      go_ret
      exact ⟨rfl, bel_trans (bel_one _ _) hB7⟩
  · go_enter Try.func5, Try.ntmps5
    go_wp2_with fail
    refine (szTb_big a0 len0 cap0 _ hm (by omega)).mono ?_
    rintro e wx ⟨rfl, hw⟩
    obtain rfl := hw.symm
    go_wp2_with fail
    go_ret
    exact ⟨rfl, (by repeat (first | (with_reducible refine bel_set ?_ (by first | (simp; done) | (simp; omega)) _) | (with_reducible refine bel_alloc ?_ _) | (with_reducible exact Below.refl _ _) | (with_reducible assumption) | (with_reducible refine bel_drew ?_) | (with_reducible refine bel_drewN ?_ _) | (with_reducible refine bel_trans ?_ (by with_reducible assumption))))⟩

end Go.Proofs.Ytbcmoanmkonfpaa
