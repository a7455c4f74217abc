/- Laid together: texts that were built one by one. -/
import Derived.Test.YtcokdcehjibanaaGreatDoorDrawJob
import Derived.Test.YtcokdcehjibanaaGreatDoorPkA1
import Derived.Deep.DeepCutAuto
import Derived.Lib.SmallJoins
import Derived.Test.YtcokdcehjibanaaGreatDoorPkA0
/- Proved here: a job is drawn, whatever comes ahead of what. -/
namespace Go.Proofs.YtcokdcehjibanaaGreatDoor
open Go.ChangeShapes Go.WideShapes Go.ChangeAt Go.RowKit
set_option linter.unusedVariables false

/-- A drawn job's numbers, but for the step. -/
def JobR (s t k z l e v r : Int) : Prop := (1 ≤ s ∧ s ≤ 3) ∧ (1 ≤ t ∧ t ≤ 2) ∧ (1 ≤ k ∧ k ≤ 3) ∧ (1 ≤ z ∧ z ≤ 20) ∧ (0 ≤ l ∧ l ≤ 20) ∧ (1 ≤ e ∧ e ≤ 4) ∧ (-9 ≤ v ∧ v ≤ 9) ∧ (1 ≤ r ∧ r ≤ 4)
theorem okJob_of {s t k z q l e v r : Int} (h : JobR s t k z l e v r) (hs : stepB k z q = true) : okJob s t k z q l e v r = true := by
  obtain ⟨h1, h2, h3, h4, h5, h6, h7, h8⟩ := h
  simp only [okJob, Bool.and_eq_true, inB_iff]
  exact ⟨⟨⟨⟨⟨⟨⟨⟨h1, h2⟩, h3⟩, h4⟩, hs⟩, h5⟩, h6⟩, h7⟩, h8⟩
theorem half_step {z : Int} (h : 1 ≤ z ∧ z ≤ 20) : stepB 2 z (wrap64 ((wrap64 (z + 1)).tdiv 2)) = true := by
  have h1 : wrap64 (z + 1) = z + 1 := by unfold wrap64; omega
  rw [h1, Int.tdiv_eq_ediv_of_nonneg (by omega)]
  have h2 : wrap64 ((z + 1) / 2) = (z + 1) / 2 := by unfold wrap64; omega
  rw [stepB_2, h2]
  simp only [Bool.and_eq_true, inB_iff, decide_eq_true_eq]
  omega
theorem own_step2 {z q : Int} (h : 1 ≤ z ∧ z ≤ 20) (c1 : ¬ q < 1) (c2 : ¬ wrap64 (4 * q) < z) (c3 : ¬ z < q) : stepB 2 z q = true := by
  rw [stepB_2]
  simp only [Bool.and_eq_true, inB_iff, decide_eq_true_eq]
  have hw : wrap64 (4 * q) = 4 * q := by unfold wrap64; omega
  omega

def PJobK : Prd := fun u _ => ∃ (s t k z q l e : Int) (b : Bool) (v r : Int), u = .agg #[.int .i64 s, .int .i64 t, .int .i64 k, .int .i64 z, .int .i64 q, .int .i64 l, .int .i64 e, .bool b, .int .i64 v, .int .i64 r] ∧ JobR s t k z l e v r ∧ q = 0
theorem st_jobK (R : Nat) : St R PJobK := fun _ _ _ _ h => h
/-- What is left of the region: a job in a box. -/
def JobBK (K2 : Bool) (R : Nat) (w0 : World) (a : Option Addr) (len cap p : Nat) (pv : Value) (W : World) : Prop := ∃ (B : Nat) (s t k z q l e : Int) (b : Bool) (v r : Int), pv = .pointer (some ⟨B, 0, none⟩) ∧ w0.heap.size ≤ B ∧ JobR s t k z l e v r ∧ (k ≠ 2 → q = 0) ∧ (K2 = true → k = 2) ∧ W.heap[B]? = some (.cells #[.int .i64 s, .int .i64 t, .int .i64 k, .int .i64 z, .int .i64 q, .int .i64 l, .int .i64 e, .bool b, .int .i64 v, .int .i64 r] 36 (0, 0)) ∧ Kp R w0 W ∧ ∃ p', p' ≤ p + 9 ∧ Rd R W a len cap p'
/-- A drawn job. -/
def JobPK (R : Nat) (w : World) (a : Option Addr) (len cap p : Nat) (e' : Ending) (w' : World) : Prop := ∃ (s t k z q l e : Int) (b : Bool) (v r : Int), e' = .returned (.agg #[.int .i64 s, .int .i64 t, .int .i64 k, .int .i64 z, .int .i64 q, .int .i64 l, .int .i64 e, .bool b, .int .i64 v, .int .i64 r]) ∧ okJob s t k z q l e v r = true ∧ Kp R w w' ∧ ∃ p', p' ≤ p + 11 ∧ Rd R w' a len cap p'
def jobPsK (R B0 : Nat) : List Prd := [PIs (.pointer (some ⟨R, 0, none⟩)), PInt 0 2, PInt 1 3, PIs (.pointer (some ⟨R, 0, none⟩)), PInt 0 1, PInt 1 2, PIs (.pointer (some ⟨R, 0, none⟩)), PInt 0 2, PInt 1 3, PSl R 6 #[.int .i64 1, .int .i64 3, .int .i64 5, .int .i64 8, .int .i64 10, .int .i64 20], PIs (.pointer (some ⟨R, 0, none⟩)), PInt 0 5, PPt R 1 20, PInt 1 20, PSl R 5 #[.int .i64 0, .int .i64 2, .int .i64 5, .int .i64 12, .int .i64 20], PIs (.pointer (some ⟨R, 0, none⟩)), PInt 0 4, PPt R 0 20, PInt 0 20, PIs (.pointer (some ⟨R, 0, none⟩)), PInt 0 3, PInt 1 4, PIs (.pointer (some ⟨R, 0, none⟩)), PInt 0 1, PBool, PSl R 5 #[.int .i64 (-9), .int .i64 (-9), .int .i64 (-9), .int .i64 0, .int .i64 5], PIs (.pointer (some ⟨R, 0, none⟩)), PInt 0 4, PPt R (-9) 5, PInt (-9) 5, PIs (.pointer (some ⟨R, 0, none⟩)), PInt 0 3, PInt 1 4, PJobK, PBox R B0 #[.int .i64 0, .int .i64 0, .int .i64 0, .int .i64 0, .int .i64 0, .int .i64 0, .int .i64 0, .bool false, .int .i64 0, .int .i64 0] 36, PAny]
theorem jobStK (R B0 : Nat) : AllSt R (jobPsK R B0) := ⟨st_is _ _, st_int _ _ _, st_int _ _ _, st_is _ _, st_int _ _ _, st_int _ _ _, st_is _ _, st_int _ _ _, st_int _ _ _, st_sl _ _ _, st_is _ _, st_int _ _ _, st_pt _ _ _, st_int _ _ _, st_sl _ _ _, st_is _ _, st_int _ _ _, st_pt _ _ _, st_int _ _ _, st_is _ _, st_int _ _ _, st_int _ _ _, st_is _ _, st_int _ _ _, st_bool _, st_sl _ _ _, st_is _ _, st_int _ _ _, st_pt _ _ _, st_int _ _ _, st_is _ _, st_int _ _ _, st_int _ _ _, st_jobK _, st_box _ _ _ _, st_any _, trivial⟩

set_option linter.unusedSimpArgs false in
set_option maxRecDepth 20000 in
set_option maxHeartbeats 16000000 in
theorem jobK_any (R : Nat) (a : Option Addr) (len cap p : Nat) (w : World) (hp : p ≤ 900000) (hR0 : R < w.heap.size) (h : Rd R w a len cap p) : Calls Tryz.prog 21 #[.pointer (some ⟨R, 0, none⟩)] w fun e w' => JobPK R w a len cap p e w' := by
  go_enter Tryz.func21, Tryz.ntmps21
  go_wp2_with fail
  go_cut [3] (fun pv W => JobBK false R (w.alloc (.cells #[.int .i64 0, .int .i64 0, .int .i64 0, .int .i64 0, .int .i64 0, .int .i64 0, .int .i64 0, .bool false, .int .i64 0, .int .i64 0] 36)) a len cap p pv W)
  case first =>
    have hst := jobStK R (w.heap.size + 1)
    have hrd := h.kp hR0 (bel_one w (.cells #[.int .i64 0, .int .i64 0, .int .i64 0, .int .i64 0, .int .i64 0, .int .i64 0, .int .i64 0, .bool false, .int .i64 0, .int .i64 0] 36))
    refine wp_region_last (by kernel_rfl) (by kernel_rfl) (by kernel_rfl) (Drawing R (w.heap.size + 1) a len cap p (w.alloc (.cells #[.int .i64 0, .int .i64 0, .int .i64 0, .int .i64 0, .int .i64 0, .int .i64 0, .int .i64 0, .bool false, .int .i64 0, .int .i64 0] 36)) (jobPsK R (w.heap.size + 1)) [1, 4, 7, 11, 16, 20, 23, 27, 31] (fun V => #[.pointer (some ⟨R, 0, none⟩), undef, .pointer (some ⟨w.heap.size, 0, none⟩), V 34, V 0, V 1, V 2, V 3, V 4, V 5, V 6, V 7, V 8, V 9, V 10, V 11, V 12, V 13, V 14, V 15, V 16, V 17, V 18, V 19, V 20, V 21, V 22, V 23, V 24, V 25, V 26, V 27, V 28, V 29, V 30, V 31, V 32, V 33, undef, undef, undef, undef, undef, undef, undef, undef, undef, undef, undef, undef, undef, undef, undef, undef, undef, undef, undef, undef, undef, undef, undef, undef, undef, undef, undef, undef, undef, undef, undef, undef, undef, undef, undef, undef, undef]) []) ?_ ?_
    · refine ⟨fun _ => undef, rfl, ?_, ⟨(Below.refl _ _).drew, fun _ _ _ => rfl⟩, ?_, ?_, p, ?_, ?_⟩
      · intro j hj
        exact absurd hj (by simp)
      · simp
      · omega
      · omega
      · exact ⟨hrd.1, hrd.2, hrd.3, hrd.4, hrd.5, hrd.6, hrd.7⟩
    refine ⟨?_, ?_, ?_, ?_, ?_, ?_, ?_, ?_, ?_, ?_, ?_, ?_, ?_, ?_, ?_, ?_, ?_, ?_, ?_, ?_, ?_, ?_, ?_, ?_, ?_, ?_, ?_, ?_, ?_, ?_, ?_, ?_, ?_, ?_, ?_, ?_⟩
    · intro L ac W hI hL hA K' hK
      obtain ⟨V, rfl, hP, hk, hB, hR, hr⟩ := hI
      go_simp
      refine hK.out _ _ (Drawing.pure (i := 0) (.pointer (some ⟨R, 0, none⟩)) hP hk hB hR hr rfl ?_)
      simp [put1]
    · intro L ac W hI hL hA K' hK
      obtain ⟨V, rfl, hP, hk, hB, hR, hr⟩ := hI
      have e0 : V 0 = (.pointer (some ⟨R, 0, none⟩)) := hP 0 (hA ⟨0, .data⟩ (by simp) rfl)
      simp only [e0]
      obtain ⟨p', hp', hd⟩ := hr
      have hlt := cntL_lt (i := 1) hL [1, 4, 7, 11, 16, 20, 23, 27, 31] (by decide)
      have hcn := cntL_len L [1, 4, 7, 11, 16, 20, 23, 27, 31]
      simp only [List.length_cons, List.length_nil] at hcn
      go_simp
      (go_at_call 14; refine (pick_any R a len cap p' 3 W (by omega) (by omega) hd).mono ?_; rintro e' W' ⟨x, rfl, x0, x1, kW, rW⟩)
      (try go_wp2_with fail)
      refine hK.out _ _ (Drawing.drew (i := 1) (.int .i64 x) hst hP hk hB hR kW ⟨p' + 1, by omega, rW (by omega)⟩ ⟨x, rfl, by omega, by omega⟩ ?_)
      simp [put1, e0]
    · intro L ac W hI hL hA K' hK
      obtain ⟨V, rfl, hP, hk, hB, hR, hr⟩ := hI
      obtain ⟨z1, e1, lo1, hi1⟩ := (show PInt 0 2 (V 1) W from hP 1 (hA ⟨1, .data⟩ (by simp) rfl))
      simp only [e1]
      have hw9 : IntKind.i64.wrap (1 + z1) = 1 + z1 := by rw [IntKind.wrap_i64]; omega
      go_simp
      (try rw [hw9])
      refine hK.out _ _ (Drawing.pure (i := 2) (.int .i64 (1 + z1)) hP hk hB hR hr ⟨_, rfl, by omega, by omega⟩ ?_)
      simp [put1, e1]
    · intro L ac W hI hL hA K' hK
      obtain ⟨V, rfl, hP, hk, hB, hR, hr⟩ := hI
      go_simp
      refine hK.out _ _ (Drawing.pure (i := 3) (.pointer (some ⟨R, 0, none⟩)) hP hk hB hR hr rfl ?_)
      simp [put1]
    · intro L ac W hI hL hA K' hK
      obtain ⟨V, rfl, hP, hk, hB, hR, hr⟩ := hI
      have e3 : V 3 = (.pointer (some ⟨R, 0, none⟩)) := hP 3 (hA ⟨3, .data⟩ (by simp) rfl)
      simp only [e3]
      obtain ⟨p', hp', hd⟩ := hr
      have hlt := cntL_lt (i := 4) hL [1, 4, 7, 11, 16, 20, 23, 27, 31] (by decide)
      have hcn := cntL_len L [1, 4, 7, 11, 16, 20, 23, 27, 31]
      simp only [List.length_cons, List.length_nil] at hcn
      go_simp
      (go_at_call 14; refine (pick_any R a len cap p' 2 W (by omega) (by omega) hd).mono ?_; rintro e' W' ⟨x, rfl, x0, x1, kW, rW⟩)
      (try go_wp2_with fail)
      refine hK.out _ _ (Drawing.drew (i := 4) (.int .i64 x) hst hP hk hB hR kW ⟨p' + 1, by omega, rW (by omega)⟩ ⟨x, rfl, by omega, by omega⟩ ?_)
      simp [put1, e3]
    · intro L ac W hI hL hA K' hK
      obtain ⟨V, rfl, hP, hk, hB, hR, hr⟩ := hI
      obtain ⟨z4, e4, lo4, hi4⟩ := (show PInt 0 1 (V 4) W from hP 4 (hA ⟨4, .data⟩ (by simp) rfl))
      simp only [e4]
      have hw9 : IntKind.i64.wrap (1 + z4) = 1 + z4 := by rw [IntKind.wrap_i64]; omega
      go_simp
      (try rw [hw9])
      refine hK.out _ _ (Drawing.pure (i := 5) (.int .i64 (1 + z4)) hP hk hB hR hr ⟨_, rfl, by omega, by omega⟩ ?_)
      simp [put1, e4]
    · intro L ac W hI hL hA K' hK
      obtain ⟨V, rfl, hP, hk, hB, hR, hr⟩ := hI
      go_simp
      refine hK.out _ _ (Drawing.pure (i := 6) (.pointer (some ⟨R, 0, none⟩)) hP hk hB hR hr rfl ?_)
      simp [put1]
    · intro L ac W hI hL hA K' hK
      obtain ⟨V, rfl, hP, hk, hB, hR, hr⟩ := hI
      have e6 : V 6 = (.pointer (some ⟨R, 0, none⟩)) := hP 6 (hA ⟨6, .data⟩ (by simp) rfl)
      simp only [e6]
      obtain ⟨p', hp', hd⟩ := hr
      have hlt := cntL_lt (i := 7) hL [1, 4, 7, 11, 16, 20, 23, 27, 31] (by decide)
      have hcn := cntL_len L [1, 4, 7, 11, 16, 20, 23, 27, 31]
      simp only [List.length_cons, List.length_nil] at hcn
      go_simp
      (go_at_call 14; refine (pick_any R a len cap p' 3 W (by omega) (by omega) hd).mono ?_; rintro e' W' ⟨x, rfl, x0, x1, kW, rW⟩)
      (try go_wp2_with fail)
      refine hK.out _ _ (Drawing.drew (i := 7) (.int .i64 x) hst hP hk hB hR kW ⟨p' + 1, by omega, rW (by omega)⟩ ⟨x, rfl, by omega, by omega⟩ ?_)
      simp [put1, e6]
    · intro L ac W hI hL hA K' hK
      obtain ⟨V, rfl, hP, hk, hB, hR, hr⟩ := hI
      obtain ⟨z7, e7, lo7, hi7⟩ := (show PInt 0 2 (V 7) W from hP 7 (hA ⟨7, .data⟩ (by simp) rfl))
      simp only [e7]
      have hw9 : IntKind.i64.wrap (1 + z7) = 1 + z7 := by rw [IntKind.wrap_i64]; omega
      go_simp
      (try rw [hw9])
      refine hK.out _ _ (Drawing.pure (i := 8) (.int .i64 (1 + z7)) hP hk hB hR hr ⟨_, rfl, by omega, by omega⟩ ?_)
      simp [put1, e7]
    · intro L ac W hI hL hA K' hK
      obtain ⟨V, rfl, hP, hk, hB, hR, hr⟩ := hI
      go_simp
      refine hK.out _ _ (Drawing.made (i := 9) (.slice (some ⟨W.heap.size, 0, none⟩) 6 6) (.cells #[.int .i64 1, .int .i64 3, .int .i64 5, .int .i64 8, .int .i64 10, .int .i64 20] 3) hst hP hk hB hR hr ⟨_, rfl, by omega, heap_alloc_new _ _⟩ ?_)
      simp [put1]
    · intro L ac W hI hL hA K' hK
      obtain ⟨V, rfl, hP, hk, hB, hR, hr⟩ := hI
      go_simp
      refine hK.out _ _ (Drawing.pure (i := 10) (.pointer (some ⟨R, 0, none⟩)) hP hk hB hR hr rfl ?_)
      simp [put1]
    · intro L ac W hI hL hA K' hK
      obtain ⟨V, rfl, hP, hk, hB, hR, hr⟩ := hI
      have e10 : V 10 = (.pointer (some ⟨R, 0, none⟩)) := hP 10 (hA ⟨10, .data⟩ (by simp) rfl)
      simp only [e10]
      obtain ⟨p', hp', hd⟩ := hr
      have hlt := cntL_lt (i := 11) hL [1, 4, 7, 11, 16, 20, 23, 27, 31] (by decide)
      have hcn := cntL_len L [1, 4, 7, 11, 16, 20, 23, 27, 31]
      simp only [List.length_cons, List.length_nil] at hcn
      go_simp
      (go_at_call 14; refine (pick_any R a len cap p' 6 W (by omega) (by omega) hd).mono ?_; rintro e' W' ⟨x, rfl, x0, x1, kW, rW⟩)
      (try go_wp2_with fail)
      refine hK.out _ _ (Drawing.drew (i := 11) (.int .i64 x) hst hP hk hB hR kW ⟨p' + 1, by omega, rW (by omega)⟩ ⟨x, rfl, by omega, by omega⟩ ?_)
      simp [put1, e10]
    · intro L ac W hI hL hA K' hK
      obtain ⟨V, rfl, hP, hk, hB, hR, hr⟩ := hI
      obtain ⟨g9, e9, n9, k9⟩ := (show PSl R 6 #[.int .i64 1, .int .i64 3, .int .i64 5, .int .i64 8, .int .i64 10, .int .i64 20] (V 9) W from hP 9 (hA ⟨9, .data⟩ (by simp) rfl))
      obtain ⟨z11, e11, lo11, hi11⟩ := (show PInt 0 5 (V 11) W from hP 11 (hA ⟨11, .data⟩ (by simp) rfl))
      simp only [e9, e11]
      obtain ⟨z, hz, zl, zu⟩ := el1_3_5_8_10_20_ z11 lo11 (by omega)
      have hc9 := (cells_blk (n := 0) k9 z11.toNat).1.trans hz
      have hix : (0 : Int) ≤ z11 ∧ z11 < 6 := ⟨lo11, by omega⟩
      have hix1 : ¬ z11 < 0 := by omega
      have hix2 : z11.toNat < 6 := by omega
      go_simp
      refine hK.out _ _ (Drawing.pure (i := 12) (.pointer (some ⟨g9, z11.toNat, none⟩)) hP hk hB hR hr ⟨_, _, _, rfl, n9, hc9, zl, zu⟩ ?_)
      simp [put1, e9, e11]
    · intro L ac W hI hL hA K' hK
      obtain ⟨V, rfl, hP, hk, hB, hR, hr⟩ := hI
      obtain ⟨g12, o12, z12, e12, n12, c12, lo12, hi12⟩ := (show PPt R 1 20 (V 12) W from hP 12 (hA ⟨12, .data⟩ (by simp) rfl))
      simp only [e12]
      go_simp
      refine hK.out _ _ (Drawing.pure (i := 13) (.int .i64 z12) hP hk hB hR hr ⟨_, rfl, lo12, hi12⟩ ?_)
      simp [put1, e12]
    · intro L ac W hI hL hA K' hK
      obtain ⟨V, rfl, hP, hk, hB, hR, hr⟩ := hI
      go_simp
      refine hK.out _ _ (Drawing.made (i := 14) (.slice (some ⟨W.heap.size, 0, none⟩) 5 5) (.cells #[.int .i64 0, .int .i64 2, .int .i64 5, .int .i64 12, .int .i64 20] 3) hst hP hk hB hR hr ⟨_, rfl, by omega, heap_alloc_new _ _⟩ ?_)
      simp [put1]
    · intro L ac W hI hL hA K' hK
      obtain ⟨V, rfl, hP, hk, hB, hR, hr⟩ := hI
      go_simp
      refine hK.out _ _ (Drawing.pure (i := 15) (.pointer (some ⟨R, 0, none⟩)) hP hk hB hR hr rfl ?_)
      simp [put1]
    · intro L ac W hI hL hA K' hK
      obtain ⟨V, rfl, hP, hk, hB, hR, hr⟩ := hI
      have e15 : V 15 = (.pointer (some ⟨R, 0, none⟩)) := hP 15 (hA ⟨15, .data⟩ (by simp) rfl)
      simp only [e15]
      obtain ⟨p', hp', hd⟩ := hr
      have hlt := cntL_lt (i := 16) hL [1, 4, 7, 11, 16, 20, 23, 27, 31] (by decide)
      have hcn := cntL_len L [1, 4, 7, 11, 16, 20, 23, 27, 31]
      simp only [List.length_cons, List.length_nil] at hcn
      go_simp
      (go_at_call 14; refine (pick_any R a len cap p' 5 W (by omega) (by omega) hd).mono ?_; rintro e' W' ⟨x, rfl, x0, x1, kW, rW⟩)
      (try go_wp2_with fail)
      refine hK.out _ _ (Drawing.drew (i := 16) (.int .i64 x) hst hP hk hB hR kW ⟨p' + 1, by omega, rW (by omega)⟩ ⟨x, rfl, by omega, by omega⟩ ?_)
      simp [put1, e15]
    · intro L ac W hI hL hA K' hK
      obtain ⟨V, rfl, hP, hk, hB, hR, hr⟩ := hI
      obtain ⟨g14, e14, n14, k14⟩ := (show PSl R 5 #[.int .i64 0, .int .i64 2, .int .i64 5, .int .i64 12, .int .i64 20] (V 14) W from hP 14 (hA ⟨14, .data⟩ (by simp) rfl))
      obtain ⟨z16, e16, lo16, hi16⟩ := (show PInt 0 4 (V 16) W from hP 16 (hA ⟨16, .data⟩ (by simp) rfl))
      simp only [e14, e16]
      obtain ⟨z, hz, zl, zu⟩ := el0_2_5_12_20_ z16 lo16 (by omega)
      have hc9 := (cells_blk (n := 0) k14 z16.toNat).1.trans hz
      have hix : (0 : Int) ≤ z16 ∧ z16 < 5 := ⟨lo16, by omega⟩
      have hix1 : ¬ z16 < 0 := by omega
      have hix2 : z16.toNat < 5 := by omega
      go_simp
      refine hK.out _ _ (Drawing.pure (i := 17) (.pointer (some ⟨g14, z16.toNat, none⟩)) hP hk hB hR hr ⟨_, _, _, rfl, n14, hc9, zl, zu⟩ ?_)
      simp [put1, e14, e16]
    · intro L ac W hI hL hA K' hK
      obtain ⟨V, rfl, hP, hk, hB, hR, hr⟩ := hI
      obtain ⟨g17, o17, z17, e17, n17, c17, lo17, hi17⟩ := (show PPt R 0 20 (V 17) W from hP 17 (hA ⟨17, .data⟩ (by simp) rfl))
      simp only [e17]
      go_simp
      refine hK.out _ _ (Drawing.pure (i := 18) (.int .i64 z17) hP hk hB hR hr ⟨_, rfl, lo17, hi17⟩ ?_)
      simp [put1, e17]
    · intro L ac W hI hL hA K' hK
      obtain ⟨V, rfl, hP, hk, hB, hR, hr⟩ := hI
      go_simp
      refine hK.out _ _ (Drawing.pure (i := 19) (.pointer (some ⟨R, 0, none⟩)) hP hk hB hR hr rfl ?_)
      simp [put1]
    · intro L ac W hI hL hA K' hK
      obtain ⟨V, rfl, hP, hk, hB, hR, hr⟩ := hI
      have e19 : V 19 = (.pointer (some ⟨R, 0, none⟩)) := hP 19 (hA ⟨19, .data⟩ (by simp) rfl)
      simp only [e19]
      obtain ⟨p', hp', hd⟩ := hr
      have hlt := cntL_lt (i := 20) hL [1, 4, 7, 11, 16, 20, 23, 27, 31] (by decide)
      have hcn := cntL_len L [1, 4, 7, 11, 16, 20, 23, 27, 31]
      simp only [List.length_cons, List.length_nil] at hcn
      go_simp
      (go_at_call 14; refine (pick_any R a len cap p' 4 W (by omega) (by omega) hd).mono ?_; rintro e' W' ⟨x, rfl, x0, x1, kW, rW⟩)
      (try go_wp2_with fail)
      refine hK.out _ _ (Drawing.drew (i := 20) (.int .i64 x) hst hP hk hB hR kW ⟨p' + 1, by omega, rW (by omega)⟩ ⟨x, rfl, by omega, by omega⟩ ?_)
      simp [put1, e19]
    · intro L ac W hI hL hA K' hK
      obtain ⟨V, rfl, hP, hk, hB, hR, hr⟩ := hI
      obtain ⟨z20, e20, lo20, hi20⟩ := (show PInt 0 3 (V 20) W from hP 20 (hA ⟨20, .data⟩ (by simp) rfl))
      simp only [e20]
      have hw9 : IntKind.i64.wrap (1 + z20) = 1 + z20 := by rw [IntKind.wrap_i64]; omega
      go_simp
      (try rw [hw9])
      refine hK.out _ _ (Drawing.pure (i := 21) (.int .i64 (1 + z20)) hP hk hB hR hr ⟨_, rfl, by omega, by omega⟩ ?_)
      simp [put1, e20]
    · intro L ac W hI hL hA K' hK
      obtain ⟨V, rfl, hP, hk, hB, hR, hr⟩ := hI
      go_simp
      refine hK.out _ _ (Drawing.pure (i := 22) (.pointer (some ⟨R, 0, none⟩)) hP hk hB hR hr rfl ?_)
      simp [put1]
    · intro L ac W hI hL hA K' hK
      obtain ⟨V, rfl, hP, hk, hB, hR, hr⟩ := hI
      have e22 : V 22 = (.pointer (some ⟨R, 0, none⟩)) := hP 22 (hA ⟨22, .data⟩ (by simp) rfl)
      simp only [e22]
      obtain ⟨p', hp', hd⟩ := hr
      have hlt := cntL_lt (i := 23) hL [1, 4, 7, 11, 16, 20, 23, 27, 31] (by decide)
      have hcn := cntL_len L [1, 4, 7, 11, 16, 20, 23, 27, 31]
      simp only [List.length_cons, List.length_nil] at hcn
      go_simp
      (go_at_call 14; refine (pick_any R a len cap p' 2 W (by omega) (by omega) hd).mono ?_; rintro e' W' ⟨x, rfl, x0, x1, kW, rW⟩)
      (try go_wp2_with fail)
      refine hK.out _ _ (Drawing.drew (i := 23) (.int .i64 x) hst hP hk hB hR kW ⟨p' + 1, by omega, rW (by omega)⟩ ⟨x, rfl, by omega, by omega⟩ ?_)
      simp [put1, e22]
    · intro L ac W hI hL hA K' hK
      obtain ⟨V, rfl, hP, hk, hB, hR, hr⟩ := hI
      obtain ⟨z23, e23, lo23, hi23⟩ := (show PInt 0 1 (V 23) W from hP 23 (hA ⟨23, .data⟩ (by simp) rfl))
      simp only [e23]
      go_simp
      refine hK.out _ _ (Drawing.pure (i := 24) (.bool (z23 == 0)) hP hk hB hR hr ⟨_, rfl⟩ ?_)
      simp [put1, e23]
    · intro L ac W hI hL hA K' hK
      obtain ⟨V, rfl, hP, hk, hB, hR, hr⟩ := hI
      go_simp
      refine hK.out _ _ (Drawing.made (i := 25) (.slice (some ⟨W.heap.size, 0, none⟩) 5 5) (.cells #[.int .i64 (-9), .int .i64 (-9), .int .i64 (-9), .int .i64 0, .int .i64 5] 3) hst hP hk hB hR hr ⟨_, rfl, by omega, heap_alloc_new _ _⟩ ?_)
      simp [put1]
    · intro L ac W hI hL hA K' hK
      obtain ⟨V, rfl, hP, hk, hB, hR, hr⟩ := hI
      go_simp
      refine hK.out _ _ (Drawing.pure (i := 26) (.pointer (some ⟨R, 0, none⟩)) hP hk hB hR hr rfl ?_)
      simp [put1]
    · intro L ac W hI hL hA K' hK
      obtain ⟨V, rfl, hP, hk, hB, hR, hr⟩ := hI
      have e26 : V 26 = (.pointer (some ⟨R, 0, none⟩)) := hP 26 (hA ⟨26, .data⟩ (by simp) rfl)
      simp only [e26]
      obtain ⟨p', hp', hd⟩ := hr
      have hlt := cntL_lt (i := 27) hL [1, 4, 7, 11, 16, 20, 23, 27, 31] (by decide)
      have hcn := cntL_len L [1, 4, 7, 11, 16, 20, 23, 27, 31]
      simp only [List.length_cons, List.length_nil] at hcn
      go_simp
      (go_at_call 14; refine (pick_any R a len cap p' 5 W (by omega) (by omega) hd).mono ?_; rintro e' W' ⟨x, rfl, x0, x1, kW, rW⟩)
      (try go_wp2_with fail)
      refine hK.out _ _ (Drawing.drew (i := 27) (.int .i64 x) hst hP hk hB hR kW ⟨p' + 1, by omega, rW (by omega)⟩ ⟨x, rfl, by omega, by omega⟩ ?_)
      simp [put1, e26]
    · intro L ac W hI hL hA K' hK
      obtain ⟨V, rfl, hP, hk, hB, hR, hr⟩ := hI
      obtain ⟨g25, e25, n25, k25⟩ := (show PSl R 5 #[.int .i64 (-9), .int .i64 (-9), .int .i64 (-9), .int .i64 0, .int .i64 5] (V 25) W from hP 25 (hA ⟨25, .data⟩ (by simp) rfl))
      obtain ⟨z27, e27, lo27, hi27⟩ := (show PInt 0 4 (V 27) W from hP 27 (hA ⟨27, .data⟩ (by simp) rfl))
      simp only [e25, e27]
      obtain ⟨z, hz, zl, zu⟩ := elm9_m9_m9_0_5_ z27 lo27 (by omega)
      have hc9 := (cells_blk (n := 0) k25 z27.toNat).1.trans hz
      have hix : (0 : Int) ≤ z27 ∧ z27 < 5 := ⟨lo27, by omega⟩
      have hix1 : ¬ z27 < 0 := by omega
      have hix2 : z27.toNat < 5 := by omega
      go_simp
      refine hK.out _ _ (Drawing.pure (i := 28) (.pointer (some ⟨g25, z27.toNat, none⟩)) hP hk hB hR hr ⟨_, _, _, rfl, n25, hc9, zl, zu⟩ ?_)
      simp [put1, e25, e27]
    · intro L ac W hI hL hA K' hK
      obtain ⟨V, rfl, hP, hk, hB, hR, hr⟩ := hI
      obtain ⟨g28, o28, z28, e28, n28, c28, lo28, hi28⟩ := (show PPt R (-9) 5 (V 28) W from hP 28 (hA ⟨28, .data⟩ (by simp) rfl))
      simp only [e28]
      go_simp
      refine hK.out _ _ (Drawing.pure (i := 29) (.int .i64 z28) hP hk hB hR hr ⟨_, rfl, lo28, hi28⟩ ?_)
      simp [put1, e28]
    · intro L ac W hI hL hA K' hK
      obtain ⟨V, rfl, hP, hk, hB, hR, hr⟩ := hI
      go_simp
      refine hK.out _ _ (Drawing.pure (i := 30) (.pointer (some ⟨R, 0, none⟩)) hP hk hB hR hr rfl ?_)
      simp [put1]
    · intro L ac W hI hL hA K' hK
      obtain ⟨V, rfl, hP, hk, hB, hR, hr⟩ := hI
      have e30 : V 30 = (.pointer (some ⟨R, 0, none⟩)) := hP 30 (hA ⟨30, .data⟩ (by simp) rfl)
      simp only [e30]
      obtain ⟨p', hp', hd⟩ := hr
      have hlt := cntL_lt (i := 31) hL [1, 4, 7, 11, 16, 20, 23, 27, 31] (by decide)
      have hcn := cntL_len L [1, 4, 7, 11, 16, 20, 23, 27, 31]
      simp only [List.length_cons, List.length_nil] at hcn
      go_simp
      (go_at_call 14; refine (pick_any R a len cap p' 4 W (by omega) (by omega) hd).mono ?_; rintro e' W' ⟨x, rfl, x0, x1, kW, rW⟩)
      (try go_wp2_with fail)
      refine hK.out _ _ (Drawing.drew (i := 31) (.int .i64 x) hst hP hk hB hR kW ⟨p' + 1, by omega, rW (by omega)⟩ ⟨x, rfl, by omega, by omega⟩ ?_)
      simp [put1, e30]
    · intro L ac W hI hL hA K' hK
      obtain ⟨V, rfl, hP, hk, hB, hR, hr⟩ := hI
      obtain ⟨z31, e31, lo31, hi31⟩ := (show PInt 0 3 (V 31) W from hP 31 (hA ⟨31, .data⟩ (by simp) rfl))
      simp only [e31]
      have hw9 : IntKind.i64.wrap (1 + z31) = 1 + z31 := by rw [IntKind.wrap_i64]; omega
      go_simp
      (try rw [hw9])
      refine hK.out _ _ (Drawing.pure (i := 32) (.int .i64 (1 + z31)) hP hk hB hR hr ⟨_, rfl, by omega, by omega⟩ ?_)
      simp [put1, e31]
    · intro L ac W hI hL hA K' hK
      obtain ⟨V, rfl, hP, hk, hB, hR, hr⟩ := hI
      obtain ⟨z2, e2, lo2, hi2⟩ := (show PInt 1 3 (V 2) W from hP 2 (hA ⟨2, .data⟩ (by simp) rfl))
      obtain ⟨z5, e5, lo5, hi5⟩ := (show PInt 1 2 (V 5) W from hP 5 (hA ⟨5, .data⟩ (by simp) rfl))
      obtain ⟨z8, e8, lo8, hi8⟩ := (show PInt 1 3 (V 8) W from hP 8 (hA ⟨8, .data⟩ (by simp) rfl))
      obtain ⟨z13, e13, lo13, hi13⟩ := (show PInt 1 20 (V 13) W from hP 13 (hA ⟨13, .data⟩ (by simp) rfl))
      obtain ⟨z18, e18, lo18, hi18⟩ := (show PInt 0 20 (V 18) W from hP 18 (hA ⟨18, .data⟩ (by simp) rfl))
      obtain ⟨z21, e21, lo21, hi21⟩ := (show PInt 1 4 (V 21) W from hP 21 (hA ⟨21, .data⟩ (by simp) rfl))
      obtain ⟨b24, e24⟩ := (show PBool (V 24) W from hP 24 (hA ⟨24, .data⟩ (by simp) rfl))
      obtain ⟨z29, e29, lo29, hi29⟩ := (show PInt (-9) 5 (V 29) W from hP 29 (hA ⟨29, .data⟩ (by simp) rfl))
      obtain ⟨z32, e32, lo32, hi32⟩ := (show PInt 1 4 (V 32) W from hP 32 (hA ⟨32, .data⟩ (by simp) rfl))
      simp only [e2, e5, e8, e13, e18, e21, e24, e29, e32]
      go_simp
      refine hK.out _ _ (Drawing.pure (i := 33) (.agg #[.int .i64 z2, .int .i64 z5, .int .i64 z8, .int .i64 z13, .int .i64 0, .int .i64 z18, .int .i64 z21, .bool b24, .int .i64 z29, .int .i64 z32]) hP hk hB hR hr ⟨_, _, _, _, _, _, _, _, _, _, rfl, (by unfold JobR; omega), rfl⟩ ?_)
      simp [put1, e2, e5, e8, e13, e18, e21, e24, e29, e32]
    · intro L ac W hI hL hA K' hK
      obtain ⟨V, rfl, hP, hk, hB, hR, hr⟩ := hI
      go_simp
      refine hK.out _ _ (Drawing.made (i := 34) (.pointer (some ⟨W.heap.size, 0, none⟩)) (.cells #[.int .i64 0, .int .i64 0, .int .i64 0, .int .i64 0, .int .i64 0, .int .i64 0, .int .i64 0, .bool false, .int .i64 0, .int .i64 0] 36) hst hP hk hB hR hr ⟨_, rfl, by omega, hB, heap_alloc_new _ _⟩ ?_)
      simp [put1]
    · intro L ac W hI hA K' hK
      obtain ⟨V, rfl, hP, hk, hB, hR, p', hp', hd⟩ := hI
      obtain ⟨g34, e34, n34, m34, k34⟩ := (show PBox R (w.heap.size + 1) #[.int .i64 0, .int .i64 0, .int .i64 0, .int .i64 0, .int .i64 0, .int .i64 0, .int .i64 0, .bool false, .int .i64 0, .int .i64 0] 36 (V 34) W from hP 34 (hA 34 (by decide)))
      obtain ⟨s, t, k, z, q, l, e, b, v, r, e33, hJR, hq0⟩ := (show PJobK (V 33) W from hP 33 (hA 33 (by decide)))
      have HJ9 := hide hJR
      have HQ9 := hide hq0
      clear hJR hq0
      have hcn := cntL_len L [1, 4, 7, 11, 16, 20, 23, 27, 31]
      simp only [List.length_cons, List.length_nil] at hcn
      obtain ⟨x0, f0⟩ := cells_blk (n := 0) k34 0
      obtain ⟨x1, f1⟩ := cells_blk (n := 0) k34 1
      obtain ⟨x2, f2⟩ := cells_blk (n := 0) k34 2
      obtain ⟨x3, f3⟩ := cells_blk (n := 0) k34 3
      obtain ⟨x4, f4⟩ := cells_blk (n := 0) k34 4
      obtain ⟨x5, f5⟩ := cells_blk (n := 0) k34 5
      obtain ⟨x6, f6⟩ := cells_blk (n := 0) k34 6
      obtain ⟨x7, f7⟩ := cells_blk (n := 0) k34 7
      obtain ⟨x8, f8⟩ := cells_blk (n := 0) k34 8
      obtain ⟨x9, f9⟩ := cells_blk (n := 0) k34 9
      simp only [List.getElem?_toArray, List.getElem?_cons_zero, List.getElem?_cons_succ] at x0 x1 x2 x3 x4 x5 x6 x7 x8 x9
      go_simp
      refine hK.out _ _ ?_
      go_wp2
      go_meet
      refine ⟨g34, s, t, k, z, q, l, e, b, v, r, rfl, by simp; omega, unhide HJ9, (fun _ => unhide HQ9), (fun h9 => by cases h9), ?_, ?_, p', by omega, ?_⟩
      · exact blk10 k34
      · exact (kp_setB (kp_setB (kp_setB (kp_setB (kp_setB (kp_setB (kp_setB (kp_setB (kp_setB (kp_setB hk (by omega) (by simp; omega)) (by omega) (by simp; omega)) (by omega) (by simp; omega)) (by omega) (by simp; omega)) (by omega) (by simp; omega)) (by omega) (by simp; omega)) (by omega) (by simp; omega)) (by omega) (by simp; omega)) (by omega) (by simp; omega)) (by omega) (by simp; omega))
      · exact (rd_setB (rd_setB (rd_setB (rd_setB (rd_setB (rd_setB (rd_setB (rd_setB (rd_setB (rd_setB hd (by omega)) (by omega)) (by omega)) (by omega)) (by omega)) (by omega)) (by omega)) (by omega)) (by omega)) (by omega))
  case rest =>
    rename World => wa
    obtain ⟨B, s, t, k, z, q, l, e, b, v, r, rfl, hB, hJR, hq0, hk2, hX, hk, p', hp', hd⟩ := hcut
    have HJR := hide hJR
    have HQ0 := hide hq0
    have HK2 := hide hk2
    clear hJR hq0 hk2
    have hB' : w.heap.size + 1 ≤ B := by simpa using hB
    clear hB
    have hlt := heap_lt hX
    have hres : wa.heap[w.heap.size]? = some (.cells #[.int .i64 0, .int .i64 0, .int .i64 0, .int .i64 0, .int .i64 0, .int .i64 0, .int .i64 0, .bool false, .int .i64 0, .int .i64 0] 36 (0, 0)) := (hk.all _ (by simp) (by omega)).trans (heap_alloc_new _ _)
    obtain ⟨x0, f0⟩ := cells_blk (n := 0) hX 0
    obtain ⟨x1, f1⟩ := cells_blk (n := 0) hX 1
    obtain ⟨x2, f2⟩ := cells_blk (n := 0) hX 2
    obtain ⟨x3, f3⟩ := cells_blk (n := 0) hX 3
    obtain ⟨x4, f4⟩ := cells_blk (n := 0) hX 4
    obtain ⟨x5, f5⟩ := cells_blk (n := 0) hX 5
    obtain ⟨x6, f6⟩ := cells_blk (n := 0) hX 6
    obtain ⟨x7, f7⟩ := cells_blk (n := 0) hX 7
    obtain ⟨x8, f8⟩ := cells_blk (n := 0) hX 8
    obtain ⟨x9, f9⟩ := cells_blk (n := 0) hX 9
    obtain ⟨y0, h0⟩ := cells_blk (n := 0) hres 0
    obtain ⟨y1, h1⟩ := cells_blk (n := 0) hres 1
    obtain ⟨y2, h2⟩ := cells_blk (n := 0) hres 2
    obtain ⟨y3, h3⟩ := cells_blk (n := 0) hres 3
    obtain ⟨y4, h4⟩ := cells_blk (n := 0) hres 4
    obtain ⟨y5, h5⟩ := cells_blk (n := 0) hres 5
    obtain ⟨y6, h6⟩ := cells_blk (n := 0) hres 6
    obtain ⟨y7, h7⟩ := cells_blk (n := 0) hres 7
    obtain ⟨y8, h8⟩ := cells_blk (n := 0) hres 8
    obtain ⟨y9, h9⟩ := cells_blk (n := 0) hres 9
    simp only [List.getElem?_toArray, List.getElem?_cons_zero, List.getElem?_cons_succ] at x0 x1 x2 x3 x4 x5 x6 x7 x8 x9 y0 y1 y2 y3 y4 y5 y6 y7 y8 y9
    have hne1 : w.heap.size ≠ B := by omega
    have hne2 : B ≠ w.heap.size := by omega
    have HX := hide hX
    have HR := hide hres
    clear hX hres
    by_cases hkd : k = 2
    · subst hkd
      go_wp2_with fail
      go_cut [3] (fun pv W => JobBK true R (w.alloc (.cells #[.int .i64 0, .int .i64 0, .int .i64 0, .int .i64 0, .int .i64 0, .int .i64 0, .int .i64 0, .bool false, .int .i64 0, .int .i64 0] 36)) a len cap (p + 2) pv W)
      case first =>
        have hst : AllSt R ([PIs (.pointer (some ⟨B, 3, none⟩)), PIs (.int .i64 z), PIs (.pointer (some ⟨R, 0, none⟩)), PInt 0 3, PAny, PIs (.pointer (some ⟨R, 0, none⟩)), PInt 0 3, PInt 1 4, PAny, PIs (.pointer (some ⟨B, 4, none⟩)), PAny]) := ⟨st_is _ _, st_is _ _, st_is _ _, st_int _ _ _, st_any _, st_is _ _, st_int _ _ _, st_int _ _ _, st_any _, st_is _ _, st_any _, trivial⟩
        have hRw : R < wa.heap.size := by omega
        refine wp_region_last (by kernel_rfl) (by kernel_rfl) (by kernel_rfl) (Drawing R wa.heap.size a len cap p' wa ([PIs (.pointer (some ⟨B, 3, none⟩)), PIs (.int .i64 z), PIs (.pointer (some ⟨R, 0, none⟩)), PInt 0 3, PAny, PIs (.pointer (some ⟨R, 0, none⟩)), PInt 0 3, PInt 1 4, PAny, PIs (.pointer (some ⟨B, 4, none⟩)), PAny]) [3, 6] (fun V => #[.pointer (some ⟨R, 0, none⟩), undef, .pointer (some ⟨w.heap.size, 0, none⟩), .pointer (some ⟨B, 0, none⟩), u4, u5, u6, u7, u8, u9, u10, u11, u12, u13, u14, u15, u16, u17, u18, u19, u20, u21, u22, u23, u24, u25, u26, u27, u28, u29, u30, u31, u32, u33, u34, u35, u36, u37, .pointer (some ⟨B, 2, none⟩), .int .i64 2, .bool true, V 0, V 1, V 2, V 3, V 4, V 5, V 6, V 7, V 8, V 9, u51, u52, u53, u54, u55, u56, u57, u58, u59, u60, u61, u62, u63, u64, u65, u66, u67, u68, u69, u70, u71, u72, u73, u74]) []) ?_ ?_
        · refine ⟨fun j => [u41, u42, u43, u44, u45, u46, u47, u48, u49, u50].getD j undef, rfl, ?_, ⟨(Below.refl _ _).drew, fun _ _ _ => rfl⟩, ?_, ?_, p', ?_, ?_⟩
          · intro j hj
            exact absurd hj (by simp)
          · simp
          · omega
          · omega
          · exact ⟨hd.1, hd.2, hd.3, hd.4, hd.5, hd.6, hd.7⟩
        refine ⟨?_, ?_, ?_, ?_, ?_, ?_, ?_, ?_, ?_, ?_, ?_⟩
        · intro L ac W hI hL hA K' hK
          obtain ⟨V, rfl, hP, hk, hB, hR, hr⟩ := hI
          go_simp
          refine hK.out _ _ (Drawing.pure (i := 0) (.pointer (some ⟨B, 3, none⟩)) hP hk hB hR hr rfl ?_)
          simp [put1]
        · intro L ac W hI hL hA K' hK
          obtain ⟨V, rfl, hP, hk, hB, hR, hr⟩ := hI
          have e0 : V 0 = (.pointer (some ⟨B, 3, none⟩)) := hP 0 (hA ⟨0, .data⟩ (by simp) rfl)
          simp only [e0]
          have hc9 : W.cell? ⟨B, 3, none⟩ = some (.int .i64 z) := (hk.cell hlt (by omega)).trans x3
          go_simp
          refine hK.out _ _ (Drawing.pure (i := 1) (.int .i64 z) hP hk hB hR hr rfl ?_)
          simp [put1, e0]
        · intro L ac W hI hL hA K' hK
          obtain ⟨V, rfl, hP, hk, hB, hR, hr⟩ := hI
          go_simp
          refine hK.out _ _ (Drawing.pure (i := 2) (.pointer (some ⟨R, 0, none⟩)) hP hk hB hR hr rfl ?_)
          simp [put1]
        · intro L ac W hI hL hA K' hK
          obtain ⟨V, rfl, hP, hk, hB, hR, hr⟩ := hI
          have e2 : V 2 = (.pointer (some ⟨R, 0, none⟩)) := hP 2 (hA ⟨2, .data⟩ (by simp) rfl)
          simp only [e2]
          obtain ⟨p', hp', hd⟩ := hr
          have hlt := cntL_lt (i := 3) hL [3, 6] (by decide)
          have hcn := cntL_len L [3, 6]
          simp only [List.length_cons, List.length_nil] at hcn
          go_simp
          (go_at_call 14; refine (pick_any R a len cap p' 4 W (by omega) (by omega) hd).mono ?_; rintro e' W' ⟨x, rfl, x0, x1, kW, rW⟩)
          (try go_wp2_with fail)
          refine hK.out _ _ (Drawing.drew (i := 3) (.int .i64 x) hst hP hk hB hR kW ⟨p' + 1, by omega, rW (by omega)⟩ ⟨x, rfl, by omega, by omega⟩ ?_)
          simp [put1, e2]
        · intro L ac W hI hL hA K' hK
          obtain ⟨V, rfl, hP, hk, hB, hR, hr⟩ := hI
          have e1 : V 1 = (.int .i64 z) := hP 1 (hA ⟨1, .data⟩ (by simp) rfl)
          obtain ⟨z3, e3, lo3, hi3⟩ := (show PInt 0 3 (V 3) W from hP 3 (hA ⟨3, .data⟩ (by simp) rfl))
          simp only [e1, e3]
          go_simp
          refine hK.out _ _ (Drawing.pure (i := 4) (.int .i64 (IntKind.i64.wrap (z + z3))) hP hk hB hR hr ⟨_, rfl⟩ ?_)
          simp [put1, e1, e3]
        · intro L ac W hI hL hA K' hK
          obtain ⟨V, rfl, hP, hk, hB, hR, hr⟩ := hI
          go_simp
          refine hK.out _ _ (Drawing.pure (i := 5) (.pointer (some ⟨R, 0, none⟩)) hP hk hB hR hr rfl ?_)
          simp [put1]
        · intro L ac W hI hL hA K' hK
          obtain ⟨V, rfl, hP, hk, hB, hR, hr⟩ := hI
          have e5 : V 5 = (.pointer (some ⟨R, 0, none⟩)) := hP 5 (hA ⟨5, .data⟩ (by simp) rfl)
          simp only [e5]
          obtain ⟨p', hp', hd⟩ := hr
          have hlt := cntL_lt (i := 6) hL [3, 6] (by decide)
          have hcn := cntL_len L [3, 6]
          simp only [List.length_cons, List.length_nil] at hcn
          go_simp
          (go_at_call 14; refine (pick_any R a len cap p' 4 W (by omega) (by omega) hd).mono ?_; rintro e' W' ⟨x, rfl, x0, x1, kW, rW⟩)
          (try go_wp2_with fail)
          refine hK.out _ _ (Drawing.drew (i := 6) (.int .i64 x) hst hP hk hB hR kW ⟨p' + 1, by omega, rW (by omega)⟩ ⟨x, rfl, by omega, by omega⟩ ?_)
          simp [put1, e5]
        · intro L ac W hI hL hA K' hK
          obtain ⟨V, rfl, hP, hk, hB, hR, hr⟩ := hI
          obtain ⟨z6, e6, lo6, hi6⟩ := (show PInt 0 3 (V 6) W from hP 6 (hA ⟨6, .data⟩ (by simp) rfl))
          simp only [e6]
          have hw9 : IntKind.i64.wrap (1 + z6) = 1 + z6 := by rw [IntKind.wrap_i64]; omega
          go_simp
          (try rw [hw9])
          refine hK.out _ _ (Drawing.pure (i := 7) (.int .i64 (1 + z6)) hP hk hB hR hr ⟨_, rfl, by omega, by omega⟩ ?_)
          simp [put1, e6]
        · intro L ac W hI hL hA K' hK
          obtain ⟨V, rfl, hP, hk, hB, hR, hr⟩ := hI
          obtain ⟨z4, e4⟩ := (show PAny (V 4) W from hP 4 (hA ⟨4, .data⟩ (by simp) rfl))
          obtain ⟨z7, e7, lo7, hi7⟩ := (show PInt 1 4 (V 7) W from hP 7 (hA ⟨7, .data⟩ (by simp) rfl))
          simp only [e4, e7]
          have hz9 : ¬ z7 = 0 := by omega
          go_simp
          refine hK.out _ _ (Drawing.pure (i := 8) (.int .i64 (IntKind.i64.wrap (z4.tdiv z7))) hP hk hB hR hr ⟨_, rfl⟩ ?_)
          simp [put1, e4, e7]
        · intro L ac W hI hL hA K' hK
          obtain ⟨V, rfl, hP, hk, hB, hR, hr⟩ := hI
          go_simp
          refine hK.out _ _ (Drawing.pure (i := 9) (.pointer (some ⟨B, 4, none⟩)) hP hk hB hR hr rfl ?_)
          simp [put1]
        · intro L ac W hI hA K' hK
          obtain ⟨V, rfl, hP, hk3, hB3, hR3, p3, hp3, hd3⟩ := hI
          obtain ⟨z8, e8⟩ := (show PAny (V 8) W from hP 8 (hA 8 (by decide)))
          have e9 : V 9 = .pointer (some ⟨B, 4, none⟩) := hP 9 (hA 9 (by decide))
          have hcn := cntL_len L [3, 6]
          simp only [List.length_cons, List.length_nil] at hcn
          have hX3 : W.heap[B]? = _ := (hk3.all B hlt (by omega)).trans (unhide HX)
          obtain ⟨c4, d4⟩ := cells_blk (n := 0) hX3 4
          simp only [List.getElem?_toArray, List.getElem?_cons_zero, List.getElem?_cons_succ] at c4
          simp only [e8, e9]
          go_simp
          refine hK.out _ _ ?_
          go_wp2
          go_meet
          refine ⟨B, s, t, 2, z, z8, l, e, b, v, r, rfl, by simp; omega, unhide HJR, (fun h9 => absurd rfl h9), (fun _ => rfl), Joins.block_setCell hX3 _, kp_setB (hk.trans hk3) (by omega) (by simp; omega), p3, by omega, rd_setB hd3 (by omega)⟩
      case rest =>
        rename World => wb
        clear x0 x1 x2 x3 x4 x5 x6 x7 x8 x9 y0 y1 y2 y3 y4 y5 y6 y7 y8 y9 f0 f1 f2 f3 f4 f5 f6 f7 f8 f9 h0 h1 h2 h3 h4 h5 h6 h7 h8 h9
        obtain ⟨B, s, t, k, z, q, l, e, b, v, r, rfl, hB, hJR, hq0, hk2, hX, hk, p', hp', hd⟩ := hcut
        have HKK := hide (hk2 rfl)
        have HJR := hide hJR
        have HZB := hide hJR.2.2.2.1
        clear hJR hq0 hk2
        have hB' : w.heap.size + 1 ≤ B := by simpa using hB
        clear hB
        have hlt := heap_lt hX
        have hres : wb.heap[w.heap.size]? = some (.cells #[.int .i64 0, .int .i64 0, .int .i64 0, .int .i64 0, .int .i64 0, .int .i64 0, .int .i64 0, .bool false, .int .i64 0, .int .i64 0] 36 (0, 0)) := (hk.all _ (by simp) (by omega)).trans (heap_alloc_new _ _)
        obtain ⟨x0, f0⟩ := cells_blk (n := 0) hX 0
        obtain ⟨x1, f1⟩ := cells_blk (n := 0) hX 1
        obtain ⟨x2, f2⟩ := cells_blk (n := 0) hX 2
        obtain ⟨x3, f3⟩ := cells_blk (n := 0) hX 3
        obtain ⟨x4, f4⟩ := cells_blk (n := 0) hX 4
        obtain ⟨x5, f5⟩ := cells_blk (n := 0) hX 5
        obtain ⟨x6, f6⟩ := cells_blk (n := 0) hX 6
        obtain ⟨x7, f7⟩ := cells_blk (n := 0) hX 7
        obtain ⟨x8, f8⟩ := cells_blk (n := 0) hX 8
        obtain ⟨x9, f9⟩ := cells_blk (n := 0) hX 9
        obtain ⟨y0, h0⟩ := cells_blk (n := 0) hres 0
        obtain ⟨y1, h1⟩ := cells_blk (n := 0) hres 1
        obtain ⟨y2, h2⟩ := cells_blk (n := 0) hres 2
        obtain ⟨y3, h3⟩ := cells_blk (n := 0) hres 3
        obtain ⟨y4, h4⟩ := cells_blk (n := 0) hres 4
        obtain ⟨y5, h5⟩ := cells_blk (n := 0) hres 5
        obtain ⟨y6, h6⟩ := cells_blk (n := 0) hres 6
        obtain ⟨y7, h7⟩ := cells_blk (n := 0) hres 7
        obtain ⟨y8, h8⟩ := cells_blk (n := 0) hres 8
        obtain ⟨y9, h9⟩ := cells_blk (n := 0) hres 9
        simp only [List.getElem?_toArray, List.getElem?_cons_zero, List.getElem?_cons_succ] at x0 x1 x2 x3 x4 x5 x6 x7 x8 x9 y0 y1 y2 y3 y4 y5 y6 y7 y8 y9
        have hne1 : w.heap.size ≠ B := by omega
        have hne2 : B ≠ w.heap.size := by omega
        have HX := hide hX
        have HR := hide hres
        clear hX hres
        have fin : ∀ (q' : Int) (W : World), stepB 2 z q' = true → Kp R w W → Rd R W a len cap p' → JobPK R w a len cap p (.returned (.agg #[.int .i64 s, .int .i64 t, .int .i64 k, .int .i64 z, .int .i64 q', .int .i64 l, .int .i64 e, .bool b, .int .i64 v, .int .i64 r])) W := fun q' W hsp h1 h2 => ⟨s, t, k, z, q', l, e, b, v, r, rfl, okJob_of (unhide HJR) (by rw [unhide HKK]; exact hsp), h1, p', by omega, h2⟩
        have hkw : Kp R w wb := (Kp.of_bel (Nat.le_of_lt hR0) (bel_one w _)).trans hk
        by_cases c1 : q < 1
        · go_wp2
          refine bodyPost_ret (v := .agg #[.int .i64 s, .int .i64 t, .int .i64 k, .int .i64 z, .int .i64 (wrap64 ((wrap64 (z + 1)).tdiv 2)), .int .i64 l, .int .i64 e, .bool b, .int .i64 v, .int .i64 r]) (by simp (maxDischargeDepth := 9) [results, Tryz.results21, go_sem, *]) rfl ?_
          exact fin _ _ (half_step (unhide HZB)) (kp_setB (kp_setB (kp_setB (kp_setB (kp_setB (kp_setB (kp_setB (kp_setB (kp_setB (kp_setB (kp_setB (o := 4) (B := B) hkw (by omega) (by omega)) hR0 (Nat.le_refl _)) hR0 (Nat.le_refl _)) hR0 (Nat.le_refl _)) hR0 (Nat.le_refl _)) hR0 (Nat.le_refl _)) hR0 (Nat.le_refl _)) hR0 (Nat.le_refl _)) hR0 (Nat.le_refl _)) hR0 (Nat.le_refl _)) hR0 (Nat.le_refl _)) (rd_setB (rd_setB (rd_setB (rd_setB (rd_setB (rd_setB (rd_setB (rd_setB (rd_setB (rd_setB (rd_setB (o := 4) (B := B) hd (by omega)) hR0) hR0) hR0) hR0) hR0) hR0) hR0) hR0) hR0) hR0)
        · by_cases c2 : wrap64 (4 * q) < z
          · go_wp2
            refine bodyPost_ret (v := .agg #[.int .i64 s, .int .i64 t, .int .i64 k, .int .i64 z, .int .i64 (wrap64 ((wrap64 (z + 1)).tdiv 2)), .int .i64 l, .int .i64 e, .bool b, .int .i64 v, .int .i64 r]) (by simp (maxDischargeDepth := 9) [results, Tryz.results21, go_sem, *]) rfl ?_
            exact fin _ _ (half_step (unhide HZB)) (kp_setB (kp_setB (kp_setB (kp_setB (kp_setB (kp_setB (kp_setB (kp_setB (kp_setB (kp_setB (kp_setB (o := 4) (B := B) hkw (by omega) (by omega)) hR0 (Nat.le_refl _)) hR0 (Nat.le_refl _)) hR0 (Nat.le_refl _)) hR0 (Nat.le_refl _)) hR0 (Nat.le_refl _)) hR0 (Nat.le_refl _)) hR0 (Nat.le_refl _)) hR0 (Nat.le_refl _)) hR0 (Nat.le_refl _)) hR0 (Nat.le_refl _)) (rd_setB (rd_setB (rd_setB (rd_setB (rd_setB (rd_setB (rd_setB (rd_setB (rd_setB (rd_setB (rd_setB (o := 4) (B := B) hd (by omega)) hR0) hR0) hR0) hR0) hR0) hR0) hR0) hR0) hR0) hR0)
          · by_cases c3 : z < q
            · go_wp2
              refine bodyPost_ret (v := .agg #[.int .i64 s, .int .i64 t, .int .i64 k, .int .i64 z, .int .i64 (wrap64 ((wrap64 (z + 1)).tdiv 2)), .int .i64 l, .int .i64 e, .bool b, .int .i64 v, .int .i64 r]) (by simp (maxDischargeDepth := 9) [results, Tryz.results21, go_sem, *]) rfl ?_
              exact fin _ _ (half_step (unhide HZB)) (kp_setB (kp_setB (kp_setB (kp_setB (kp_setB (kp_setB (kp_setB (kp_setB (kp_setB (kp_setB (kp_setB (o := 4) (B := B) hkw (by omega) (by omega)) hR0 (Nat.le_refl _)) hR0 (Nat.le_refl _)) hR0 (Nat.le_refl _)) hR0 (Nat.le_refl _)) hR0 (Nat.le_refl _)) hR0 (Nat.le_refl _)) hR0 (Nat.le_refl _)) hR0 (Nat.le_refl _)) hR0 (Nat.le_refl _)) hR0 (Nat.le_refl _)) (rd_setB (rd_setB (rd_setB (rd_setB (rd_setB (rd_setB (rd_setB (rd_setB (rd_setB (rd_setB (rd_setB (o := 4) (B := B) hd (by omega)) hR0) hR0) hR0) hR0) hR0) hR0) hR0) hR0) hR0) hR0)
            · have hs2 := hide (own_step2 (unhide HZB) c1 c2 c3)
              go_wp2
              refine bodyPost_ret (v := .agg #[.int .i64 s, .int .i64 t, .int .i64 k, .int .i64 z, .int .i64 q, .int .i64 l, .int .i64 e, .bool b, .int .i64 v, .int .i64 r]) (by simp (maxDischargeDepth := 9) [results, Tryz.results21, go_sem, *]) rfl ?_
              exact fin q _ (unhide hs2) (kp_setB (kp_setB (kp_setB (kp_setB (kp_setB (kp_setB (kp_setB (kp_setB (kp_setB (kp_setB hkw hR0 (Nat.le_refl _)) hR0 (Nat.le_refl _)) hR0 (Nat.le_refl _)) hR0 (Nat.le_refl _)) hR0 (Nat.le_refl _)) hR0 (Nat.le_refl _)) hR0 (Nat.le_refl _)) hR0 (Nat.le_refl _)) hR0 (Nat.le_refl _)) hR0 (Nat.le_refl _)) (rd_setB (rd_setB (rd_setB (rd_setB (rd_setB (rd_setB (rd_setB (rd_setB (rd_setB (rd_setB hd hR0) hR0) hR0) hR0) hR0) hR0) hR0) hR0) hR0) hR0)
    · have hq := unhide HQ0 hkd
      clear HK2
      go_wp2
      refine bodyPost_ret (v := .agg #[.int .i64 s, .int .i64 t, .int .i64 k, .int .i64 z, .int .i64 q, .int .i64 l, .int .i64 e, .bool b, .int .i64 v, .int .i64 r]) (by simp (maxDischargeDepth := 9) [results, Tryz.results21, go_sem, *]) rfl ?_
      exact ⟨s, t, k, z, q, l, e, b, v, r, rfl, okJob_of (unhide HJR) (by rw [stepB_n hkd, unhide HQ0 hkd]; rfl), (kp_setB (kp_setB (kp_setB (kp_setB (kp_setB (kp_setB (kp_setB (kp_setB (kp_setB (kp_setB ((Kp.of_bel (Nat.le_of_lt hR0) (bel_one w _)).trans hk) hR0 (Nat.le_refl _)) hR0 (Nat.le_refl _)) hR0 (Nat.le_refl _)) hR0 (Nat.le_refl _)) hR0 (Nat.le_refl _)) hR0 (Nat.le_refl _)) hR0 (Nat.le_refl _)) hR0 (Nat.le_refl _)) hR0 (Nat.le_refl _)) hR0 (Nat.le_refl _)), p', by omega, (rd_setB (rd_setB (rd_setB (rd_setB (rd_setB (rd_setB (rd_setB (rd_setB (rd_setB (rd_setB hd hR0) hR0) hR0) hR0) hR0) hR0) hR0) hR0) hR0) hR0)⟩
end Go.Proofs.YtcokdcehjibanaaGreatDoor
/- Proved here: any job is drawn. -/
namespace Go.Proofs.YtcokdcehjibanaaGreatDoor
open Go.ChangeShapes Go.WideShapes Go.ChangeAt Go.RowKit
set_option linter.unusedVariables false

theorem elm1_0_3_4_5_21_10_1_ (y : Int) (h3 : 0 ≤ y) (h4 : y < 8) : ∃ t : Int, (#[Value.int .i64 (-1), Value.int .i64 0, Value.int .i64 3, Value.int .i64 4, Value.int .i64 5, Value.int .i64 21, Value.int .i64 10, Value.int .i64 1] : Array Value)[y.toNat]? = some (.int .i64 t) ∧ (-1) ≤ t ∧ t ≤ 21 := by
  obtain rfl | rfl | rfl | rfl | rfl | rfl | rfl | rfl : y = 0 ∨ y = 1 ∨ y = 2 ∨ y = 3 ∨ y = 4 ∨ y = 5 ∨ y = 6 ∨ y = 7 := by omega
  · exact ⟨(-1), rfl, by decide, by decide⟩
  · exact ⟨0, rfl, by decide, by decide⟩
  · exact ⟨3, rfl, by decide, by decide⟩
  · exact ⟨4, rfl, by decide, by decide⟩
  · exact ⟨5, rfl, by decide, by decide⟩
  · exact ⟨21, rfl, by decide, by decide⟩
  · exact ⟨10, rfl, by decide, by decide⟩
  · exact ⟨1, rfl, by decide, by decide⟩

def AnyJobP (R : Nat) (w : World) (a : Option Addr) (len cap p : Nat) (e' : Ending) (w' : World) : Prop := ∃ (s t k z q l e : Int) (b : Bool) (v r : Int), e' = .returned (.agg #[.int .i64 s, .int .i64 t, .int .i64 k, .int .i64 z, .int .i64 q, .int .i64 l, .int .i64 e, .bool b, .int .i64 v, .int .i64 r]) ∧ Kp R w w' ∧ ∃ p', p' ≤ p + 14 ∧ Rd R w' a len cap p'

set_option linter.unusedSimpArgs false in
set_option maxRecDepth 20000 in
set_option maxHeartbeats 16000000 in
theorem anyjob_any (R : Nat) (a : Option Addr) (len cap p : Nat) (n : Int) (w : World) (hn : 1 ≤ n) (hn2 : n ≤ 100000) (hp : p ≤ 800000) (hR0 : R < w.heap.size) (h : Rd R w a len cap p) : Calls Tryz.prog 28 #[.pointer (some ⟨R, 0, none⟩), .int .i64 n] w fun e w' => AnyJobP R w a len cap p e w' := by
  have hb0 : Below w.heap.size w (w.alloc (.cells #[.int .i64 0, .int .i64 0, .int .i64 0, .int .i64 0, .int .i64 0, .int .i64 0, .int .i64 0, .bool false, .int .i64 0, .int .i64 0] 36)) := bel_one _ _
  have k0 : Kp R w (w.alloc (.cells #[.int .i64 0, .int .i64 0, .int .i64 0, .int .i64 0, .int .i64 0, .int .i64 0, .int .i64 0, .bool false, .int .i64 0, .int .i64 0] 36)) := Kp.of_bel (Nat.le_of_lt hR0) hb0
  have hn0 : w.heap.size ≠ R := by omega
  go_enter Tryz.func28, Tryz.ntmps28
  go_wp2_with fail
  refine (job_any R a len cap p _ (by omega) (by simp; omega) (h.kp hR0 hb0)).mono ?_
  rintro e' wa ⟨s, t, k, z, q, l, e, b, v, r, rfl, ka, pa, hpa, da⟩
  have za : w.heap.size < wa.heap.size := by have h9 := ka.low.size; simp at h9; omega
  have hBa : Below wa.heap.size wa (wa.alloc (.cells #[.int .i64 s, .int .i64 t, .int .i64 k, .int .i64 z, .int .i64 q, .int .i64 l, .int .i64 e, .bool b, .int .i64 v, .int .i64 r] 36)) := bel_one _ _
  have hRa : (wa.alloc (.cells #[.int .i64 s, .int .i64 t, .int .i64 k, .int .i64 z, .int .i64 q, .int .i64 l, .int .i64 e, .bool b, .int .i64 v, .int .i64 r] 36)).heap[w.heap.size]? = some (.cells #[.int .i64 0, .int .i64 0, .int .i64 0, .int .i64 0, .int .i64 0, .int .i64 0, .int .i64 0, .bool false, .int .i64 0, .int .i64 0] 36 (0, 0)) := (hBa.block _ za).trans ((ka.all _ (by simp) hn0).trans (heap_alloc_new _ _))
  have hXa : (wa.alloc (.cells #[.int .i64 s, .int .i64 t, .int .i64 k, .int .i64 z, .int .i64 q, .int .i64 l, .int .i64 e, .bool b, .int .i64 v, .int .i64 r] 36)).heap[wa.heap.size]? = some (.cells #[.int .i64 s, .int .i64 t, .int .i64 k, .int .i64 z, .int .i64 q, .int .i64 l, .int .i64 e, .bool b, .int .i64 v, .int .i64 r] 36 (0, 0)) := heap_alloc_new _ _
  have HD := hide (da.kp (by omega) hBa)
  have HK := hide ((k0.trans ka).trans (Kp.of_bel (by omega) hBa))
  clear da ka
  go_wp2_with fail
  refine (pick_any R a len cap pa n _ hn hn2 (unhide HD)).mono ?_
  rintro e' wb ⟨x, rfl, x0', x1', kb, rb⟩
  have zb : wa.heap.size < wb.heap.size := by have h9 := kb.low.size; simp at h9; omega
  have hRb : wb.heap[w.heap.size]? = some (.cells #[.int .i64 0, .int .i64 0, .int .i64 0, .int .i64 0, .int .i64 0, .int .i64 0, .int .i64 0, .bool false, .int .i64 0, .int .i64 0] 36 (0, 0)) := (kb.all _ (by simp; omega) hn0).trans hRa
  have hXb : wb.heap[wa.heap.size]? = some (.cells #[.int .i64 s, .int .i64 t, .int .i64 k, .int .i64 z, .int .i64 q, .int .i64 l, .int .i64 e, .bool b, .int .i64 v, .int .i64 r] 36 (0, 0)) := (kb.all _ (by simp) (by omega)).trans hXa
  have hKb := hide ((unhide HK).trans kb)
  have hDb := hide (rb (by omega))
  clear HK HD kb rb hRa hXa
  have ne1 : w.heap.size ≠ wa.heap.size := by omega
  have ne2 : wa.heap.size ≠ w.heap.size := by omega
  by_cases hx : 0 < x
  · have hK := unhide hKb
    have hD := unhide hDb
    have hP : pa + 1 ≤ p + 14 := by omega
    clear hKb hDb
    obtain ⟨x0, f0⟩ := cells_blk (n := 0) hXb 0
    obtain ⟨x1, f1⟩ := cells_blk (n := 0) hXb 1
    obtain ⟨x2, f2⟩ := cells_blk (n := 0) hXb 2
    obtain ⟨x3, f3⟩ := cells_blk (n := 0) hXb 3
    obtain ⟨x4, f4⟩ := cells_blk (n := 0) hXb 4
    obtain ⟨x5, f5⟩ := cells_blk (n := 0) hXb 5
    obtain ⟨x6, f6⟩ := cells_blk (n := 0) hXb 6
    obtain ⟨x7, f7⟩ := cells_blk (n := 0) hXb 7
    obtain ⟨x8, f8⟩ := cells_blk (n := 0) hXb 8
    obtain ⟨x9, f9⟩ := cells_blk (n := 0) hXb 9
    simp only [List.getElem?_toArray, List.getElem?_cons_zero, List.getElem?_cons_succ] at x0 x1 x2 x3 x4 x5 x6 x7 x8 x9
    obtain ⟨y0, h0⟩ := cells_blk (n := 0) hRb 0
    obtain ⟨y1, h1⟩ := cells_blk (n := 0) hRb 1
    obtain ⟨y2, h2⟩ := cells_blk (n := 0) hRb 2
    obtain ⟨y3, h3⟩ := cells_blk (n := 0) hRb 3
    obtain ⟨y4, h4⟩ := cells_blk (n := 0) hRb 4
    obtain ⟨y5, h5⟩ := cells_blk (n := 0) hRb 5
    obtain ⟨y6, h6⟩ := cells_blk (n := 0) hRb 6
    obtain ⟨y7, h7⟩ := cells_blk (n := 0) hRb 7
    obtain ⟨y8, h8⟩ := cells_blk (n := 0) hRb 8
    obtain ⟨y9, h9⟩ := cells_blk (n := 0) hRb 9
    simp only [List.getElem?_toArray, List.getElem?_cons_zero, List.getElem?_cons_succ] at y0 y1 y2 y3 y4 y5 y6 y7 y8 y9
    have y9 := y9
    have HH := hide (And.intro hK hD)
    clear hK hD
    go_wp2
    obtain ⟨hK, hD⟩ := unhide HH
    refine bodyPost_ret (v := .agg #[.int .i64 s, .int .i64 t, .int .i64 k, .int .i64 z, .int .i64 q, .int .i64 l, .int .i64 e, .bool b, .int .i64 v, .int .i64 r]) (by simp (maxDischargeDepth := 9) [results, Tryz.results28, go_sem, *]) rfl ?_
    exact ⟨_, _, _, _, _, _, _, _, _, _, rfl, (kp_setB (kp_setB (kp_setB (kp_setB (kp_setB (kp_setB (kp_setB (kp_setB (kp_setB (kp_setB hK hR0 (Nat.le_refl _)) hR0 (Nat.le_refl _)) hR0 (Nat.le_refl _)) hR0 (Nat.le_refl _)) hR0 (Nat.le_refl _)) hR0 (Nat.le_refl _)) hR0 (Nat.le_refl _)) hR0 (Nat.le_refl _)) hR0 (Nat.le_refl _)) hR0 (Nat.le_refl _)), _, hP, (rd_setB (rd_setB (rd_setB (rd_setB (rd_setB (rd_setB (rd_setB (rd_setB (rd_setB (rd_setB hD hR0) hR0) hR0) hR0) hR0) hR0) hR0) hR0) hR0) hR0)⟩
  · have hx0 : x = 0 := by omega
    subst hx0
    have hBb : Below wb.heap.size wb (wb.alloc (.cells #[.int .i64 (-1), .int .i64 0, .int .i64 3, .int .i64 4, .int .i64 5, .int .i64 21, .int .i64 10, .int .i64 1] 3)) := bel_one _ _
    go_wp2_with fail
    refine (pick_any R a len cap (pa + 1) 8 _ (by decide) (by decide) ((unhide hDb).kp (by omega) hBb)).mono ?_
    rintro e' wc ⟨x, rfl, xx0, xx1, kc, rc⟩
    have hS : wc.heap[wb.heap.size]? = some (.cells #[.int .i64 (-1), .int .i64 0, .int .i64 3, .int .i64 4, .int .i64 5, .int .i64 21, .int .i64 10, .int .i64 1] 3 (0, 0)) := (kc.all _ (by simp) (by omega)).trans (heap_alloc_new _ _)
    obtain ⟨t9, hz, zl, zu⟩ := elm1_0_3_4_5_21_10_1_ x xx0 xx1
    have hc9 := (cells_blk (n := 0) hS x.toNat).1.trans hz
    have hix1 : ¬ x < 0 := by omega
    have hix2 : x.toNat < 8 := by omega
    have hix3 : x < 8 := xx1
    have zc : wb.heap.size < wc.heap.size := by have h9 := kc.low.size; simp at h9; omega
    have hRc : wc.heap[w.heap.size]? = some (.cells #[.int .i64 0, .int .i64 0, .int .i64 0, .int .i64 0, .int .i64 0, .int .i64 0, .int .i64 0, .bool false, .int .i64 0, .int .i64 0] 36 (0, 0)) := (kc.all _ (by simp; omega) hn0).trans ((hBb.block _ (by omega)).trans hRb)
    have hXc : wc.heap[wa.heap.size]? = some (.cells #[.int .i64 s, .int .i64 t, .int .i64 k, .int .i64 z, .int .i64 q, .int .i64 l, .int .i64 e, .bool b, .int .i64 v, .int .i64 r] 36 (0, 0)) := (kc.all _ (by simp; omega) (by omega)).trans ((hBb.block _ (by omega)).trans hXb)
    have hKc := hide (((unhide hKb).trans (Kp.of_bel (by omega) hBb)).trans kc)
    have hDc := hide (rc (by omega))
    clear hKb hDb kc rc hRb hXb hS hz
    go_wp2_with fail
    refine (pick_any R a len cap (pa + 1 + 1) 9 _ (by decide) (by decide) (unhide hDc)).mono ?_
    rintro e' wd ⟨y, rfl, yy0, yy1, kd, rd⟩
    have zd : wc.heap.size ≤ wd.heap.size := kd.low.size
    have hRd : wd.heap[w.heap.size]? = some (.cells #[.int .i64 0, .int .i64 0, .int .i64 0, .int .i64 0, .int .i64 0, .int .i64 0, .int .i64 0, .bool false, .int .i64 0, .int .i64 0] 36 (0, 0)) := (kd.all _ (by omega) hn0).trans hRc
    have hXd : wd.heap[wa.heap.size]? = some (.cells #[.int .i64 s, .int .i64 t, .int .i64 k, .int .i64 z, .int .i64 q, .int .i64 l, .int .i64 e, .bool b, .int .i64 v, .int .i64 r] 36 (0, 0)) := (kd.all _ (by omega) (by omega)).trans hXc
    have hKd := hide ((unhide hKc).trans kd)
    have hDd := hide (rd (by omega))
    clear hKc hDc kd rd hRc hXc hc9
    have hP : pa + 1 + 1 + 1 ≤ p + 14 := by omega
    have lt1 : w.heap.size < wd.heap.size := by omega
    have lt2 : wa.heap.size < wd.heap.size := by omega
    have HX := hide hXd
    have HR := hide hRd
    obtain ⟨x0, f0⟩ := cells_blk (n := 0) hXd 0
    obtain ⟨x1, f1⟩ := cells_blk (n := 0) hXd 1
    obtain ⟨x2, f2⟩ := cells_blk (n := 0) hXd 2
    obtain ⟨x3, f3⟩ := cells_blk (n := 0) hXd 3
    obtain ⟨x4, f4⟩ := cells_blk (n := 0) hXd 4
    obtain ⟨x5, f5⟩ := cells_blk (n := 0) hXd 5
    obtain ⟨x6, f6⟩ := cells_blk (n := 0) hXd 6
    obtain ⟨x7, f7⟩ := cells_blk (n := 0) hXd 7
    obtain ⟨x8, f8⟩ := cells_blk (n := 0) hXd 8
    obtain ⟨x9, f9⟩ := cells_blk (n := 0) hXd 9
    simp only [List.getElem?_toArray, List.getElem?_cons_zero, List.getElem?_cons_succ] at x0 x1 x2 x3 x4 x5 x6 x7 x8 x9
    obtain ⟨y0, h0⟩ := cells_blk (n := 0) hRd 0
    obtain ⟨y1, h1⟩ := cells_blk (n := 0) hRd 1
    obtain ⟨y2, h2⟩ := cells_blk (n := 0) hRd 2
    obtain ⟨y3, h3⟩ := cells_blk (n := 0) hRd 3
    obtain ⟨y4, h4⟩ := cells_blk (n := 0) hRd 4
    obtain ⟨y5, h5⟩ := cells_blk (n := 0) hRd 5
    obtain ⟨y6, h6⟩ := cells_blk (n := 0) hRd 6
    obtain ⟨y7, h7⟩ := cells_blk (n := 0) hRd 7
    obtain ⟨y8, h8⟩ := cells_blk (n := 0) hRd 8
    obtain ⟨y9, h9⟩ := cells_blk (n := 0) hRd 9
    simp only [List.getElem?_toArray, List.getElem?_cons_zero, List.getElem?_cons_succ] at y0 y1 y2 y3 y4 y5 y6 y7 y8 y9
    clear hXd hRd
    have HH := hide (And.intro (unhide hKd) (unhide hDd))
    clear hKd hDd
    obtain rfl | rfl | rfl | rfl | rfl | rfl | rfl | rfl | rfl : y = 0 ∨ y = 1 ∨ y = 2 ∨ y = 3 ∨ y = 4 ∨ y = 5 ∨ y = 6 ∨ y = 7 ∨ y = 8 := by omega
    · go_wp2
      obtain ⟨hK, hD⟩ := unhide HH
      refine bodyPost_ret (v := .agg #[.int .i64 t9, .int .i64 t, .int .i64 k, .int .i64 z, .int .i64 q, .int .i64 l, .int .i64 e, .bool b, .int .i64 v, .int .i64 r]) (by simp (maxDischargeDepth := 9) [results, Tryz.results28, go_sem, *]) rfl ?_
      exact ⟨_, _, _, _, _, _, _, _, _, _, rfl, (kp_setB (kp_setB (kp_setB (kp_setB (kp_setB (kp_setB (kp_setB (kp_setB (kp_setB (kp_setB (kp_setB (o := 0) (B := wa.heap.size) hK (by omega) (by omega)) hR0 (Nat.le_refl _)) hR0 (Nat.le_refl _)) hR0 (Nat.le_refl _)) hR0 (Nat.le_refl _)) hR0 (Nat.le_refl _)) hR0 (Nat.le_refl _)) hR0 (Nat.le_refl _)) hR0 (Nat.le_refl _)) hR0 (Nat.le_refl _)) hR0 (Nat.le_refl _)), _, hP, (rd_setB (rd_setB (rd_setB (rd_setB (rd_setB (rd_setB (rd_setB (rd_setB (rd_setB (rd_setB (rd_setB (o := 0) (B := wa.heap.size) hD (by omega)) hR0) hR0) hR0) hR0) hR0) hR0) hR0) hR0) hR0) hR0)⟩
    · go_wp2
      obtain ⟨hK, hD⟩ := unhide HH
      refine bodyPost_ret (v := .agg #[.int .i64 s, .int .i64 t9, .int .i64 k, .int .i64 z, .int .i64 q, .int .i64 l, .int .i64 e, .bool b, .int .i64 v, .int .i64 r]) (by simp (maxDischargeDepth := 9) [results, Tryz.results28, go_sem, *]) rfl ?_
      exact ⟨_, _, _, _, _, _, _, _, _, _, rfl, (kp_setB (kp_setB (kp_setB (kp_setB (kp_setB (kp_setB (kp_setB (kp_setB (kp_setB (kp_setB (kp_setB (o := 1) (B := wa.heap.size) hK (by omega) (by omega)) hR0 (Nat.le_refl _)) hR0 (Nat.le_refl _)) hR0 (Nat.le_refl _)) hR0 (Nat.le_refl _)) hR0 (Nat.le_refl _)) hR0 (Nat.le_refl _)) hR0 (Nat.le_refl _)) hR0 (Nat.le_refl _)) hR0 (Nat.le_refl _)) hR0 (Nat.le_refl _)), _, hP, (rd_setB (rd_setB (rd_setB (rd_setB (rd_setB (rd_setB (rd_setB (rd_setB (rd_setB (rd_setB (rd_setB (o := 1) (B := wa.heap.size) hD (by omega)) hR0) hR0) hR0) hR0) hR0) hR0) hR0) hR0) hR0) hR0)⟩
    · go_wp2
      obtain ⟨hK, hD⟩ := unhide HH
      refine bodyPost_ret (v := .agg #[.int .i64 s, .int .i64 t, .int .i64 t9, .int .i64 z, .int .i64 q, .int .i64 l, .int .i64 e, .bool b, .int .i64 v, .int .i64 r]) (by simp (maxDischargeDepth := 9) [results, Tryz.results28, go_sem, *]) rfl ?_
      exact ⟨_, _, _, _, _, _, _, _, _, _, rfl, (kp_setB (kp_setB (kp_setB (kp_setB (kp_setB (kp_setB (kp_setB (kp_setB (kp_setB (kp_setB (kp_setB (o := 2) (B := wa.heap.size) hK (by omega) (by omega)) hR0 (Nat.le_refl _)) hR0 (Nat.le_refl _)) hR0 (Nat.le_refl _)) hR0 (Nat.le_refl _)) hR0 (Nat.le_refl _)) hR0 (Nat.le_refl _)) hR0 (Nat.le_refl _)) hR0 (Nat.le_refl _)) hR0 (Nat.le_refl _)) hR0 (Nat.le_refl _)), _, hP, (rd_setB (rd_setB (rd_setB (rd_setB (rd_setB (rd_setB (rd_setB (rd_setB (rd_setB (rd_setB (rd_setB (o := 2) (B := wa.heap.size) hD (by omega)) hR0) hR0) hR0) hR0) hR0) hR0) hR0) hR0) hR0) hR0)⟩
    · go_wp2
      obtain ⟨hK, hD⟩ := unhide HH
      refine bodyPost_ret (v := .agg #[.int .i64 s, .int .i64 t, .int .i64 k, .int .i64 t9, .int .i64 q, .int .i64 l, .int .i64 e, .bool b, .int .i64 v, .int .i64 r]) (by simp (maxDischargeDepth := 9) [results, Tryz.results28, go_sem, *]) rfl ?_
      exact ⟨_, _, _, _, _, _, _, _, _, _, rfl, (kp_setB (kp_setB (kp_setB (kp_setB (kp_setB (kp_setB (kp_setB (kp_setB (kp_setB (kp_setB (kp_setB (o := 3) (B := wa.heap.size) hK (by omega) (by omega)) hR0 (Nat.le_refl _)) hR0 (Nat.le_refl _)) hR0 (Nat.le_refl _)) hR0 (Nat.le_refl _)) hR0 (Nat.le_refl _)) hR0 (Nat.le_refl _)) hR0 (Nat.le_refl _)) hR0 (Nat.le_refl _)) hR0 (Nat.le_refl _)) hR0 (Nat.le_refl _)), _, hP, (rd_setB (rd_setB (rd_setB (rd_setB (rd_setB (rd_setB (rd_setB (rd_setB (rd_setB (rd_setB (rd_setB (o := 3) (B := wa.heap.size) hD (by omega)) hR0) hR0) hR0) hR0) hR0) hR0) hR0) hR0) hR0) hR0)⟩
    · go_wp2
      obtain ⟨hK, hD⟩ := unhide HH
      refine bodyPost_ret (v := .agg #[.int .i64 s, .int .i64 t, .int .i64 k, .int .i64 z, .int .i64 t9, .int .i64 l, .int .i64 e, .bool b, .int .i64 v, .int .i64 r]) (by simp (maxDischargeDepth := 9) [results, Tryz.results28, go_sem, *]) rfl ?_
      exact ⟨_, _, _, _, _, _, _, _, _, _, rfl, (kp_setB (kp_setB (kp_setB (kp_setB (kp_setB (kp_setB (kp_setB (kp_setB (kp_setB (kp_setB (kp_setB (o := 4) (B := wa.heap.size) hK (by omega) (by omega)) hR0 (Nat.le_refl _)) hR0 (Nat.le_refl _)) hR0 (Nat.le_refl _)) hR0 (Nat.le_refl _)) hR0 (Nat.le_refl _)) hR0 (Nat.le_refl _)) hR0 (Nat.le_refl _)) hR0 (Nat.le_refl _)) hR0 (Nat.le_refl _)) hR0 (Nat.le_refl _)), _, hP, (rd_setB (rd_setB (rd_setB (rd_setB (rd_setB (rd_setB (rd_setB (rd_setB (rd_setB (rd_setB (rd_setB (o := 4) (B := wa.heap.size) hD (by omega)) hR0) hR0) hR0) hR0) hR0) hR0) hR0) hR0) hR0) hR0)⟩
    · go_wp2
      obtain ⟨hK, hD⟩ := unhide HH
      refine bodyPost_ret (v := .agg #[.int .i64 s, .int .i64 t, .int .i64 k, .int .i64 z, .int .i64 q, .int .i64 t9, .int .i64 e, .bool b, .int .i64 v, .int .i64 r]) (by simp (maxDischargeDepth := 9) [results, Tryz.results28, go_sem, *]) rfl ?_
      exact ⟨_, _, _, _, _, _, _, _, _, _, rfl, (kp_setB (kp_setB (kp_setB (kp_setB (kp_setB (kp_setB (kp_setB (kp_setB (kp_setB (kp_setB (kp_setB (o := 5) (B := wa.heap.size) hK (by omega) (by omega)) hR0 (Nat.le_refl _)) hR0 (Nat.le_refl _)) hR0 (Nat.le_refl _)) hR0 (Nat.le_refl _)) hR0 (Nat.le_refl _)) hR0 (Nat.le_refl _)) hR0 (Nat.le_refl _)) hR0 (Nat.le_refl _)) hR0 (Nat.le_refl _)) hR0 (Nat.le_refl _)), _, hP, (rd_setB (rd_setB (rd_setB (rd_setB (rd_setB (rd_setB (rd_setB (rd_setB (rd_setB (rd_setB (rd_setB (o := 5) (B := wa.heap.size) hD (by omega)) hR0) hR0) hR0) hR0) hR0) hR0) hR0) hR0) hR0) hR0)⟩
    · go_wp2
      obtain ⟨hK, hD⟩ := unhide HH
      refine bodyPost_ret (v := .agg #[.int .i64 s, .int .i64 t, .int .i64 k, .int .i64 z, .int .i64 q, .int .i64 l, .int .i64 t9, .bool b, .int .i64 v, .int .i64 r]) (by simp (maxDischargeDepth := 9) [results, Tryz.results28, go_sem, *]) rfl ?_
      exact ⟨_, _, _, _, _, _, _, _, _, _, rfl, (kp_setB (kp_setB (kp_setB (kp_setB (kp_setB (kp_setB (kp_setB (kp_setB (kp_setB (kp_setB (kp_setB (o := 6) (B := wa.heap.size) hK (by omega) (by omega)) hR0 (Nat.le_refl _)) hR0 (Nat.le_refl _)) hR0 (Nat.le_refl _)) hR0 (Nat.le_refl _)) hR0 (Nat.le_refl _)) hR0 (Nat.le_refl _)) hR0 (Nat.le_refl _)) hR0 (Nat.le_refl _)) hR0 (Nat.le_refl _)) hR0 (Nat.le_refl _)), _, hP, (rd_setB (rd_setB (rd_setB (rd_setB (rd_setB (rd_setB (rd_setB (rd_setB (rd_setB (rd_setB (rd_setB (o := 6) (B := wa.heap.size) hD (by omega)) hR0) hR0) hR0) hR0) hR0) hR0) hR0) hR0) hR0) hR0)⟩
    · go_wp2
      obtain ⟨hK, hD⟩ := unhide HH
      refine bodyPost_ret (v := .agg #[.int .i64 s, .int .i64 t, .int .i64 k, .int .i64 z, .int .i64 q, .int .i64 l, .int .i64 e, .bool b, .int .i64 (t9 * 2), .int .i64 r]) (by simp (maxDischargeDepth := 9) [results, Tryz.results28, go_sem, *]) rfl ?_
      exact ⟨_, _, _, _, _, _, _, _, _, _, rfl, (kp_setB (kp_setB (kp_setB (kp_setB (kp_setB (kp_setB (kp_setB (kp_setB (kp_setB (kp_setB (kp_setB (o := 8) (B := wa.heap.size) hK (by omega) (by omega)) hR0 (Nat.le_refl _)) hR0 (Nat.le_refl _)) hR0 (Nat.le_refl _)) hR0 (Nat.le_refl _)) hR0 (Nat.le_refl _)) hR0 (Nat.le_refl _)) hR0 (Nat.le_refl _)) hR0 (Nat.le_refl _)) hR0 (Nat.le_refl _)) hR0 (Nat.le_refl _)), _, hP, (rd_setB (rd_setB (rd_setB (rd_setB (rd_setB (rd_setB (rd_setB (rd_setB (rd_setB (rd_setB (rd_setB (o := 8) (B := wa.heap.size) hD (by omega)) hR0) hR0) hR0) hR0) hR0) hR0) hR0) hR0) hR0) hR0)⟩
    · go_wp2
      obtain ⟨hK, hD⟩ := unhide HH
      refine bodyPost_ret (v := .agg #[.int .i64 s, .int .i64 t, .int .i64 k, .int .i64 z, .int .i64 q, .int .i64 l, .int .i64 e, .bool b, .int .i64 v, .int .i64 t9]) (by simp (maxDischargeDepth := 9) [results, Tryz.results28, go_sem, *]) rfl ?_
      exact ⟨_, _, _, _, _, _, _, _, _, _, rfl, (kp_setB (kp_setB (kp_setB (kp_setB (kp_setB (kp_setB (kp_setB (kp_setB (kp_setB (kp_setB (kp_setB (o := 9) (B := wa.heap.size) hK (by omega) (by omega)) hR0 (Nat.le_refl _)) hR0 (Nat.le_refl _)) hR0 (Nat.le_refl _)) hR0 (Nat.le_refl _)) hR0 (Nat.le_refl _)) hR0 (Nat.le_refl _)) hR0 (Nat.le_refl _)) hR0 (Nat.le_refl _)) hR0 (Nat.le_refl _)) hR0 (Nat.le_refl _)), _, hP, (rd_setB (rd_setB (rd_setB (rd_setB (rd_setB (rd_setB (rd_setB (rd_setB (rd_setB (rd_setB (rd_setB (o := 9) (B := wa.heap.size) hD (by omega)) hR0) hR0) hR0) hR0) hR0) hR0) hR0) hR0) hR0) hR0)⟩

end Go.Proofs.YtcokdcehjibanaaGreatDoor
/- Proved here: logs are drawn, in memory of their own. -/
namespace Go.Proofs.YtcokdcehjibanaaGreatDoor
open Go.ChangeShapes Go.WideShapes Go.ChangeAt Go.RowKit
set_option linter.unusedVariables false
set_option linter.unusedSimpArgs false

theorem LgO.kp {R : Nat} {W W' : World} {B : Nat} {v : Value} {us : List Value} {Ls : List (List It)} (h : LgO W B v us Ls) (hB : R < B) (hb : Kp R W W') : LgO W' B v us Ls :=
  ⟨h.len, ownK h.row hB hb, fun i u l hu hl => ownK (h.own i u l hu hl) hB hb, h.ap⟩
/-- One log is another one. -/
theorem LgO.put {W : World} {B g cap n k : Nat} {u' : Value} {us : List Value} {Ls : List (List It)} {l : List It} (h : LgO W B (.slice (some ⟨g, 0, none⟩) n cap) us Ls) (hn : n = Ls.length) (hk : k < n) (hu' : OwnIts W B u' l) (hap : ∀ (i : Nat) (u2 : Value) (b : Nat), us[i]? = some u2 → u2.ownBlock = some b → u'.ownBlock ≠ some b) : LgO (W.setCell ⟨g, k, none⟩ u') B (.slice (some ⟨g, 0, none⟩) n cap) (us.set k u') (Ls.set k l) := by
  subst hn
  have hll := h.len
  have hrow := World.ownsRow.stored h.row k u'
  have kps : ∀ {u2 : Value} {l2 : List It}, OwnIts W B u2 l2 → OwnIts (W.setCell ⟨g, k, none⟩ u') B u2 l2 := fun h2 => World.ownsRow.kept h2 hrow.2 (lg_ne h2 h.row (by decide))
  refine ⟨by simp [hll], by simpa using hrow.1, fun i u2 l2 hu2 hl2 => ?_, fun i j u1 u2 b h1 h2 hij hb hb2 => ?_⟩
  · by_cases hi : i = k
    · subst hi
      rw [List.getElem?_set_self (by omega)] at hu2 hl2
      cases hu2
      cases hl2
      exact kps hu'
    · rw [List.getElem?_set_ne (fun e => hi e.symm)] at hu2 hl2
      exact kps (h.own i u2 l2 hu2 hl2)
  · by_cases hi : i = k
    · subst hi
      rw [List.getElem?_set_self (by omega)] at h1
      cases h1
      rw [List.getElem?_set_ne hij] at h2
      exact hap j u2 b h2 hb2 hb
    · rw [List.getElem?_set_ne (fun e => hi e.symm)] at h1
      by_cases hj : j = k
      · subst hj
        rw [List.getElem?_set_self (by omega)] at h2
        cases h2
        exact hap i u1 b h1 hb hb2
      · rw [List.getElem?_set_ne (fun e => hj e.symm)] at h2
        exact h.ap i j u1 u2 b h1 h2 hij hb hb2
/-- A log that was made later lies apart from those that were there. -/
theorem LgO.apart {W W2 : World} {B B2 : Nat} {v u : Value} {us : List Value} {Ls : List (List It)} {l : List It} (h : LgO W B v us Ls) (hu : OwnIts W2 B2 u l) (hB : W.heap.size ≤ B2) : ∀ (i : Nat) (u2 : Value) (b : Nat), us[i]? = some u2 → u2.ownBlock = some b → u.ownBlock ≠ some b := fun i u2 b h1 h2 h3 => by
  have h4 := (h.lts h1 h2).2
  have h5 := (World.ownsRow.lt hu b h3).1
  omega
theorem bd_snoc {α : Type} {P : α → Prop} {Ls : List α} {l : α} (h : ∀ x ∈ Ls, P x) (hl : P l) : ∀ x ∈ Ls ++ [l], P x := fun x hx => by
  rcases List.mem_append.1 hx with h1 | h1
  · exact h x h1
  · simp at h1; subst h1; exact hl
theorem bd_set {α : Type} {P : α → Prop} {Ls : List α} {l : α} {k : Nat} (h : ∀ x ∈ Ls, P x) (hl : P l) : ∀ x ∈ Ls.set k l, P x := fun x hx => by
  rcases List.mem_or_eq_of_mem_set hx with h1 | h1
  · exact h x h1
  · subst h1; exact hl
theorem logL_any (R : Nat) (a : Option Addr) (len cap p n : Nat) (w : World) (hn : n ≤ 1000) (hp : p ≤ 500000) (hR : R < w.heap.size) (h : Rd R w a len cap p) : Calls Tryz.prog 16 #[.pointer (some ⟨R, 0, none⟩), .int .i64 n] w fun e w' => ∃ (v : Value) (LL : List It), e = .returned v ∧ OwnIts w' w.heap.size v LL ∧ (n ≤ 39 → okLog LL = true) ∧ (1 ≤ LL.length ∧ LL.length ≤ n + 1) ∧ Kp R w w' ∧ ∃ p', p' ≤ p + 2 + 10 * n ∧ Rd R w' a len cap p' := by
  refine (logK_any R a len cap p n w hn hp hR h).mono ?_
  rintro e w' ⟨v, xs, rfl, hO, hok, _, hl, hk, hr⟩
  exact ⟨v, _, rfl, hO, hok, ⟨by simp, by simp; omega⟩, hk, hr⟩
theorem okJob_s {s t k z q l e v r : Int} (h : okJob s t k z q l e v r = true) : 1 ≤ s ∧ s ≤ 3 := by
  simp only [okJob, Bool.and_eq_true, inB_iff] at h
  exact h.1.1.1.1.1.1.1.1
/-- Drawn logs of a job's sources. -/
def LogsP (s : Int) (R : Nat) (w : World) (a : Option Addr) (len cap p : Nat) (e' : Ending) (w' : World) : Prop := ∃ (v : Value) (us : List Value) (Ls : List (List It)), e' = .returned v ∧ LgO w' w.heap.size v us Ls ∧ (Ls.length : Int) = s ∧ (∀ l ∈ Ls, okLog l = true ∧ l.length ≤ 14) ∧ Kp R w w' ∧ ∃ p', p' ≤ p + 500 ∧ Rd R w' a len cap p'

set_option maxRecDepth 20000 in
set_option maxHeartbeats 4000000 in
theorem logsK_any (R : Nat) (a : Option Addr) (len cap p : Nat) (s t k z q l e : Int) (b : Bool) (v r : Int) (w : World) (hs1 : 1 ≤ s) (hs2 : s ≤ 3) (hp : p ≤ 400000) (hR : R < w.heap.size) (h : Rd R w a len cap p) : Calls Tryz.prog 27 #[.pointer (some ⟨R, 0, none⟩), .agg #[.int .i64 s, .int .i64 t, .int .i64 k, .int .i64 z, .int .i64 q, .int .i64 l, .int .i64 e, .bool b, .int .i64 v, .int .i64 r]] w fun e' w' => LogsP s R w a len cap p e' w' := by
  obtain ⟨i0, hi, hz0, hz1, hz2⟩ := info_parts Tryz.infoLg
  have hb0 : Below w.heap.size w ((w.alloc (.cells #[.int .i64 s, .int .i64 t, .int .i64 k, .int .i64 z, .int .i64 q, .int .i64 l, .int .i64 e, .bool b, .int .i64 v, .int .i64 r] 36)).alloc (.cells #[] 40)) := bel_alloc (bel_one _ _) _
  have hbj : Hid (((w.alloc (.cells #[.int .i64 s, .int .i64 t, .int .i64 k, .int .i64 z, .int .i64 q, .int .i64 l, .int .i64 e, .bool b, .int .i64 v, .int .i64 r] 36)).alloc (.cells #[] 40)).heap[w.heap.size]? = some (.cells #[.int .i64 s, .int .i64 t, .int .i64 k, .int .i64 z, .int .i64 q, .int .i64 l, .int .i64 e, .bool b, .int .i64 v, .int .i64 r] 36 (0, 0))) := hide ((Below.heap_alloc _ _ _ (by simp)).trans (World.alloc_heap_new w (.cells #[.int .i64 s, .int .i64 t, .int .i64 k, .int .i64 z, .int .i64 q, .int .i64 l, .int .i64 e, .bool b, .int .i64 v, .int .i64 r] 36)))
  have HK0 := hide (Kp.of_bel (Nat.le_of_lt hR) hb0)
  have HD0 := hide (h.kp hR hb0)
  have HO0 : Hid (LgO ((w.alloc (.cells #[.int .i64 s, .int .i64 t, .int .i64 k, .int .i64 z, .int .i64 q, .int .i64 l, .int .i64 e, .bool b, .int .i64 v, .int .i64 r] 36)).alloc (.cells #[] 40)) (w.heap.size + 1) (.slice (some ⟨w.heap.size + 1, 0, none⟩) 0 0) [] []) := hide (LgO.nil0 (ownLit _ _ (by simp) (by simp)))
  clear hb0 h
  go_enter Tryz.func27, Tryz.ntmps27
  go_wp2
  go_loopw [5, 6] (fun lv iv wr => ∃ (i : Nat) (us : List Value) (Ls : List (List It)) (p' : Nat), iv = .int .i64 i ∧ (i : Int) ≤ s ∧ (Ls.length ≤ i ∧ i ≤ Ls.length) ∧ Hid (LgO wr (w.heap.size + 1) lv us Ls) ∧ Hid (∀ l ∈ Ls, okLog l = true ∧ l.length ≤ 14) ∧ Hid (Kp R w wr) ∧ p' ≤ p + 150 * i ∧ Hid (Rd R wr a len cap p') ∧ Hid (wr.heap[w.heap.size]? = some (.cells #[.int .i64 s, .int .i64 t, .int .i64 k, .int .i64 z, .int .i64 q, .int .i64 l, .int .i64 e, .bool b, .int .i64 v, .int .i64 r] 36 (0, 0)))) (fun _ iv _ => s.toNat - (intOf iv).toNat)
  case atStart => exact ⟨0, [], [], p, rfl, by omega, ⟨Nat.le_refl _, Nat.le_refl _⟩, HO0, hide (fun x hx => by simp at hx), HK0, by omega, HD0, hbj⟩
  case round =>
    clear HO0 HK0 HD0 hbj
    obtain ⟨i, us, Ls, p', rfl, his, ⟨hLi, hLi2⟩, HO, HL, HK, hp', HD, HJ⟩ := hrel
    have zr : w.heap.size ≤ wr.heap.size := (unhide HK).low.size
    have bJ := unhide HJ
    have zj := (Array.getElem?_eq_some_iff.1 bJ).1
    have cj0 := Joins.cell_of_block bJ 0
    simp only [List.getElem?_toArray, List.getElem?_cons_zero, List.getElem?_cons_succ] at cj0
    by_cases hlt : (i : Int) < s
    · have hlt' : decide ((i : Int) < s) = true := decide_eq_true hlt
      go_wp2_with fail
      clear cj0 bJ
      refine (pick_any R a len cap p' 14 _ (by decide) (by omega) (unhide HD)).mono ?_
      rintro e1 wb ⟨x, rfl, x0, x1, k9, r9⟩
      obtain ⟨xn, rfl⟩ := Int.eq_ofNat_of_zero_le x0
      have hRb : R < wb.heap.size := by have := k9.low.size; omega
      have HKb := hide ((unhide HK).trans k9)
      have HOb := hide ((unhide HO).kp (by omega) k9)
      have HDb := hide (r9 (by omega))
      have HJb := hide ((k9.all _ zj (by omega)).trans (unhide HJ))
      have zb := k9.low.size
      clear HK HO HD HJ k9 r9
      go_wp2_with fail
      refine (logL_any R a len cap (p' + 1) xn wb (by omega) (by omega) hRb (unhide HDb)).mono ?_
      rintro e2 wd ⟨u, LL, rfl, hu, hok, ⟨hxl1, hxl⟩, kd, p2, hp2, rd⟩
      obtain ⟨gu, cu, rfl, _⟩ := own_form hu hxl1
      have HKd := hide ((unhide HKb).trans kd)
      have HOd := hide ((unhide HOb).kp (by omega) kd)
      have HDd := hide rd
      have HJd := hide ((kd.all _ (by omega) (by omega)).trans (unhide HJb))
      have HA := hide ((unhide HOb).apart hu (Nat.le_refl _))
      have HU := hide (lg_mono hu (B' := w.heap.size + 1) (by omega))
      have hokx := hok (by omega)
      have HLd := hide (bd_snoc (unhide HL) (P := fun (l : List It) => okLog l = true ∧ l.length ≤ 14) ⟨hokx, by omega⟩)
      have zd := kd.low.size
      have hzz : w.heap.size ≤ wd.heap.size := (unhide HKd).low.size
      obtain ⟨av, cv, rfl⟩ := (unhide HOd).slice
      have hgeB := hide (unhide HOd).row.lt
      clear HKb HOb HDb HJb kd rd hu hok hokx HL
      go_wp2_with (at_builtin; go_loud (refine wpList_append_own _ rfl _ _ 23 rfl (w.heap.size + 1) 40 i0 _ 1 24 Tryz.underlying23 hi hz0 hz1 hz2 rfl (by decide) (.slice av Ls.length cv) _ _ rfl (World.ownsRow.alloc (unhide HOd).row _) ⟨wd.heap.size, 0, none⟩ 1 1 [(.slice (some ⟨gu, 0, none⟩) LL.length cu)] rfl rfl (cell_new1L wd rfl _ _) (by simp [Value.oneCell']) (by unfold maxLen; omega) (by omega) (by simp; omega) ?_); intro v' w5 hown hgrow _)
      have hw1 : w.heap.size + 1 ≤ wd.heap.size := by have := (Array.getElem?_eq_some_iff.1 (unhide HJd)).1; omega
      have hb5 : Below (w.heap.size + 1) wd w5 := ((Below.refl _ wd).alloc hw1 _).grown hgrow (by simp; omega) (fun k9 h9 => (unhide hgeB k9 h9).1)
      have HO5 := hide ((unhide HOd).push (unhide HU) (unhide HA) hown hgrow)
      have HK5 := hide (kp_up hR (unhide HKd) (hb5.mono (by omega)))
      have HD5 := hide ((unhide HDd).up (hb5.mono (by omega)))
      have HJ5 := hide ((hb5.block _ (by omega)).trans (unhide HJd))
      clear HOd HKd HDd HJd HU HA hown hgrow hb5 hgeB
      go_roundw
      case rel => exact ⟨i + 1, _, _, p2, by go_num, by omega, by rw [List.length_append]; exact ⟨Nat.succ_le_succ hLi, Nat.succ_le_succ hLi2⟩, HO5, HLd, HK5, by omega, HD5, HJ5⟩
      case measure => simp [intOf]; omega
    · have hlt' : decide ((i : Int) < s) = false := decide_eq_false hlt
      go_wp2
      go_ret
      exact ⟨_, us, Ls, rfl, (unhide HO).mono (by omega), by omega, unhide HL, unhide HK, p', by omega, unhide HD⟩

theorem lg_sets {W : World} {XJ X : Nat} {v : Value} {us : List Value} {Ls : List (List It)} {B' : Nat} {u0 u1 u2 u3 u4 u5 u6 u7 u8 u9 : Value} (h : LgO W (XJ + 1) v us Ls) (hX : X < XJ + 1) (hB : B' ≤ XJ + 1) : LgO ((((((((((W.setCell ⟨X, 0, none⟩ u0).setCell ⟨X, 1, none⟩ u1).setCell ⟨X, 2, none⟩ u2).setCell ⟨X, 3, none⟩ u3).setCell ⟨X, 4, none⟩ u4).setCell ⟨X, 5, none⟩ u5).setCell ⟨X, 6, none⟩ u6).setCell ⟨X, 7, none⟩ u7).setCell ⟨X, 8, none⟩ u8).setCell ⟨X, 9, none⟩ u9) B' v us Ls := by
  have key : ∀ {W2 : World} (j : Nat) (u : Value), LgO W2 (XJ + 1) v us Ls → LgO (W2.setCell ⟨X, j, none⟩ u) (XJ + 1) v us Ls := fun {W2} j u h2 => by
    have k2 : ∀ {e2 : TypeId} {s2 n2 : Nat} {v2 : Value} {xs2 : List Value}, W2.ownsRow (XJ + 1) e2 s2 v2 n2 xs2 → (W2.setCell ⟨X, j, none⟩ u).ownsRow (XJ + 1) e2 s2 v2 n2 xs2 := fun h3 => by
      rcases h3 with ⟨h4, h3 | ⟨g, cap, cur, rfl, hg, hblk, h5⟩⟩
      · exact ⟨h4, Or.inl h3⟩
      · exact ⟨h4, Or.inr ⟨g, cap, cur, rfl, hg, (Below.heap_setCell W2 ⟨X, j, none⟩ u g (by show g ≠ X; omega)).trans hblk, h5⟩⟩
    exact ⟨h2.len, k2 h2.row, fun i u l hu hl => k2 (h2.own i u l hu hl), h2.ap⟩
  exact (key 9 _ (key 8 _ (key 7 _ (key 6 _ (key 5 _ (key 4 _ (key 3 _ (key 2 _ (key 1 _ (key 0 _ (h))))))))))).mono hB
/-- What DrawFloNew draws, its logs alone. -/
def FloNewP (w : World) (e' : Ending) (w' : World) : Prop := ∃ (s t k z q l e : Int) (b : Bool) (v r : Int) (lv : Value) (us : List Value) (Ls : List (List It)), e' = .returned (.tuple #[.agg #[.int .i64 s, .int .i64 t, .int .i64 k, .int .i64 z, .int .i64 q, .int .i64 l, .int .i64 e, .bool b, .int .i64 v, .int .i64 r], lv]) ∧ LgO w' w.heap.size lv us Ls ∧ Ls.length ≤ 4 ∧ (∀ l ∈ Ls, l.length ≤ 41) ∧ Below w.heap.size w w'

set_option maxRecDepth 20000 in
set_option maxHeartbeats 4000000 in
theorem drawflonew_any (a : Option Addr) (len cap : Nat) (w : World) (hlc : len ≤ cap) (hlm : len ≤ 1048576) (hb : BytesAt w a len) (hl : ∀ g o, a = some ⟨g, o, none⟩ → 0 < len → g < w.heap.size) (hn : a = none → cap = 0) : Calls Tryz.prog 13 #[.slice a len cap] w fun e' w' => FloNewP w e' w' := by
  obtain ⟨i0, hi, hz0, hz1, hz2⟩ := info_parts Tryz.infoLg
  have hbX : Below w.heap.size w (w.alloc (.cells #[.int .i64 0, .int .i64 0, .int .i64 0, .int .i64 0, .int .i64 0, .int .i64 0, .int .i64 0, .bool false, .int .i64 0, .int .i64 0] 36)) := bel_one _ _
  have hb' := BytesAt.bel hb hl hbX
  have hl' : ∀ g o, a = some ⟨g, o, none⟩ → 0 < len → g < (w.alloc (.cells #[.int .i64 0, .int .i64 0, .int .i64 0, .int .i64 0, .int .i64 0, .int .i64 0, .int .i64 0, .bool false, .int .i64 0, .int .i64 0] 36)).heap.size := fun g o ha hp => Nat.lt_of_lt_of_le (hl g o ha hp) hbX.size
  go_enter Tryz.func13, Tryz.ntmps13
  go_wp2_with fail
  refine (open_any a len cap _ hlc hlm hb' hl' hn).mono ?_
  rintro e1 w1 ⟨R, len', cap', rfl, h1, h2, hb1, hr⟩
  have h1' : w.heap.size < R := by simp at h1; omega
  clear hb hb' hl hl'
  have HX1 := hide (show w1.heap[w.heap.size]? = some (.cells #[.int .i64 0, .int .i64 0, .int .i64 0, .int .i64 0, .int .i64 0, .int .i64 0, .int .i64 0, .bool false, .int .i64 0, .int .i64 0] 36 (0, 0)) from (hb1.block _ (by simp)).trans (heap_alloc_new _ _))
  have HB1 := hide (bel_trans hbX hb1)
  clear hb1 hbX
  go_wp2_with fail
  refine (jobK_any R a len' cap' 0 w1 (by decide) h2 hr).mono ?_
  rintro e2 w2 ⟨s, t, k, z, q, l, e, b, v, r, rfl, hok, k2, p2, hp2, hr2⟩
  have hsb := okJob_s hok
  obtain ⟨hs1, hs2⟩ := hsb
  have z12 := k2.low.size
  have HB2 := hide (show Below w.heap.size w w2 from (unhide HB1).trans (k2.low.mono (by omega)))
  have HX2 := hide ((k2.all _ (heap_lt (unhide HX1)) (by omega)).trans (unhide HX1))
  have zx := heap_lt (unhide HX2)
  have hx2 : ¬ w.heap.size = w2.heap.size := by omega
  have hq2 : Below w2.heap.size w2 (w2.alloc (.cells #[.int .i64 s, .int .i64 t, .int .i64 k, .int .i64 z, .int .i64 q, .int .i64 l, .int .i64 e, .bool b, .int .i64 v, .int .i64 r] 36)) := bel_one _ _
  have HX3 := hide ((hq2.block _ zx).trans (unhide HX2))
  have HJ3 := hide (show (w2.alloc (.cells #[.int .i64 s, .int .i64 t, .int .i64 k, .int .i64 z, .int .i64 q, .int .i64 l, .int .i64 e, .bool b, .int .i64 v, .int .i64 r] 36)).heap[w2.heap.size]? = some (.cells #[.int .i64 s, .int .i64 t, .int .i64 k, .int .i64 z, .int .i64 q, .int .i64 l, .int .i64 e, .bool b, .int .i64 v, .int .i64 r] 36 (0, 0)) from heap_alloc_new _ _)
  have HB3 := hide (bel_trans (unhide HB2) hq2)
  have hR2 : R < w2.heap.size := by omega
  have HD3 := hide (hr2.kp hR2 hq2)
  have zz2 : w.heap.size ≤ w2.heap.size := by omega
  clear hr hr2 hok k2 HX1 HB1 HX2 HB2
  go_upto_region 3 with fail
  have HS3 := hide (show (w2.alloc (.cells #[.int .i64 s, .int .i64 t, .int .i64 k, .int .i64 z, .int .i64 q, .int .i64 l, .int .i64 e, .bool b, .int .i64 v, .int .i64 r] 36)).heap.size = w2.heap.size + 1 by simp)
  generalize (w2.alloc (.cells #[.int .i64 s, .int .i64 t, .int .i64 k, .int .i64 z, .int .i64 q, .int .i64 l, .int .i64 e, .bool b, .int .i64 v, .int .i64 r] 36)) = w3 at HX3 HJ3 HB3 HD3 hq2 HS3 ⊢
  have hz3 := unhide HS3
  obtain ⟨XJ, hXJ⟩ : ∃ XJ, w2.heap.size = XJ := ⟨_, rfl⟩
  rw [hXJ] at HJ3 hz3 ⊢
  have hRX : R < XJ := by omega
  have bJ := unhide HJ3
  have cj0 := Joins.cell_of_block bJ 0
  have cj1 := Joins.cell_of_block bJ 1
  have cj2 := Joins.cell_of_block bJ 2
  have cj3 := Joins.cell_of_block bJ 3
  have cj4 := Joins.cell_of_block bJ 4
  have cj5 := Joins.cell_of_block bJ 5
  have cj6 := Joins.cell_of_block bJ 6
  have cj7 := Joins.cell_of_block bJ 7
  have cj8 := Joins.cell_of_block bJ 8
  have cj9 := Joins.cell_of_block bJ 9
  simp only [List.getElem?_toArray, List.getElem?_cons_zero, List.getElem?_cons_succ] at cj0 cj1 cj2 cj3 cj4 cj5 cj6 cj7 cj8 cj9
  go_wp2_with fail
  clear cj0 cj1 cj2 cj3 cj4 cj5 cj6 cj7 cj8 cj9
  refine (logsK_any R a len' cap' p2 s t k z q l e b v r w3 hs1 hs2 (by omega) (by omega) (unhide HD3)).mono ?_
  rintro e3 w4 ⟨lv, us, Ls, rfl, hO4, hLs, hL4, k4, p4, hp4, hr4⟩
  have z34 := k4.low.size
  have HB4 := hide (show Below w.heap.size w w4 from (unhide HB3).trans (k4.low.mono (by omega)))
  have HX4 := hide ((k4.all _ (heap_lt (unhide HX3)) (by omega)).trans (unhide HX3))
  have HJ4 := hide ((k4.all _ (heap_lt (unhide HJ3)) (by omega)).trans (unhide HJ3))
  have HO4 := hide (hO4.mono (B' := XJ + 1) (by omega))
  have HL4 := hide (show ∀ l ∈ Ls, l.length ≤ 41 from fun l h9 => by have := (hL4 l h9).2; omega)
  have hLn : Ls.length ≤ 3 := by omega
  have hLp : 1 ≤ Ls.length := by omega
  clear HX3 HJ3 HB3 HD3 hq2 bJ hO4 hL4 k4 HS3
  go_wp2_with fail
  refine (pick_any R a len' cap' p4 8 _ (by decide) (by omega) hr4).mono ?_
  rintro e4 w5 ⟨y, rfl, y0, y1, k5, r5⟩
  have z45 := k5.low.size
  have HB5 := hide (show Below w.heap.size w w5 from (unhide HB4).trans (k5.low.mono (by omega)))
  have HX5 := hide ((k5.all _ (heap_lt (unhide HX4)) (by omega)).trans (unhide HX4))
  have HJ5 := hide ((k5.all _ (heap_lt (unhide HJ4)) (by omega)).trans (unhide HJ4))
  have HO5 := hide ((unhide HO4).kp (by omega) k5)
  have HR5 := hide (r5 (by omega))
  clear HB4 HX4 HJ4 HO4 hr4 k5 r5
  have hy : y = 0 ∨ y = 1 ∨ y = 2 ∨ 3 ≤ y := by omega
  rcases hy with rfl | rfl | rfl | hy3
  · go_wp2_with fail
    refine (any_any R a len' cap' (p4 + 1) 2 _ (by decide) (by decide) (by omega) (by omega) (unhide HR5)).mono ?_
    rintro e5 w6 ⟨u, xs, rfl, hu, hxl, k6, _⟩
    obtain ⟨au, cu, rfl⟩ := own_slice hu
    have z56 := k6.low.size
    have HB6 := hide (show Below w.heap.size w w6 from (unhide HB5).trans (k6.low.mono (by omega)))
    have HX6 := hide ((k6.all _ (heap_lt (unhide HX5)) (by omega)).trans (unhide HX5))
    have HJ6 := hide ((k6.all _ (heap_lt (unhide HJ5)) (by omega)).trans (unhide HJ5))
    have zJ6 := heap_lt (unhide HJ6)
    have HO6 := hide ((unhide HO5).kp (by omega) k6)
    have HA := hide ((unhide HO5).apart hu (Nat.le_refl _))
    have HU := hide (lg_mono hu (B' := XJ + 1) (by have := heap_lt (unhide HJ5); omega))
    obtain ⟨av, cv, rfl⟩ := (unhide HO6).slice
    have hgeB := hide (unhide HO6).row.lt
    clear HB5 HX5 HJ5 HO5 HR5 hu k6
    go_upto_region 11 with (at_builtin; go_loud (refine wpList_append_own _ rfl _ _ 23 rfl (XJ + 1) 40 i0 _ 1 24 Tryz.underlying23 hi hz0 hz1 hz2 rfl (by decide) (.slice av Ls.length cv) _ _ rfl (World.ownsRow.alloc (unhide HO6).row _) ⟨w6.heap.size, 0, none⟩ 1 1 [(.slice au xs.length cu)] rfl rfl (cell_new1L w6 rfl _ _) (by simp [Value.oneCell']) (by unfold maxLen; omega) (by omega) (by simp; omega) ?_); intro v' w7 hown hgrow _)
    have hb7 : Below (XJ + 1) w6 w7 := ((Below.refl _ w6).alloc (by omega) _).grown hgrow (by simp; omega) (fun k9 h9 => (unhide hgeB k9 h9).1)
    have HO7 := hide ((unhide HO6).push (unhide HU) (unhide HA) hown hgrow)
    have HB7 := hide (show Below w.heap.size w w7 from (unhide HB6).trans (hb7.mono (by omega)))
    have HX7 := hide ((hb7.block _ (by omega)).trans (unhide HX6))
    have HJ7 := hide ((hb7.block _ (by omega)).trans (unhide HJ6))
    have HL7 := hide (bd_snoc (P := fun (l : List It) => l.length ≤ 41) (unhide HL4) hxl)
    clear HO6 HB6 HX6 HJ6 HU HA hown hgrow hb7 hgeB HL4
    have bX := unhide HX7
    have zX := heap_lt bX
    have bJ9 := unhide HJ7
    have cj0 := Joins.cell_of_block bJ9 0
    have cj1 := Joins.cell_of_block bJ9 1
    have cj2 := Joins.cell_of_block bJ9 2
    have cj3 := Joins.cell_of_block bJ9 3
    have cj4 := Joins.cell_of_block bJ9 4
    have cj5 := Joins.cell_of_block bJ9 5
    have cj6 := Joins.cell_of_block bJ9 6
    have cj7 := Joins.cell_of_block bJ9 7
    have cj8 := Joins.cell_of_block bJ9 8
    have cj9 := Joins.cell_of_block bJ9 9
    simp only [List.getElem?_toArray, List.getElem?_cons_zero, List.getElem?_cons_succ] at cj0 cj1 cj2 cj3 cj4 cj5 cj6 cj7 cj8 cj9
    obtain ⟨cx0, cf0⟩ := cells_blk (n := 0) bX 0
    obtain ⟨cx1, cf1⟩ := cells_blk (n := 0) bX 1
    obtain ⟨cx2, cf2⟩ := cells_blk (n := 0) bX 2
    obtain ⟨cx3, cf3⟩ := cells_blk (n := 0) bX 3
    obtain ⟨cx4, cf4⟩ := cells_blk (n := 0) bX 4
    obtain ⟨cx5, cf5⟩ := cells_blk (n := 0) bX 5
    obtain ⟨cx6, cf6⟩ := cells_blk (n := 0) bX 6
    obtain ⟨cx7, cf7⟩ := cells_blk (n := 0) bX 7
    obtain ⟨cx8, cf8⟩ := cells_blk (n := 0) bX 8
    obtain ⟨cx9, cf9⟩ := cells_blk (n := 0) bX 9
    simp only [List.getElem?_toArray, List.getElem?_cons_zero, List.getElem?_cons_succ] at cx0 cx1 cx2 cx3 cx4 cx5 cx6 cx7 cx8 cx9
    have hXn : ¬ w.heap.size = XJ := by omega
    go_wp2
    refine bodyPost_ret (v := .tuple #[.agg #[.int .i64 s, .int .i64 t, .int .i64 k, .int .i64 z, .int .i64 q, .int .i64 l, .int .i64 e, .bool b, .int .i64 v, .int .i64 r], v']) (by simp (maxDischargeDepth := 9) [results, Tryz.results13, go_sem, *] <;> rfl) rfl ?_
    exact ⟨s, t, k, z, q, l, e, b, v, r, _, _, _, rfl, lg_sets (XJ := XJ) (unhide HO7) (by omega) (by omega), by simp; omega, unhide HL7, (bel_set (bel_set (bel_set (bel_set (bel_set (bel_set (bel_set (bel_set (bel_set (bel_set (unhide HB7) (by simp) _) (by simp) _) (by simp) _) (by simp) _) (by simp) _) (by simp) _) (by simp) _) (by simp) _) (by simp) _) (by simp) _)⟩
  · obtain ⟨gv, cv, rfl, _, hgv, _⟩ := (unhide HO5).shape (by omega)
    go_wp2_with fail
    refine (any_any R a len' cap' (p4 + 1) 1 _ (by decide) (by decide) (by omega) (by omega) (unhide HR5)).mono ?_
    rintro e5 w6 ⟨u, xs, rfl, hu, hxl, k6, _⟩
    obtain ⟨au, cu, rfl⟩ := own_slice hu
    have z56 := k6.low.size
    have HB6 := hide (show Below w.heap.size w w6 from (unhide HB5).trans (k6.low.mono (by omega)))
    have HX6 := hide ((k6.all _ (heap_lt (unhide HX5)) (by omega)).trans (unhide HX5))
    have HJ6 := hide ((k6.all _ (heap_lt (unhide HJ5)) (by omega)).trans (unhide HJ5))
    have HO6 := hide ((unhide HO5).kp (by omega) k6)
    have HA := hide ((unhide HO5).apart hu (Nat.le_refl _))
    have HU := hide (lg_mono hu (B' := XJ + 1) (by have := heap_lt (unhide HJ5); omega))
    have hgB := (unhide HO6).row
    have hgx : XJ + 1 ≤ gv := (World.ownsRow.lt hgB gv rfl).1
    have hgl : gv < w6.heap.size := (World.ownsRow.lt hgB gv rfl).2
    have hfz := (unhide HO6).frozen 0
    obtain ⟨c9, hc9⟩ : ∃ c9, w6.cell? ⟨gv, 0, none⟩ = some c9 := ⟨_, (World.ownsRow.cellAt hgB 0 (by omega)).trans (List.getElem?_eq_getElem (by have := (unhide HO6).len; omega))⟩
    have HO7 := hide ((unhide HO6).put rfl (k := 0) (by omega) (unhide HU) (unhide HA))
    have HB7 := hide (show Below w.heap.size w (w6.setCell ⟨gv, 0, none⟩ (.slice au xs.length cu)) from bel_set (unhide HB6) (by show w.heap.size ≤ gv; omega) _)
    have HX7 := hide ((Below.heap_setCell w6 ⟨gv, 0, none⟩ (.slice au xs.length cu) w.heap.size (by show w.heap.size ≠ gv; omega)).trans (unhide HX6))
    have HJ7 := hide ((Below.heap_setCell w6 ⟨gv, 0, none⟩ (.slice au xs.length cu) XJ (by show XJ ≠ gv; omega)).trans (unhide HJ6))
    have HL7 := hide (bd_set (k := 0) (P := fun (l : List It) => l.length ≤ 41) (unhide HL4) hxl)
    clear HO6 HB6 HX6 HJ6 HU HA HL4 HB5 HX5 HJ5 HO5 HR5 hu k6 hgB
    go_upto_region 11 with fail
    generalize (w6.setCell ⟨gv, 0, none⟩ (.slice au xs.length cu)) = w7 at HO7 HB7 HX7 HJ7 ⊢
    clear hfz hc9
    have bX := unhide HX7
    have zX := heap_lt bX
    have bJ9 := unhide HJ7
    have cj0 := Joins.cell_of_block bJ9 0
    have cj1 := Joins.cell_of_block bJ9 1
    have cj2 := Joins.cell_of_block bJ9 2
    have cj3 := Joins.cell_of_block bJ9 3
    have cj4 := Joins.cell_of_block bJ9 4
    have cj5 := Joins.cell_of_block bJ9 5
    have cj6 := Joins.cell_of_block bJ9 6
    have cj7 := Joins.cell_of_block bJ9 7
    have cj8 := Joins.cell_of_block bJ9 8
    have cj9 := Joins.cell_of_block bJ9 9
    simp only [List.getElem?_toArray, List.getElem?_cons_zero, List.getElem?_cons_succ] at cj0 cj1 cj2 cj3 cj4 cj5 cj6 cj7 cj8 cj9
    obtain ⟨cx0, cf0⟩ := cells_blk (n := 0) bX 0
    obtain ⟨cx1, cf1⟩ := cells_blk (n := 0) bX 1
    obtain ⟨cx2, cf2⟩ := cells_blk (n := 0) bX 2
    obtain ⟨cx3, cf3⟩ := cells_blk (n := 0) bX 3
    obtain ⟨cx4, cf4⟩ := cells_blk (n := 0) bX 4
    obtain ⟨cx5, cf5⟩ := cells_blk (n := 0) bX 5
    obtain ⟨cx6, cf6⟩ := cells_blk (n := 0) bX 6
    obtain ⟨cx7, cf7⟩ := cells_blk (n := 0) bX 7
    obtain ⟨cx8, cf8⟩ := cells_blk (n := 0) bX 8
    obtain ⟨cx9, cf9⟩ := cells_blk (n := 0) bX 9
    simp only [List.getElem?_toArray, List.getElem?_cons_zero, List.getElem?_cons_succ] at cx0 cx1 cx2 cx3 cx4 cx5 cx6 cx7 cx8 cx9
    have hXn : ¬ w.heap.size = XJ := by omega
    go_wp2
    refine bodyPost_ret (v := .tuple #[.agg #[.int .i64 s, .int .i64 t, .int .i64 k, .int .i64 z, .int .i64 q, .int .i64 l, .int .i64 e, .bool b, .int .i64 v, .int .i64 r], (.slice (some ⟨gv, 0, none⟩) Ls.length cv)]) (by simp (maxDischargeDepth := 9) [results, Tryz.results13, go_sem, *] <;> rfl) rfl ?_
    exact ⟨s, t, k, z, q, l, e, b, v, r, _, _, _, rfl, lg_sets (XJ := XJ) (unhide HO7) (by omega) (by omega), by simp; omega, unhide HL7, (bel_set (bel_set (bel_set (bel_set (bel_set (bel_set (bel_set (bel_set (bel_set (bel_set (unhide HB7) (by simp) _) (by simp) _) (by simp) _) (by simp) _) (by simp) _) (by simp) _) (by simp) _) (by simp) _) (by simp) _) (by simp) _)⟩
  · go_wp2_with fail
    refine (anyjob_any R a len' cap' (p4 + 1) 1 _ (by decide) (by decide) (by omega) (by omega) (unhide HR5)).mono ?_
    rintro e5 w6 ⟨s6, t6, k6, z6, q6, l6, e6, b6, v6, r6, rfl, k9, _⟩
    have z56 := k9.low.size
    have HB6 := hide (show Below w.heap.size w w6 from (unhide HB5).trans (k9.low.mono (by omega)))
    have HX6 := hide ((k9.all _ (heap_lt (unhide HX5)) (by omega)).trans (unhide HX5))
    have HO6 := hide ((unhide HO5).kp (by omega) k9)
    clear HB5 HX5 HJ5 HO5 HR5 k9
    have bX := unhide HX6
    have zX := heap_lt bX
    obtain ⟨cx0, cf0⟩ := cells_blk (n := 0) bX 0
    obtain ⟨cx1, cf1⟩ := cells_blk (n := 0) bX 1
    obtain ⟨cx2, cf2⟩ := cells_blk (n := 0) bX 2
    obtain ⟨cx3, cf3⟩ := cells_blk (n := 0) bX 3
    obtain ⟨cx4, cf4⟩ := cells_blk (n := 0) bX 4
    obtain ⟨cx5, cf5⟩ := cells_blk (n := 0) bX 5
    obtain ⟨cx6, cf6⟩ := cells_blk (n := 0) bX 6
    obtain ⟨cx7, cf7⟩ := cells_blk (n := 0) bX 7
    obtain ⟨cx8, cf8⟩ := cells_blk (n := 0) bX 8
    obtain ⟨cx9, cf9⟩ := cells_blk (n := 0) bX 9
    simp only [List.getElem?_toArray, List.getElem?_cons_zero, List.getElem?_cons_succ] at cx0 cx1 cx2 cx3 cx4 cx5 cx6 cx7 cx8 cx9
    have hXn : ¬ w.heap.size = XJ := by omega
    go_wp2
    refine bodyPost_ret (v := .tuple #[.agg #[.int .i64 s6, .int .i64 t6, .int .i64 k6, .int .i64 z6, .int .i64 q6, .int .i64 l6, .int .i64 e6, .bool b6, .int .i64 v6, .int .i64 r6], lv]) (by simp (maxDischargeDepth := 9) [results, Tryz.results13, go_sem, *] <;> rfl) rfl ?_
    exact ⟨s6, t6, k6, z6, q6, l6, e6, b6, v6, r6, _, _, _, rfl, lg_sets (XJ := XJ) (unhide HO6) (by omega) (by omega), by omega, unhide HL4, (bel_set (bel_set (bel_set (bel_set (bel_set (bel_set (bel_set (bel_set (bel_set (bel_set (unhide HB6) (by simp) _) (by simp) _) (by simp) _) (by simp) _) (by simp) _) (by simp) _) (by simp) _) (by simp) _) (by simp) _) (by simp) _)⟩
  · have hy0 : (y == 0) = false := by simp; omega
    have hy1 : (y == 1) = false := by simp; omega
    have hy2 : (y == 2) = false := by simp; omega
    have bX := unhide HX5
    have zX := heap_lt bX
    have bJ9 := unhide HJ5
    have cj0 := Joins.cell_of_block bJ9 0
    have cj1 := Joins.cell_of_block bJ9 1
    have cj2 := Joins.cell_of_block bJ9 2
    have cj3 := Joins.cell_of_block bJ9 3
    have cj4 := Joins.cell_of_block bJ9 4
    have cj5 := Joins.cell_of_block bJ9 5
    have cj6 := Joins.cell_of_block bJ9 6
    have cj7 := Joins.cell_of_block bJ9 7
    have cj8 := Joins.cell_of_block bJ9 8
    have cj9 := Joins.cell_of_block bJ9 9
    simp only [List.getElem?_toArray, List.getElem?_cons_zero, List.getElem?_cons_succ] at cj0 cj1 cj2 cj3 cj4 cj5 cj6 cj7 cj8 cj9
    obtain ⟨cx0, cf0⟩ := cells_blk (n := 0) bX 0
    obtain ⟨cx1, cf1⟩ := cells_blk (n := 0) bX 1
    obtain ⟨cx2, cf2⟩ := cells_blk (n := 0) bX 2
    obtain ⟨cx3, cf3⟩ := cells_blk (n := 0) bX 3
    obtain ⟨cx4, cf4⟩ := cells_blk (n := 0) bX 4
    obtain ⟨cx5, cf5⟩ := cells_blk (n := 0) bX 5
    obtain ⟨cx6, cf6⟩ := cells_blk (n := 0) bX 6
    obtain ⟨cx7, cf7⟩ := cells_blk (n := 0) bX 7
    obtain ⟨cx8, cf8⟩ := cells_blk (n := 0) bX 8
    obtain ⟨cx9, cf9⟩ := cells_blk (n := 0) bX 9
    simp only [List.getElem?_toArray, List.getElem?_cons_zero, List.getElem?_cons_succ] at cx0 cx1 cx2 cx3 cx4 cx5 cx6 cx7 cx8 cx9
    have hXn : ¬ w.heap.size = XJ := by omega
    go_wp2
    refine bodyPost_ret (v := .tuple #[.agg #[.int .i64 s, .int .i64 t, .int .i64 k, .int .i64 z, .int .i64 q, .int .i64 l, .int .i64 e, .bool b, .int .i64 v, .int .i64 r], lv]) (by simp (maxDischargeDepth := 9) [results, Tryz.results13, go_sem, *] <;> rfl) rfl ?_
    exact ⟨s, t, k, z, q, l, e, b, v, r, _, _, _, rfl, lg_sets (XJ := XJ) (unhide HO5) (by omega) (by omega), by omega, unhide HL4, (bel_set (bel_set (bel_set (bel_set (bel_set (bel_set (bel_set (bel_set (bel_set (bel_set (unhide HB5) (by simp) _) (by simp) _) (by simp) _) (by simp) _) (by simp) _) (by simp) _) (by simp) _) (by simp) _) (by simp) _) (by simp) _)⟩
end Go.Proofs.YtcokdcehjibanaaGreatDoor
/- Proved here, over lists alone: logs' lines there and back. -/
namespace Go.Proofs.YtcokdcehjibanaaGreatDoor
open Go.ChangeShapes Go.WideShapes Go.ChangeAt Go.RowKit
set_option linter.unusedVariables false

/-- An item's line; all lines of logs. -/
def lnX (x : It) : ByteArray := itmText x.q x.t x.k x.v x.n
def dskF : List (List It) → Nat → List ByteArray
  | [], _ => []
  | l :: r, i => ((if 0 < i then [dashB] else []) ++ l.map lnX) ++ dskF r (i + 1)
def dskO (Ls : List (List It)) : List ByteArray := if Ls.all okLog = true ∧ (dskF Ls 0).length ≤ 400 then dskF Ls 0 else []
theorem dskF_snoc : ∀ (xs : List (List It)) (l : List It) (i : Nat), dskF (xs ++ [l]) i = dskF xs i ++ ((if 0 < i + xs.length then [dashB] else []) ++ l.map lnX)
  | [], l, i => by simp [dskF]
  | x :: xs, l, i => by
    show ((if 0 < i then [dashB] else []) ++ x.map lnX) ++ dskF (xs ++ [l]) (i + 1) = _
    rw [dskF_snoc xs l (i + 1), ← List.append_assoc]
    have e : (0 < i + 1 + xs.length) = (0 < i + (x :: xs).length) := by simp only [List.length_cons]; apply propext; omega
    simp only [e]
    rfl
theorem dskF_dash {A : List (List It)} (h : 0 < A.length) : dskF (A ++ [[]]) 0 = dskF A 0 ++ [dashB] := by
  rw [dskF_snoc, if_pos (by omega)]; rfl
theorem dskF_item (A : List (List It)) (m : List It) (x : It) : dskF (A ++ [m ++ [x]]) 0 = dskF (A ++ [m]) 0 ++ [lnX x] := by
  rw [dskF_snoc, dskF_snoc]; simp
theorem dskF_take {Ls : List (List It)} {i : Nat} {l : List It} (h : Ls[i]? = some l) : dskF (Ls.take (i + 1)) 0 = dskF (Ls.take i) 0 ++ ((if 0 < i then [dashB] else []) ++ l.map lnX) := by
  have hi := (List.getElem?_eq_some_iff.1 h).1
  rw [List.take_add_one, h]
  show dskF (Ls.take i ++ [l]) 0 = _
  rw [dskF_snoc, List.length_take, Nat.min_eq_left (by omega), Nat.zero_add]
theorem dskF_mono (Ls : List (List It)) (i : Nat) : (dskF (Ls.take i) 0).length ≤ (dskF Ls 0).length := by
  have key : ∀ (Ms Ns : List (List It)) (j : Nat), (dskF Ms j).length ≤ (dskF (Ms ++ Ns) j).length := by
    intro Ms
    induction Ms with
    | nil => intro Ns j; exact Nat.zero_le _
    | cons l r ih =>
      intro Ns j
      show (((if 0 < j then [dashB] else []) ++ l.map lnX) ++ dskF r (j + 1)).length ≤ (((if 0 < j then [dashB] else []) ++ l.map lnX) ++ dskF (r ++ Ns) (j + 1)).length
      have := ih Ns (j + 1)
      simp only [List.length_append]
      omega
  have := key (Ls.take i) (Ls.drop i) 0
  rwa [List.take_append_drop] at this
theorem dskF_len (Ls : List (List It)) (b : Nat) (h : ∀ l ∈ Ls, l.length ≤ b) : (dskF Ls 0).length ≤ Ls.length * (b + 1) := by
  have key : ∀ (Ms : List (List It)) (j : Nat), (∀ l ∈ Ms, l.length ≤ b) → (dskF Ms j).length ≤ Ms.length * (b + 1) := by
    intro Ms
    induction Ms with
    | nil => intro j _; exact Nat.zero_le _
    | cons l r ih =>
      intro j hm
      have h1 := ih (j + 1) (fun y hy => hm y (by simp [hy]))
      have h2 := hm l (by simp)
      show (((if 0 < j then [dashB] else []) ++ l.map lnX) ++ dskF r (j + 1)).length ≤ (r.length + 1) * (b + 1)
      rw [Nat.succ_mul, List.length_append, List.length_append, List.length_map]
      split <;> simp <;> omega
  exact key Ls 0 h
theorem lnX_ok {x : It} (h : x.okB = true) : lnX x = itmTxt x.q x.t x.k x.v x.n := itmText_ok h
theorem lnX_ne {x : It} (h : x.okB = true) : lnX x ≠ dashB := by
  rw [lnX_ok h]
  intro e
  have h1 := congrArg ByteArray.size e
  have h2 : 4 ≤ (itmTxt x.q x.t x.k x.v x.n).size := by
    unfold itmTxt
    split
    · simp only [ByteArray.size_append]; show 4 ≤ 4 + _ + _ + _ + _ + _; omega
    · split
      · simp only [ByteArray.size_append]; show 4 ≤ 5 + _; omega
      · simp only [ByteArray.size_append]; show 4 ≤ 5 + _; omega
  have h3 : dashB.size = 1 := rfl
  omega
theorem LnIt.same {s : ByteArray} {r r' : Option (Option It)} (h : LnIt s r) (h' : LnIt s r') : r = r' := by
  rcases h with ⟨h1, rfl⟩ | ⟨h1, q, t, k, v, n, c, h2, rfl⟩
  · exact (h'.dash h1).symm
  · exact (h'.itm h1 h2).symm
theorem lnIt_item {x : It} (h : x.okB = true) (h3 : x.q ≠ 3) : LnIt (lnX x) (some (some x)) := by
  refine Or.inr ⟨lnX_ne h, x.q, x.t, x.k, x.v, x.n, true, Or.inl ⟨rfl, h, (lnX_ok h).symm⟩, ?_⟩
  rw [if_pos ⟨rfl, h3⟩]
theorem lnIt_back {s : ByteArray} {x : It} (h : LnIt s (some (some x))) : s = lnX x := by
  rcases h with ⟨_, h⟩ | ⟨_, q, t, k, v, n, c, h2, h3⟩
  · simp at h
  · split at h3
    · rename_i h4
      obtain ⟨rfl, h5⟩ := h4
      simp only [Option.some.injEq] at h3
      subst h3
      rcases h2 with ⟨_, h6, h7⟩ | ⟨h6, _⟩
      · rw [← h7]; exact (itmText_ok h6).symm
      · cases h6
    · cases h3
theorem lnIt_dash {s : ByteArray} (h : LnIt s (some none)) : s = dashB := by
  rcases h with ⟨h, _⟩ | ⟨_, q, t, k, v, n, c, h2, h3⟩
  · exact h
  · split at h3 <;> simp at h3
/-- What the lines of logs are read as. -/
def rsF : List (List It) → Nat → List (Option (Option It))
  | [], _ => []
  | l :: r, i => ((if 0 < i then [some none] else []) ++ l.map (fun x => some (some x))) ++ rsF r (i + 1)
theorem logGo_all : ∀ (l : List It) (m : Int), logGo l m = true → ∀ x ∈ l, x.okB = true ∧ x.q ≠ 3
  | [], _, _, x, hx => by simp at hx
  | y :: r, m, h, x, hx => by
    simp only [logGo, Bool.and_eq_true] at h
    obtain ⟨⟨h1, h2⟩, h3⟩ := h
    rcases List.mem_cons.1 hx with rfl | hx
    · exact ⟨h1, by simpa using h2⟩
    · split at h3
      · exact logGo_all r _ (by simp only [Bool.and_eq_true] at h3; exact h3.2) x hx
      · exact logGo_all r _ h3 x hx
theorem okLog_all {l : List It} (h : okLog l = true) : ∀ x ∈ l, x.okB = true ∧ x.q ≠ 3 := by
  unfold okLog at h
  simp only [Bool.and_eq_true] at h
  exact logGo_all l 0 h.2
theorem lnAll_app {L L' : List ByteArray} {rs rs' : List (Option (Option It))} (h : LnAll L rs) (h' : LnAll L' rs') : LnAll (L ++ L') (rs ++ rs') := by
  refine ⟨by rw [List.length_append, List.length_append, h.1, h'.1], fun i x r hx hr => ?_⟩
  rcases Nat.lt_or_ge i L.length with hi | hi
  · rw [List.getElem?_append_left hi] at hx
    rw [List.getElem?_append_left (by rw [h.1]; exact hi)] at hr
    exact h.2 i x r hx hr
  · rw [List.getElem?_append_right hi] at hx
    rw [List.getElem?_append_right (by rw [h.1]; exact hi), h.1] at hr
    exact h'.2 _ x r hx hr
theorem lnAll_items (l : List It) (h : ∀ x ∈ l, x.okB = true ∧ x.q ≠ 3) : LnAll (l.map lnX) (l.map (fun x => some (some x))) := by
  refine ⟨by simp, fun i x r hx hr => ?_⟩
  rw [List.getElem?_map, Option.map_eq_some_iff] at hx hr
  obtain ⟨y, hy, rfl⟩ := hx
  obtain ⟨z, hz, rfl⟩ := hr
  rw [hy] at hz
  obtain rfl := Option.some.inj hz
  have := h y (List.mem_of_getElem? hy)
  exact lnIt_item this.1 this.2
theorem lnAll_rsF : ∀ (Ls : List (List It)) (i : Nat), Ls.all okLog = true → LnAll (dskF Ls i) (rsF Ls i)
  | [], _, _ => ⟨rfl, fun i x r h => by simp [dskF] at h⟩
  | l :: r, i, h => by
    rw [List.all_cons, Bool.and_eq_true] at h
    refine lnAll_app (lnAll_app ?_ (lnAll_items l (okLog_all h.1))) (lnAll_rsF r (i + 1) h.2)
    split
    · refine ⟨rfl, fun j x r' hx hr => ?_⟩
      cases j with
      | zero => simp at hx hr; subst hx; subst hr; exact Or.inl ⟨rfl, rfl⟩
      | succ j => simp at hx
    · exact ⟨rfl, fun j x r' hx => by simp at hx⟩
theorem LnAll.same {L : List ByteArray} {rs rs' : List (Option (Option It))} (h : LnAll L rs) (h' : LnAll L rs') : rs = rs' := by
  refine List.ext_getElem (by rw [h.1, h'.1]) (fun i h1 h2 => ?_)
  have hi : i < L.length := by rw [← h.1]; exact h1
  exact (h.2 i L[i] rs[i] (List.getElem?_eq_getElem hi) (List.getElem?_eq_getElem h1)).same (h'.2 i L[i] rs'[i] (List.getElem?_eq_getElem hi) (List.getElem?_eq_getElem h2))
theorem putL_item (A : List (List It)) (m : List It) (x : It) : putL (A ++ [m]) (some x) = A ++ [m ++ [x]] := by
  show (A ++ [m]).set ((A ++ [m]).length - 1) (((A ++ [m])[(A ++ [m]).length - 1]?).getD [] ++ [x]) = _
  have e : (A ++ [m]).length - 1 = A.length := by simp
  rw [e]
  simp
theorem run_items : ∀ (l : List It) (rest : List (Option (Option It))) (n : Nat) (A : List (List It)) (m : List It), dRun (l.map (fun x => some (some x)) ++ rest) n (A ++ [m]) = dRun rest (n + l.length) (A ++ [m ++ l])
  | [], rest, n, A, m => by simp
  | x :: l, rest, n, A, m => by
    show dRun (l.map (fun x => some (some x)) ++ rest) (n + 1) (putL (A ++ [m]) (some x)) = _
    rw [putL_item, run_items l rest (n + 1) A (m ++ [x])]
    simp [Nat.add_assoc, Nat.add_comm 1]
theorem run_rest : ∀ (r : List (List It)) (i n : Nat) (A : List (List It)), dRun (rsF r (i + 1)) n A = (A ++ r, 0)
  | [], i, n, A => by simp [rsF, dRun]
  | l :: r, i, n, A => by
    show dRun (([some none] ++ l.map (fun x => some (some x))) ++ rsF r (i + 1 + 1)) n A = _
    rw [List.append_assoc]
    show dRun (l.map (fun x => some (some x)) ++ rsF r (i + 1 + 1)) (n + 1) (A ++ [[]]) = _
    rw [run_items, List.nil_append, run_rest r (i + 1)]
    simp
theorem run_all {Ls : List (List It)} (h : 0 < Ls.length) : dRun (rsF Ls 0) 0 [[]] = (Ls, 0) := by
  cases Ls with
  | nil => simp at h
  | cons l r =>
    show dRun (([] ++ l.map (fun x => some (some x))) ++ rsF r 1) 0 ([] ++ [[]]) = _
    rw [List.nil_append, run_items, run_rest r 0]
    simp
/-- Logs that are ok are read from their lines. -/
theorem dsk_fwd {Ls : List (List It)} {rs : List (Option (Option It))} (hp : 0 < (dskO Ls).length) (hr : LnAll (dskO Ls) rs) : dskL rs = (Ls, 0) := by
  unfold dskO at hp hr
  split at hp
  · rename_i h
    rw [if_pos h] at hr
    have hL : 0 < Ls.length := by
      cases Ls with
      | nil => simp [dskF] at hp
      | cons l r => simp
    have h1 := hr.same (lnAll_rsF Ls 0 h.1)
    have h2 := hr.1
    unfold dskL
    rw [if_neg (by omega), h1, run_all hL]
    unfold dFin
    rw [if_pos rfl, if_pos h.1]
  · simp at hp
theorem back_run : ∀ (rs : List (Option (Option It))) (t : List ByteArray) (n : Nat) (A Ls : List (List It)), LnAll t rs → 0 < A.length → dRun rs n A = (Ls, 0) → dskF Ls 0 = dskF A 0 ++ t
  | [], t, n, A, Ls, ha, _, h => by
    have : t = [] := List.eq_nil_of_length_eq_zero ha.1.symm
    simp [dRun] at h
    rw [this, ← h]; simp
  | none :: rs, t, n, A, Ls, ha, _, h => by
    have h2 : (n : Int) + 1 = 0 := congrArg Prod.snd h
    omega
  | some r :: rs, t, n, A, Ls, ha, hA, h => by
    cases t with
    | nil => have := ha.1; simp at this
    | cons s t =>
      have h0 := ha.2 0 s (some r) rfl rfl
      have ha' : LnAll t rs := ⟨by have := ha.1; simpa using this, fun i x r' hx hr' => ha.2 (i + 1) x r' (by simpa using hx) (by simpa using hr')⟩
      have hA' : 0 < (putL A r).length := by unfold putL; split <;> simp <;> omega
      have h1 := back_run rs t (n + 1) (putL A r) Ls ha' hA' h
      rw [h1]
      cases r with
      | none =>
        show dskF (A ++ [[]]) 0 ++ t = _
        rw [dskF_dash hA, lnIt_dash h0]; simp
      | some x =>
        obtain ⟨B, m, rfl⟩ : ∃ B m, A = B ++ [m] := by
          rcases List.eq_nil_or_concat A with h9 | ⟨B, m, h9⟩
          · subst h9; simp at hA
          · exact ⟨B, m, by rw [h9]; simp⟩
        rw [putL_item, dskF_item, lnIt_back h0]; simp
/-- Lines that are read are what is written of what was read. -/
theorem dsk_back {t : List ByteArray} {rs : List (Option (Option It))} {Ls : List (List It)} (hr : LnAll t rs) (h : dskL rs = (Ls, 0)) : dskO Ls = t := by
  unfold dskL at h
  split at h
  · have := congrArg Prod.snd h; simp at this
  · rename_i h4
    have h4' : t.length ≤ 400 := by have := hr.1; omega
    unfold dFin at h
    split at h
    · split at h
      · rename_i hz hok
        have e : (dRun rs 0 [[]]).1 = Ls := congrArg Prod.fst h
        have h2 : dRun rs 0 [[]] = (Ls, 0) := by rw [← e, ← hz]
        have h3 := back_run rs t 0 [[]] Ls hr (by simp) h2
        have h5 : dskF Ls 0 = t := by rw [h3]; simp [dskF]
        rw [e] at hok
        unfold dskO
        rw [if_pos ⟨hok, by rw [h5]; exact h4'⟩, h5]
      · rename_i hz hok
        have h2 : ((rs.length : Int) + 1) = 0 := congrArg Prod.snd h
        omega
    · rename_i hz
      have h2 : (dRun rs 0 [[]]).2 = 0 := congrArg Prod.snd h
      exact absurd h2 hz
theorem lnX_size (x : It) : (lnX x).size ≤ 80 := by
  unfold lnX itmText
  split
  · rename_i h; exact itmTxt_size _ _ _ _ _ h
  · decide
theorem dskO_bd (Ls : List (List It)) : (dskO Ls).length ≤ 400 ∧ ∀ s ∈ dskO Ls, s.size ≤ 80 := by
  unfold dskO
  split
  · rename_i h
    refine ⟨h.2, ?_⟩
    have key : ∀ (Ms : List (List It)) (i : Nat), ∀ s ∈ dskF Ms i, s.size ≤ 80 := by
      intro Ms
      induction Ms with
      | nil => intro i s hs; simp [dskF] at hs
      | cons l r ih =>
        intro i s hs
        rcases List.mem_append.1 hs with hs | hs
        · rcases List.mem_append.1 hs with hs | hs
          · split at hs
            · simp at hs; subst hs; decide
            · simp at hs
          · obtain ⟨x, _, rfl⟩ := List.mem_map.1 hs
            exact lnX_size x
        · exact ih _ s hs
    exact key Ls 0
  · exact ⟨by simp, fun s hs => by simp at hs⟩
end Go.Proofs.YtcokdcehjibanaaGreatDoor
