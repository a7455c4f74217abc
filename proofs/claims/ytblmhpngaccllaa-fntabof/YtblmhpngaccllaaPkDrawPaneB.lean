/- Laid together: what the claim needs of the texts that were built one by one. -/
import Derived.Test.YtblmhpngaccllaaPkBase
import Derived.Test.YtblmhpngaccllaaPkDrawWin
import Derived.Deep.DeepCutAuto
import Derived.Lib.SmallJoins
namespace Go.Proofs.Ytblmhpngaccllaa
open Go.ChangeShapes Go.WideShapes Go.ChangeAt Go.RowKit
set_option linter.unusedVariables false

theorem elm1_4_ (y : Int) (h3 : 0 ≤ y) (h4 : y < 2) : ∃ t : Int, (#[Value.int .i64 (-1), Value.int .i64 4] : Array Value)[y.toNat]? = some (.int .i64 t) ∧ (-1) ≤ t ∧ t ≤ 4 := by
  obtain rfl | rfl : y = 0 ∨ y = 1 := by omega
  · exact ⟨(-1), rfl, by decide, by decide⟩
  · exact ⟨4, rfl, by decide, by decide⟩

theorem elm1_0_1_1500_1501_ (y : Int) (h3 : 0 ≤ y) (h4 : y < 5) : ∃ t : Int, (#[Value.int .i64 (-1), Value.int .i64 0, Value.int .i64 1, Value.int .i64 1500, Value.int .i64 1501] : Array Value)[y.toNat]? = some (.int .i64 t) ∧ (-1) ≤ t ∧ t ≤ 1501 := by
  obtain rfl | rfl | rfl | rfl | rfl : y = 0 ∨ y = 1 ∨ y = 2 ∨ y = 3 ∨ y = 4 := by omega
  · exact ⟨(-1), rfl, by decide, by decide⟩
  · exact ⟨0, rfl, by decide, by decide⟩
  · exact ⟨1, rfl, by decide, by decide⟩
  · exact ⟨1500, rfl, by decide, by decide⟩
  · exact ⟨1501, rfl, by decide, by decide⟩

def WB (a b : Int) : Prop := (-1 ≤ a ∧ a ≤ 121) ∧ (-1 ≤ b ∧ b ≤ 121)

def PSlT (R n : Nat) (cs : Array Value) (ty : Nat) : Prd := fun v w => ∃ g, v = .slice (some ⟨g, 0, none⟩) n n ∧ g ≠ R ∧ w.heap[g]? = some (.cells cs ty (0, 0))

theorem st_slt (R n : Nat) (cs : Array Value) (ty : Nat) : St R (PSlT R n cs ty) := fun _ _ _ k ⟨g, e, hn, hb⟩ => ⟨g, e, hn, (k.all g (heap_lt hb) hn).trans hb⟩

def PPtW (R : Nat) : Prd := fun v w => ∃ g k a b, v = .pointer (some ⟨g, k, none⟩) ∧ g ≠ R ∧ w.cell? ⟨g, k, none⟩ = some (.int .i64 a) ∧ w.cell? ⟨g, k + 1, none⟩ = some (.int .i64 b) ∧ WB a b

theorem st_ptw (R : Nat) : St R (PPtW R) := fun _ w _ k ⟨g, o, a, b, e, hn, hc, hd, hz⟩ => ⟨g, o, a, b, e, hn, (k.cell (World.block_lt_of_cell? w ⟨g, o, none⟩ hc) hn).trans hc, (k.cell (World.block_lt_of_cell? w ⟨g, o, none⟩ hc) hn).trans hd, hz⟩

def PWin : Prd := fun v _ => ∃ a b : Int, v = .agg #[.int .i64 a, .int .i64 b] ∧ WB a b

theorem st_win (R : Nat) : St R PWin := fun _ _ _ _ h => h

def PAgg : Prd := fun v _ => ∃ n m l t : Int, v = .agg #[.int .i64 n, .int .i64 m, .int .i64 l, .int .i64 t]

theorem st_agg (R : Nat) : St R PAgg := fun _ _ _ _ h => h

def PPane : Prd := fun u _ => ∃ c0 c1 c2 c3 c4 c5 c6 c7 c8 : Int, u = .agg #[.int .i64 c0, .int .i64 c1, .int .i64 c2, .int .i64 c3, .int .i64 c4, .int .i64 c5, .int .i64 c6, .int .i64 c7, .int .i64 c8] ∧ (-1 ≤ c0 ∧ c0 ≤ 4) ∧ WB c1 c2

theorem st_pane (R : Nat) : St R PPane := fun _ _ _ _ h => h

theorem elW (y : Int) (h3 : 0 ≤ y) (h4 : y < 3) : ∃ a b : Int, (#[Value.int .i64 0, Value.int .i64 5, Value.int .i64 5, Value.int .i64 10, Value.int .i64 3, Value.int .i64 12] : Array Value)[y.toNat * 2]? = some (.int .i64 a) ∧ (#[Value.int .i64 0, Value.int .i64 5, Value.int .i64 5, Value.int .i64 10, Value.int .i64 3, Value.int .i64 12] : Array Value)[y.toNat * 2 + 1]? = some (.int .i64 b) ∧ WB a b := by
  obtain rfl | rfl | rfl : y = 0 ∨ y = 1 ∨ y = 2 := by omega
  · exact ⟨0, 5, rfl, rfl, by unfold WB; omega⟩
  · exact ⟨5, 10, rfl, rfl, by unfold WB; omega⟩
  · exact ⟨3, 12, rfl, rfl, by unfold WB; omega⟩

theorem blk9 {W : World} {B ty : Nat} {z0 z1 z2 z3 z4 z5 z6 z7 z8 u0 u1 u2 u3 u4 u5 u6 u7 u8 : Value} (h : W.heap[B]? = some (.cells #[z0, z1, z2, z3, z4, z5, z6, z7, z8] ty (0, 0))) : (((((((((W.setCell ⟨B, 0, none⟩ u0).setCell ⟨B, 1, none⟩ u1).setCell ⟨B, 2, none⟩ u2).setCell ⟨B, 3, none⟩ u3).setCell ⟨B, 4, none⟩ u4).setCell ⟨B, 5, none⟩ u5).setCell ⟨B, 6, none⟩ u6).setCell ⟨B, 7, none⟩ u7).setCell ⟨B, 8, none⟩ u8).heap[B]? = some (.cells #[u0, u1, u2, u3, u4, u5, u6, u7, u8] ty (0, 0)) := by
  have h : (W.setCell ⟨B, 0, none⟩ u0).heap[B]? = some (.cells #[u0, z1, z2, z3, z4, z5, z6, z7, z8] ty (0, 0)) := Joins.block_setCell h _
  have h : ((W.setCell ⟨B, 0, none⟩ u0).setCell ⟨B, 1, none⟩ u1).heap[B]? = some (.cells #[u0, u1, z2, z3, z4, z5, z6, z7, z8] ty (0, 0)) := Joins.block_setCell h _
  have h : (((W.setCell ⟨B, 0, none⟩ u0).setCell ⟨B, 1, none⟩ u1).setCell ⟨B, 2, none⟩ u2).heap[B]? = some (.cells #[u0, u1, u2, z3, z4, z5, z6, z7, z8] ty (0, 0)) := Joins.block_setCell h _
  have h : ((((W.setCell ⟨B, 0, none⟩ u0).setCell ⟨B, 1, none⟩ u1).setCell ⟨B, 2, none⟩ u2).setCell ⟨B, 3, none⟩ u3).heap[B]? = some (.cells #[u0, u1, u2, u3, z4, z5, z6, z7, z8] ty (0, 0)) := Joins.block_setCell h _
  have h : (((((W.setCell ⟨B, 0, none⟩ u0).setCell ⟨B, 1, none⟩ u1).setCell ⟨B, 2, none⟩ u2).setCell ⟨B, 3, none⟩ u3).setCell ⟨B, 4, none⟩ u4).heap[B]? = some (.cells #[u0, u1, u2, u3, u4, z5, z6, z7, z8] ty (0, 0)) := Joins.block_setCell h _
  have h : ((((((W.setCell ⟨B, 0, none⟩ u0).setCell ⟨B, 1, none⟩ u1).setCell ⟨B, 2, none⟩ u2).setCell ⟨B, 3, none⟩ u3).setCell ⟨B, 4, none⟩ u4).setCell ⟨B, 5, none⟩ u5).heap[B]? = some (.cells #[u0, u1, u2, u3, u4, u5, z6, z7, z8] ty (0, 0)) := Joins.block_setCell h _
  have h : (((((((W.setCell ⟨B, 0, none⟩ u0).setCell ⟨B, 1, none⟩ u1).setCell ⟨B, 2, none⟩ u2).setCell ⟨B, 3, none⟩ u3).setCell ⟨B, 4, none⟩ u4).setCell ⟨B, 5, none⟩ u5).setCell ⟨B, 6, none⟩ u6).heap[B]? = some (.cells #[u0, u1, u2, u3, u4, u5, u6, z7, z8] ty (0, 0)) := Joins.block_setCell h _
  have h : ((((((((W.setCell ⟨B, 0, none⟩ u0).setCell ⟨B, 1, none⟩ u1).setCell ⟨B, 2, none⟩ u2).setCell ⟨B, 3, none⟩ u3).setCell ⟨B, 4, none⟩ u4).setCell ⟨B, 5, none⟩ u5).setCell ⟨B, 6, none⟩ u6).setCell ⟨B, 7, none⟩ u7).heap[B]? = some (.cells #[u0, u1, u2, u3, u4, u5, u6, u7, z8] ty (0, 0)) := Joins.block_setCell h _
  have h : (((((((((W.setCell ⟨B, 0, none⟩ u0).setCell ⟨B, 1, none⟩ u1).setCell ⟨B, 2, none⟩ u2).setCell ⟨B, 3, none⟩ u3).setCell ⟨B, 4, none⟩ u4).setCell ⟨B, 5, none⟩ u5).setCell ⟨B, 6, none⟩ u6).setCell ⟨B, 7, none⟩ u7).setCell ⟨B, 8, none⟩ u8).heap[B]? = some (.cells #[u0, u1, u2, u3, u4, u5, u6, u7, u8] ty (0, 0)) := Joins.block_setCell h _
  exact h

/-- What is left of the region: a pane in a box. -/
def PaneB (R : Nat) (w0 : World) (a : Option Addr) (len cap p : Nat) (pv : Value) (W : World) : Prop := ∃ (B : Nat) (c0 c1 c2 c3 c4 c5 c6 c7 c8 : Int), pv = .pointer (some ⟨B, 0, none⟩) ∧ w0.heap.size ≤ B ∧ W.heap[B]? = some (.cells #[.int .i64 c0, .int .i64 c1, .int .i64 c2, .int .i64 c3, .int .i64 c4, .int .i64 c5, .int .i64 c6, .int .i64 c7, .int .i64 c8] 35 (0, 0)) ∧ Kp R w0 W ∧ ∃ p', p' ≤ p + 13 ∧ Rd R W a len cap p' ∧ (-1 ≤ c0 ∧ c0 ≤ 4) ∧ WB c1 c2

def PaneP (R : Nat) (w : World) (a : Option Addr) (len cap p : Nat) (e' : Ending) (w' : World) : Prop := ∃ c0 c1 c2 c3 c4 c5 c6 c7 c8 : Int, e' = .returned (.agg #[.int .i64 c0, .int .i64 c1, .int .i64 c2, .int .i64 c3, .int .i64 c4, .int .i64 c5, .int .i64 c6, .int .i64 c7, .int .i64 c8]) ∧ Kp R w w' ∧ ∃ p', p' ≤ p + 40 ∧ Rd R w' a len cap p' ∧ (-1 ≤ c0 ∧ c0 ≤ 4) ∧ WB c1 c2

def panePs (R B0 : Nat) : List Prd := [PIs (.pointer (some ⟨R, 0, none⟩)), PInt 0 2, PIs (.agg #[.int .i64 0, .int .i64 5]), PIs (.agg #[.int .i64 5, .int .i64 10]), PIs (.agg #[.int .i64 3, .int .i64 12]), PSlT R 3 #[.int .i64 0, .int .i64 5, .int .i64 5, .int .i64 10, .int .i64 3, .int .i64 12] 31, PIs (.pointer (some ⟨R, 0, none⟩)), PInt 0 2, PPtW R, PWin, PIs (.pointer (some ⟨R, 0, none⟩)), PAgg, PIs (.pointer (some ⟨R, 0, none⟩)), PInt 0 18, PInt (-9) 9, PAgg, PPane, PBox R B0 #[.int .i64 0, .int .i64 0, .int .i64 0, .int .i64 0, .int .i64 0, .int .i64 0, .int .i64 0, .int .i64 0, .int .i64 0] 35, PAny]

theorem paneSt (R B0 : Nat) : AllSt R (panePs R B0) := ⟨st_is _ _, st_int _ _ _, st_is _ _, st_is _ _, st_is _ _, st_slt _ _ _ _, st_is _ _, st_int _ _ _, st_ptw _, st_win _, st_is _ _, st_agg _, st_is _ _, st_int _ _ _, st_int _ _ _, st_agg _, st_pane _, st_box _ _ _ _, st_any _, trivial⟩

set_option linter.unusedSimpArgs false in
set_option maxRecDepth 20000 in
set_option maxHeartbeats 16000000 in
theorem pane_any (R : Nat) (a : Option Addr) (len cap p : Nat) (n : Int) (w : World) (hn : 1 ≤ n) (hn2 : n ≤ 100000) (hp : p ≤ 700000) (hR0 : R < w.heap.size) (h : Rd R w a len cap p) : Calls Try.prog 31 #[.pointer (some ⟨R, 0, none⟩), .int .i64 n] w fun e w' => PaneP R w a len cap p e w' := by
  go_enter Try.func31, Try.ntmps31
  go_wp2_with fail
  go_cut [5] (fun pv W => PaneB R (w.alloc (.cells #[.int .i64 0, .int .i64 0, .int .i64 0, .int .i64 0, .int .i64 0, .int .i64 0, .int .i64 0, .int .i64 0, .int .i64 0] 35)) a len cap p pv W)
  case first =>
    have hst := paneSt R (w.heap.size + 1)
    have hrd := h.kp hR0 (bel_one w (.cells #[.int .i64 0, .int .i64 0, .int .i64 0, .int .i64 0, .int .i64 0, .int .i64 0, .int .i64 0, .int .i64 0, .int .i64 0] 35))
    refine wp_region_last (by kernel_rfl) (by kernel_rfl) (by kernel_rfl) (Drawing R (w.heap.size + 1) a len cap p (w.alloc (.cells #[.int .i64 0, .int .i64 0, .int .i64 0, .int .i64 0, .int .i64 0, .int .i64 0, .int .i64 0, .int .i64 0, .int .i64 0] 35)) (panePs R (w.heap.size + 1)) [1, 7, 13, 11, 11, 11, 11, 11, 11, 11, 11, 11, 11] (fun V => #[.pointer (some ⟨R, 0, none⟩), .int .i64 n, undef, undef, .pointer (some ⟨w.heap.size, 0, none⟩), V 17, V 0, V 1, V 2, V 3, V 4, V 5, V 6, V 7, V 8, V 9, V 10, V 11, V 12, V 13, V 14, V 15, V 16, undef, undef, undef, undef, undef, undef, undef, undef, undef, undef, undef, undef, undef, undef, undef, undef, undef, undef, undef, undef, undef, undef, undef, undef, undef, undef, undef, undef, undef, undef, undef, undef, undef, undef, undef, undef, undef, undef, undef, undef, undef, undef, undef, undef, undef, undef, undef, undef, undef, undef, undef, undef, undef, undef, undef, undef]) []) ?_ ?_
    · refine ⟨fun _ => undef, rfl, ?_, ⟨(Below.refl _ _).drew, fun _ _ _ => rfl⟩, ?_, ?_, p, ?_, ?_⟩
      · intro j hj
        exact absurd hj (by simp)
      · simp
      · omega
      · omega
      · exact ⟨hrd.1, hrd.2, hrd.3, hrd.4, hrd.5, hrd.6, hrd.7⟩
    refine ⟨?_, ?_, ?_, ?_, ?_, ?_, ?_, ?_, ?_, ?_, ?_, ?_, ?_, ?_, ?_, ?_, ?_, ?_, ?_⟩
    · intro L ac W hI hL hA K' hK
      obtain ⟨V, rfl, hP, hk, hB, hR, hr⟩ := hI
      go_simp
      refine hK.out _ _ (Drawing.pure (i := 0) (.pointer (some ⟨R, 0, none⟩)) hP hk hB hR hr rfl ?_)
      simp [put1]
    · intro L ac W hI hL hA K' hK
      obtain ⟨V, rfl, hP, hk, hB, hR, hr⟩ := hI
      have e0 : V 0 = (.pointer (some ⟨R, 0, none⟩)) := hP 0 (hA ⟨0, .data⟩ (by simp) rfl)
      simp only [e0]
      obtain ⟨p', hp', hd⟩ := hr
      have hlt : cntL L [1, 7, 13, 11, 11, 11, 11, 11, 11, 11, 11, 11, 11] + 1 ≤ cntL (more L 1) [1, 7, 13, 11, 11, 11, 11, 11, 11, 11, 11, 11, 11] := cntL_lt (i := 1) hL [1, 7, 13, 11, 11, 11, 11, 11, 11, 11, 11, 11, 11] (by decide)
      have hcn := cntL_len L [1, 7, 13, 11, 11, 11, 11, 11, 11, 11, 11, 11, 11]
      simp only [List.length_cons, List.length_nil] at hcn
      go_simp
      (go_at_call 15; refine (pick_any R a len cap p' 3 W (by omega) (by omega) hd).mono ?_; rintro e' W' ⟨x, rfl, x0, x1, kW, rW⟩)
      (try go_wp2_with fail)
      refine hK.out _ _ (Drawing.drew (i := 1) (.int .i64 x) hst hP hk hB hR kW ⟨p' + 1, by omega, rW (by omega)⟩ ⟨x, rfl, by omega, by omega⟩ ?_)
      simp [put1, e0]
    · intro L ac W hI hL hA K' hK
      obtain ⟨V, rfl, hP, hk, hB, hR, hr⟩ := hI
      go_simp
      refine hK.out _ _ (Drawing.pure (i := 2) (.agg #[.int .i64 0, .int .i64 5]) hP hk hB hR hr rfl ?_)
      simp [put1]
    · intro L ac W hI hL hA K' hK
      obtain ⟨V, rfl, hP, hk, hB, hR, hr⟩ := hI
      go_simp
      refine hK.out _ _ (Drawing.pure (i := 3) (.agg #[.int .i64 5, .int .i64 10]) hP hk hB hR hr rfl ?_)
      simp [put1]
    · intro L ac W hI hL hA K' hK
      obtain ⟨V, rfl, hP, hk, hB, hR, hr⟩ := hI
      go_simp
      refine hK.out _ _ (Drawing.pure (i := 4) (.agg #[.int .i64 3, .int .i64 12]) hP hk hB hR hr rfl ?_)
      simp [put1]
    · intro L ac W hI hL hA K' hK
      obtain ⟨V, rfl, hP, hk, hB, hR, hr⟩ := hI
      have e2 : V 2 = (.agg #[.int .i64 0, .int .i64 5]) := hP 2 (hA ⟨2, .data⟩ (by simp) rfl)
      have e3 : V 3 = (.agg #[.int .i64 5, .int .i64 10]) := hP 3 (hA ⟨3, .data⟩ (by simp) rfl)
      have e4 : V 4 = (.agg #[.int .i64 3, .int .i64 12]) := hP 4 (hA ⟨4, .data⟩ (by simp) rfl)
      simp only [e2, e3, e4]
      go_simp
      refine hK.out _ _ (Drawing.made (i := 5) (.slice (some ⟨W.heap.size, 0, none⟩) 3 3) (.cells #[.int .i64 0, .int .i64 5, .int .i64 5, .int .i64 10, .int .i64 3, .int .i64 12] 31) hst hP hk hB hR hr ⟨_, rfl, by omega, heap_alloc_new _ _⟩ ?_)
      simp [put1, e2, e3, e4]
    · intro L ac W hI hL hA K' hK
      obtain ⟨V, rfl, hP, hk, hB, hR, hr⟩ := hI
      go_simp
      refine hK.out _ _ (Drawing.pure (i := 6) (.pointer (some ⟨R, 0, none⟩)) hP hk hB hR hr rfl ?_)
      simp [put1]
    · intro L ac W hI hL hA K' hK
      obtain ⟨V, rfl, hP, hk, hB, hR, hr⟩ := hI
      have e6 : V 6 = (.pointer (some ⟨R, 0, none⟩)) := hP 6 (hA ⟨6, .data⟩ (by simp) rfl)
      simp only [e6]
      obtain ⟨p', hp', hd⟩ := hr
      have hlt : cntL L [1, 7, 13, 11, 11, 11, 11, 11, 11, 11, 11, 11, 11] + 1 ≤ cntL (more L 7) [1, 7, 13, 11, 11, 11, 11, 11, 11, 11, 11, 11, 11] := cntL_lt (i := 7) hL [1, 7, 13, 11, 11, 11, 11, 11, 11, 11, 11, 11, 11] (by decide)
      have hcn := cntL_len L [1, 7, 13, 11, 11, 11, 11, 11, 11, 11, 11, 11, 11]
      simp only [List.length_cons, List.length_nil] at hcn
      go_simp
      (go_at_call 15; refine (pick_any R a len cap p' 3 W (by omega) (by omega) hd).mono ?_; rintro e' W' ⟨x, rfl, x0, x1, kW, rW⟩)
      (try go_wp2_with fail)
      refine hK.out _ _ (Drawing.drew (i := 7) (.int .i64 x) hst hP hk hB hR kW ⟨p' + 1, by omega, rW (by omega)⟩ ⟨x, rfl, by omega, by omega⟩ ?_)
      simp [put1, e6]
    · intro L ac W hI hL hA K' hK
      obtain ⟨V, rfl, hP, hk, hB, hR, hr⟩ := hI
      obtain ⟨g5, e5, n5, k5⟩ := (show PSlT R 3 #[.int .i64 0, .int .i64 5, .int .i64 5, .int .i64 10, .int .i64 3, .int .i64 12] 31 (V 5) W from hP 5 (hA ⟨5, .data⟩ (by simp) rfl))
      obtain ⟨z7, e7, lo7, hi7⟩ := (show PInt 0 2 (V 7) W from hP 7 (hA ⟨7, .data⟩ (by simp) rfl))
      simp only [e5, e7]
      obtain ⟨za, zb, h9a, h9b, hzb⟩ := elW z7 lo7 (by omega)
      have q0 := (cells_blk (n := 0) k5 (z7.toNat * 2)).1.trans h9a
      have q1 := (cells_blk (n := 0) k5 (z7.toNat * 2 + 1)).1.trans h9b
      have hix : (0 : Int) ≤ z7 ∧ z7 < 3 := ⟨lo7, by omega⟩
      have hix1 : ¬ z7 < 0 := by omega
      have hix2 : z7.toNat < 3 := by omega
      go_simp
      refine hK.out _ _ (Drawing.pure (i := 8) (.pointer (some ⟨g5, z7.toNat * 2, none⟩)) hP hk hB hR hr ⟨_, _, _, _, rfl, n5, q0, q1, hzb⟩ ?_)
      simp [put1, e5, e7]
    · intro L ac W hI hL hA K' hK
      obtain ⟨V, rfl, hP, hk, hB, hR, hr⟩ := hI
      obtain ⟨g8, o8, za8, zb8, e8, n8, c8a, c8b, hz8⟩ := (show PPtW R (V 8) W from hP 8 (hA ⟨8, .data⟩ (by simp) rfl))
      simp only [e8]
      go_simp
      refine hK.out _ _ (Drawing.pure (i := 9) (.agg #[.int .i64 za8, .int .i64 zb8]) hP hk hB hR hr ⟨_, _, rfl, hz8⟩ ?_)
      simp [put1, e8]
    · intro L ac W hI hL hA K' hK
      obtain ⟨V, rfl, hP, hk, hB, hR, hr⟩ := hI
      go_simp
      refine hK.out _ _ (Drawing.pure (i := 10) (.pointer (some ⟨R, 0, none⟩)) hP hk hB hR hr rfl ?_)
      simp [put1]
    · intro L ac W hI hL hA K' hK
      obtain ⟨V, rfl, hP, hk, hB, hR, hr⟩ := hI
      have e10 : V 10 = (.pointer (some ⟨R, 0, none⟩)) := hP 10 (hA ⟨10, .data⟩ (by simp) rfl)
      simp only [e10]
      obtain ⟨p', hp', hd⟩ := hr
      have hlt : cntL L [1, 7, 13, 11, 11, 11, 11, 11, 11, 11, 11, 11, 11] + 10 ≤ cntL (more L 11) [1, 7, 13, 11, 11, 11, 11, 11, 11, 11, 11, 11, 11] := by have hL' : L 11 = false := hL; simp [cntL, more, hL']; omega
      have hcn := cntL_len L [1, 7, 13, 11, 11, 11, 11, 11, 11, 11, 11, 11, 11]
      simp only [List.length_cons, List.length_nil] at hcn
      go_simp
      (go_at_call 39; refine (agg_any R a len cap p' 99 W (by omega) (by omega) (by omega) (by omega) hd).mono ?_; rintro e' W' ⟨n0, m0, l0, t0, rfl, _, _, _, _, kW, p2, hp2, rW⟩)
      (try go_wp2_with fail)
      refine hK.out _ _ (Drawing.drew (i := 11) (.agg #[.int .i64 n0, .int .i64 m0, .int .i64 l0, .int .i64 t0]) hst hP hk hB hR kW ⟨p2, by omega, rW⟩ ⟨_, _, _, _, rfl⟩ ?_)
      simp [put1, e10]
    · intro L ac W hI hL hA K' hK
      obtain ⟨V, rfl, hP, hk, hB, hR, hr⟩ := hI
      go_simp
      refine hK.out _ _ (Drawing.pure (i := 12) (.pointer (some ⟨R, 0, none⟩)) hP hk hB hR hr rfl ?_)
      simp [put1]
    · intro L ac W hI hL hA K' hK
      obtain ⟨V, rfl, hP, hk, hB, hR, hr⟩ := hI
      have e12 : V 12 = (.pointer (some ⟨R, 0, none⟩)) := hP 12 (hA ⟨12, .data⟩ (by simp) rfl)
      simp only [e12]
      obtain ⟨p', hp', hd⟩ := hr
      have hlt : cntL L [1, 7, 13, 11, 11, 11, 11, 11, 11, 11, 11, 11, 11] + 1 ≤ cntL (more L 13) [1, 7, 13, 11, 11, 11, 11, 11, 11, 11, 11, 11, 11] := cntL_lt (i := 13) hL [1, 7, 13, 11, 11, 11, 11, 11, 11, 11, 11, 11, 11] (by decide)
      have hcn := cntL_len L [1, 7, 13, 11, 11, 11, 11, 11, 11, 11, 11, 11, 11]
      simp only [List.length_cons, List.length_nil] at hcn
      go_simp
      (go_at_call 15; refine (pick_any R a len cap p' 19 W (by omega) (by omega) hd).mono ?_; rintro e' W' ⟨x, rfl, x0, x1, kW, rW⟩)
      (try go_wp2_with fail)
      refine hK.out _ _ (Drawing.drew (i := 13) (.int .i64 x) hst hP hk hB hR kW ⟨p' + 1, by omega, rW (by omega)⟩ ⟨x, rfl, by omega, by omega⟩ ?_)
      simp [put1, e12]
    · intro L ac W hI hL hA K' hK
      obtain ⟨V, rfl, hP, hk, hB, hR, hr⟩ := hI
      obtain ⟨z13, e13, lo13, hi13⟩ := (show PInt 0 18 (V 13) W from hP 13 (hA ⟨13, .data⟩ (by simp) rfl))
      simp only [e13]
      have hw9 : IntKind.i64.wrap (z13 - 9) = z13 - 9 := by rw [IntKind.wrap_i64]; omega
      go_simp
      (try rw [hw9])
      refine hK.out _ _ (Drawing.pure (i := 14) (.int .i64 (z13 - 9)) hP hk hB hR hr ⟨_, rfl, by omega, by omega⟩ ?_)
      simp [put1, e13]
    · intro L ac W hI hL hA K' hK
      obtain ⟨V, rfl, hP, hk, hB, hR, hr⟩ := hI
      obtain ⟨n11, m11, l11, t11, e11⟩ := (show PAgg (V 11) W from hP 11 (hA ⟨11, .data⟩ (by simp) rfl))
      obtain ⟨z14, e14, lo14, hi14⟩ := (show PInt (-9) 9 (V 14) W from hP 14 (hA ⟨14, .data⟩ (by simp) rfl))
      simp only [e11, e14]
      obtain ⟨p', hp', hd⟩ := hr
      have hle := cntL_le L 15 [1, 7, 13, 11, 11, 11, 11, 11, 11, 11, 11, 11, 11]
      go_simp
      obtain ⟨n1, m1, l1, t1, hadd⟩ : ∃ n1 m1 l1 t1, bo n11 1 n11 1 (wrap64 (n11 + 1)) = n1 ∧ bo n11 1 m11 z14 (wrap64 (m11 + z14)) = m1 ∧ bo n11 1 l11 z14 (loI l11 z14) = l1 ∧ bo n11 1 t11 z14 (hiI t11 z14) = t1 := ⟨_, _, _, _, rfl, rfl, rfl, rfl⟩
      (go_at_call 38; refine (specadd_b W (hide hadd)).mono ?_; rintro e' W' ⟨rfl, hbW⟩)
      (try go_wp2_with fail)
      refine hK.out _ _ (Drawing.drew (i := 15) (.agg #[.int .i64 n1, .int .i64 m1, .int .i64 l1, .int .i64 t1]) hst hP hk hB hR (Kp.of_bel (by omega) hbW) ⟨p', by omega, hd.kp (by omega) hbW⟩ ⟨_, _, _, _, rfl⟩ ?_)
      simp [put1, e11, e14]
    · intro L ac W hI hL hA K' hK
      obtain ⟨V, rfl, hP, hk, hB, hR, hr⟩ := hI
      obtain ⟨z1, e1, lo1, hi1⟩ := (show PInt 0 2 (V 1) W from hP 1 (hA ⟨1, .data⟩ (by simp) rfl))
      obtain ⟨a9, b9, e9, hw9⟩ := (show PWin (V 9) W from hP 9 (hA ⟨9, .data⟩ (by simp) rfl))
      obtain ⟨n15, m15, l15, t15, e15⟩ := (show PAgg (V 15) W from hP 15 (hA ⟨15, .data⟩ (by simp) rfl))
      simp only [e1, e9, e15]
      go_simp
      refine hK.out _ _ (Drawing.pure (i := 16) (.agg #[.int .i64 z1, .int .i64 a9, .int .i64 b9, .int .i64 0, .int .i64 1, .int .i64 n15, .int .i64 m15, .int .i64 l15, .int .i64 t15]) hP hk hB hR hr ⟨_, _, _, _, _, _, _, _, _, rfl, ⟨by omega, by omega⟩, hw9⟩ ?_)
      simp [put1, e1, e9, e15]
    · intro L ac W hI hL hA K' hK
      obtain ⟨V, rfl, hP, hk, hB, hR, hr⟩ := hI
      go_simp
      refine hK.out _ _ (Drawing.made (i := 17) (.pointer (some ⟨W.heap.size, 0, none⟩)) (.cells #[.int .i64 0, .int .i64 0, .int .i64 0, .int .i64 0, .int .i64 0, .int .i64 0, .int .i64 0, .int .i64 0, .int .i64 0] 35) hst hP hk hB hR hr ⟨_, rfl, by omega, hB, heap_alloc_new _ _⟩ ?_)
      simp [put1]
    · intro L ac W hI hA K' hK
      obtain ⟨V, rfl, hP, hk, hB, hR, p', hp', hd⟩ := hI
      obtain ⟨g17, e17, n17, m17, k17⟩ := (show PBox R (w.heap.size + 1) #[.int .i64 0, .int .i64 0, .int .i64 0, .int .i64 0, .int .i64 0, .int .i64 0, .int .i64 0, .int .i64 0, .int .i64 0] 35 (V 17) W from hP 17 (hA 17 (by decide)))
      obtain ⟨c0, c1, c2, c3, c4, c5, c6, c7, c8, e16, hc16⟩ := (show PPane (V 16) W from hP 16 (hA 16 (by decide)))
      have hcn := cntL_len L [1, 7, 13, 11, 11, 11, 11, 11, 11, 11, 11, 11, 11]
      simp only [List.length_cons, List.length_nil] at hcn
      obtain ⟨x0, f0⟩ := cells_blk (n := 0) k17 0
      obtain ⟨x1, f1⟩ := cells_blk (n := 0) k17 1
      obtain ⟨x2, f2⟩ := cells_blk (n := 0) k17 2
      obtain ⟨x3, f3⟩ := cells_blk (n := 0) k17 3
      obtain ⟨x4, f4⟩ := cells_blk (n := 0) k17 4
      obtain ⟨x5, f5⟩ := cells_blk (n := 0) k17 5
      obtain ⟨x6, f6⟩ := cells_blk (n := 0) k17 6
      obtain ⟨x7, f7⟩ := cells_blk (n := 0) k17 7
      obtain ⟨x8, f8⟩ := cells_blk (n := 0) k17 8
      simp only [gA, gZ, gS] at x0 x1 x2 x3 x4 x5 x6 x7 x8
      go_simp
      refine hK.out _ _ ?_
      go_wp2
      go_meet
      refine ⟨g17, c0, c1, c2, c3, c4, c5, c6, c7, c8, rfl, by simp; omega, ?_, ?_, p', by omega, ?_, hc16⟩
      · exact blk9 k17
      · exact (kp_setB (kp_setB (kp_setB (kp_setB (kp_setB (kp_setB (kp_setB (kp_setB (kp_setB hk (by omega) (by simp; omega)) (by omega) (by simp; omega)) (by omega) (by simp; omega)) (by omega) (by simp; omega)) (by omega) (by simp; omega)) (by omega) (by simp; omega)) (by omega) (by simp; omega)) (by omega) (by simp; omega)) (by omega) (by simp; omega))
      · exact (rd_setB (rd_setB (rd_setB (rd_setB (rd_setB (rd_setB (rd_setB (rd_setB (rd_setB hd (by omega)) (by omega)) (by omega)) (by omega)) (by omega)) (by omega)) (by omega)) (by omega)) (by omega))
  case rest =>
    rename World => wa
    obtain ⟨B, c0, c1, c2, c3, c4, c5, c6, c7, c8, rfl, hB, hX, hk, p1, hp1, hd, ⟨hc0a, hc0b⟩, hW⟩ := hcut
    have HW := hide hW
    clear hW
    have hwB' : w.heap.size + 1 ≤ B := by simpa using hB
    have hwB : w.heap.size ≤ B := by omega
    have hRB : R < B := by omega
    have neB : w.heap.size ≠ B := by omega
    have neB2 : B ≠ w.heap.size := by omega
    clear hB
    have HX := hide hX
    have HR := hide (show wa.heap[w.heap.size]? = some (.cells #[.int .i64 0, .int .i64 0, .int .i64 0, .int .i64 0, .int .i64 0, .int .i64 0, .int .i64 0, .int .i64 0, .int .i64 0] 35 (0, 0)) from (hk.all _ (by simp) (by omega)).trans (heap_alloc_new _ _))
    have HK := hide ((Kp.of_bel (Nat.le_of_lt hR0) (bel_one w _)).trans hk)
    have HD := hide hd
    clear hX hk hd
    have ltB : B < wa.heap.size := heap_lt (unhide HX)
    have ltR : w.heap.size < wa.heap.size := heap_lt (unhide HR)
    obtain ⟨qx0, qf0⟩ := cells_blk (n := 0) (unhide HX) 0
    obtain ⟨qx1, qf1⟩ := cells_blk (n := 0) (unhide HX) 1
    obtain ⟨qx2, qf2⟩ := cells_blk (n := 0) (unhide HX) 2
    obtain ⟨qx3, qf3⟩ := cells_blk (n := 0) (unhide HX) 3
    obtain ⟨qx4, qf4⟩ := cells_blk (n := 0) (unhide HX) 4
    obtain ⟨qx5, qf5⟩ := cells_blk (n := 0) (unhide HX) 5
    obtain ⟨qx6, qf6⟩ := cells_blk (n := 0) (unhide HX) 6
    obtain ⟨qx7, qf7⟩ := cells_blk (n := 0) (unhide HX) 7
    obtain ⟨qx8, qf8⟩ := cells_blk (n := 0) (unhide HX) 8
    simp only [gA, gZ, gS] at qx0 qx1 qx2 qx3 qx4 qx5 qx6 qx7 qx8
    obtain ⟨rx0, rf0⟩ := cells_blk (n := 0) (unhide HR) 0
    obtain ⟨rx1, rf1⟩ := cells_blk (n := 0) (unhide HR) 1
    obtain ⟨rx2, rf2⟩ := cells_blk (n := 0) (unhide HR) 2
    obtain ⟨rx3, rf3⟩ := cells_blk (n := 0) (unhide HR) 3
    obtain ⟨rx4, rf4⟩ := cells_blk (n := 0) (unhide HR) 4
    obtain ⟨rx5, rf5⟩ := cells_blk (n := 0) (unhide HR) 5
    obtain ⟨rx6, rf6⟩ := cells_blk (n := 0) (unhide HR) 6
    obtain ⟨rx7, rf7⟩ := cells_blk (n := 0) (unhide HR) 7
    obtain ⟨rx8, rf8⟩ := cells_blk (n := 0) (unhide HR) 8
    simp only [gA, gZ, gS] at rx0 rx1 rx2 rx3 rx4 rx5 rx6 rx7 rx8
    go_wp2_with fail
    clear qx0 qf0 rx0 rf0 qx1 qf1 rx1 rf1 qx2 qf2 rx2 rf2 qx3 qf3 rx3 rf3 qx4 qf4 rx4 rf4 qx5 qf5 rx5 rf5 qx6 qf6 rx6 rf6 qx7 qf7 rx7 rf7 qx8 qf8 rx8 rf8
    refine (pick_any R a len cap (p1) 2 _ (by decide) (by decide) (unhide HD)).mono ?_
    rintro e' wv0 ⟨x1, rfl, x1l, x1u, k9, r9⟩
    replace HX := hide (show wv0.heap[B]? = some (.cells #[.int .i64 c0, .int .i64 c1, .int .i64 c2, .int .i64 c3, .int .i64 c4, .int .i64 c5, .int .i64 c6, .int .i64 c7, .int .i64 c8] 35 (0, 0)) from (k9.all _ ltB (by omega)).trans (unhide HX))
    replace HR := hide (show wv0.heap[w.heap.size]? = some (.cells #[.int .i64 0, .int .i64 0, .int .i64 0, .int .i64 0, .int .i64 0, .int .i64 0, .int .i64 0, .int .i64 0, .int .i64 0] 35 (0, 0)) from (k9.all _ ltR (by omega)).trans (unhide HR))
    replace HK := hide ((unhide HK).trans k9)
    replace HD := hide (r9 (by omega))
    clear k9 r9 ltB ltR
    have ltB : B < wv0.heap.size := heap_lt (unhide HX)
    have ltR : w.heap.size < wv0.heap.size := heap_lt (unhide HR)
    obtain ⟨qx0, qf0⟩ := cells_blk (n := 0) (unhide HX) 0
    obtain ⟨qx1, qf1⟩ := cells_blk (n := 0) (unhide HX) 1
    obtain ⟨qx2, qf2⟩ := cells_blk (n := 0) (unhide HX) 2
    obtain ⟨qx3, qf3⟩ := cells_blk (n := 0) (unhide HX) 3
    obtain ⟨qx4, qf4⟩ := cells_blk (n := 0) (unhide HX) 4
    obtain ⟨qx5, qf5⟩ := cells_blk (n := 0) (unhide HX) 5
    obtain ⟨qx6, qf6⟩ := cells_blk (n := 0) (unhide HX) 6
    obtain ⟨qx7, qf7⟩ := cells_blk (n := 0) (unhide HX) 7
    obtain ⟨qx8, qf8⟩ := cells_blk (n := 0) (unhide HX) 8
    simp only [gA, gZ, gS] at qx0 qx1 qx2 qx3 qx4 qx5 qx6 qx7 qx8
    obtain ⟨rx0, rf0⟩ := cells_blk (n := 0) (unhide HR) 0
    obtain ⟨rx1, rf1⟩ := cells_blk (n := 0) (unhide HR) 1
    obtain ⟨rx2, rf2⟩ := cells_blk (n := 0) (unhide HR) 2
    obtain ⟨rx3, rf3⟩ := cells_blk (n := 0) (unhide HR) 3
    obtain ⟨rx4, rf4⟩ := cells_blk (n := 0) (unhide HR) 4
    obtain ⟨rx5, rf5⟩ := cells_blk (n := 0) (unhide HR) 5
    obtain ⟨rx6, rf6⟩ := cells_blk (n := 0) (unhide HR) 6
    obtain ⟨rx7, rf7⟩ := cells_blk (n := 0) (unhide HR) 7
    obtain ⟨rx8, rf8⟩ := cells_blk (n := 0) (unhide HR) 8
    simp only [gA, gZ, gS] at rx0 rx1 rx2 rx3 rx4 rx5 rx6 rx7 rx8
    by_cases hx1 : x1 = 0
    · subst hx1
      go_wp2_with fail
      replace HX := hide (show (wv0.setCell ⟨B, 4, none⟩ (.int .i64 2)).heap[B]? = some (.cells #[.int .i64 c0, .int .i64 c1, .int .i64 c2, .int .i64 c3, .int .i64 2, .int .i64 c5, .int .i64 c6, .int .i64 c7, .int .i64 c8] 35 (0, 0)) from (Joins.block_setCell (unhide HX) _))
      replace HR := hide (show (wv0.setCell ⟨B, 4, none⟩ (.int .i64 2)).heap[w.heap.size]? = some (.cells #[.int .i64 0, .int .i64 0, .int .i64 0, .int .i64 0, .int .i64 0, .int .i64 0, .int .i64 0, .int .i64 0, .int .i64 0] 35 (0, 0)) from ((Below.heap_setCell _ _ _ _ neB).trans (unhide HR)))
      replace HK := hide (show Kp R w (wv0.setCell ⟨B, 4, none⟩ (.int .i64 2)) from (kp_setB (unhide HK) hRB hwB))
      replace HD := hide (show Rd R (wv0.setCell ⟨B, 4, none⟩ (.int .i64 2)) a len cap (p1 + 1) from (rd_setB (unhide HD) hRB))
      clear qx0 qf0 rx0 rf0 qx1 qf1 rx1 rf1 qx2 qf2 rx2 rf2 qx3 qf3 rx3 rf3 qx4 qf4 rx4 rf4 qx5 qf5 rx5 rf5 qx6 qf6 rx6 rf6 qx7 qf7 rx7 rf7 qx8 qf8 rx8 rf8
      clear ltB ltR
      generalize (wv0.setCell ⟨B, 4, none⟩ (.int .i64 2)) = wv1 at HX HR HK HD ⊢
      have ltB : B < wv1.heap.size := heap_lt (unhide HX)
      have ltR : w.heap.size < wv1.heap.size := heap_lt (unhide HR)
      obtain ⟨qx0, qf0⟩ := cells_blk (n := 0) (unhide HX) 0
      obtain ⟨qx1, qf1⟩ := cells_blk (n := 0) (unhide HX) 1
      obtain ⟨qx2, qf2⟩ := cells_blk (n := 0) (unhide HX) 2
      obtain ⟨qx3, qf3⟩ := cells_blk (n := 0) (unhide HX) 3
      obtain ⟨qx4, qf4⟩ := cells_blk (n := 0) (unhide HX) 4
      obtain ⟨qx5, qf5⟩ := cells_blk (n := 0) (unhide HX) 5
      obtain ⟨qx6, qf6⟩ := cells_blk (n := 0) (unhide HX) 6
      obtain ⟨qx7, qf7⟩ := cells_blk (n := 0) (unhide HX) 7
      obtain ⟨qx8, qf8⟩ := cells_blk (n := 0) (unhide HX) 8
      simp only [gA, gZ, gS] at qx0 qx1 qx2 qx3 qx4 qx5 qx6 qx7 qx8
      obtain ⟨rx0, rf0⟩ := cells_blk (n := 0) (unhide HR) 0
      obtain ⟨rx1, rf1⟩ := cells_blk (n := 0) (unhide HR) 1
      obtain ⟨rx2, rf2⟩ := cells_blk (n := 0) (unhide HR) 2
      obtain ⟨rx3, rf3⟩ := cells_blk (n := 0) (unhide HR) 3
      obtain ⟨rx4, rf4⟩ := cells_blk (n := 0) (unhide HR) 4
      obtain ⟨rx5, rf5⟩ := cells_blk (n := 0) (unhide HR) 5
      obtain ⟨rx6, rf6⟩ := cells_blk (n := 0) (unhide HR) 6
      obtain ⟨rx7, rf7⟩ := cells_blk (n := 0) (unhide HR) 7
      obtain ⟨rx8, rf8⟩ := cells_blk (n := 0) (unhide HR) 8
      simp only [gA, gZ, gS] at rx0 rx1 rx2 rx3 rx4 rx5 rx6 rx7 rx8
      clear qx0 qf0 rx0 rf0 qx1 qf1 rx1 rf1 qx2 qf2 rx2 rf2 qx3 qf3 rx3 rf3 qx4 qf4 rx4 rf4 qx5 qf5 rx5 rf5 qx6 qf6 rx6 rf6 qx7 qf7 rx7 rf7 qx8 qf8 rx8 rf8
      refine (pick_any R a len cap (p1 + 1) 3 _ (by decide) (by decide) (unhide HD)).mono ?_
      rintro e' wv2 ⟨x2, rfl, x2l, x2u, k9, r9⟩
      replace HX := hide (show wv2.heap[B]? = some (.cells #[.int .i64 c0, .int .i64 c1, .int .i64 c2, .int .i64 c3, .int .i64 2, .int .i64 c5, .int .i64 c6, .int .i64 c7, .int .i64 c8] 35 (0, 0)) from (k9.all _ ltB (by omega)).trans (unhide HX))
      replace HR := hide (show wv2.heap[w.heap.size]? = some (.cells #[.int .i64 0, .int .i64 0, .int .i64 0, .int .i64 0, .int .i64 0, .int .i64 0, .int .i64 0, .int .i64 0, .int .i64 0] 35 (0, 0)) from (k9.all _ ltR (by omega)).trans (unhide HR))
      replace HK := hide ((unhide HK).trans k9)
      replace HD := hide (r9 (by omega))
      clear k9 r9 ltB ltR
      have ltB : B < wv2.heap.size := heap_lt (unhide HX)
      have ltR : w.heap.size < wv2.heap.size := heap_lt (unhide HR)
      obtain ⟨qx0, qf0⟩ := cells_blk (n := 0) (unhide HX) 0
      obtain ⟨qx1, qf1⟩ := cells_blk (n := 0) (unhide HX) 1
      obtain ⟨qx2, qf2⟩ := cells_blk (n := 0) (unhide HX) 2
      obtain ⟨qx3, qf3⟩ := cells_blk (n := 0) (unhide HX) 3
      obtain ⟨qx4, qf4⟩ := cells_blk (n := 0) (unhide HX) 4
      obtain ⟨qx5, qf5⟩ := cells_blk (n := 0) (unhide HX) 5
      obtain ⟨qx6, qf6⟩ := cells_blk (n := 0) (unhide HX) 6
      obtain ⟨qx7, qf7⟩ := cells_blk (n := 0) (unhide HX) 7
      obtain ⟨qx8, qf8⟩ := cells_blk (n := 0) (unhide HX) 8
      simp only [gA, gZ, gS] at qx0 qx1 qx2 qx3 qx4 qx5 qx6 qx7 qx8
      obtain ⟨rx0, rf0⟩ := cells_blk (n := 0) (unhide HR) 0
      obtain ⟨rx1, rf1⟩ := cells_blk (n := 0) (unhide HR) 1
      obtain ⟨rx2, rf2⟩ := cells_blk (n := 0) (unhide HR) 2
      obtain ⟨rx3, rf3⟩ := cells_blk (n := 0) (unhide HR) 3
      obtain ⟨rx4, rf4⟩ := cells_blk (n := 0) (unhide HR) 4
      obtain ⟨rx5, rf5⟩ := cells_blk (n := 0) (unhide HR) 5
      obtain ⟨rx6, rf6⟩ := cells_blk (n := 0) (unhide HR) 6
      obtain ⟨rx7, rf7⟩ := cells_blk (n := 0) (unhide HR) 7
      obtain ⟨rx8, rf8⟩ := cells_blk (n := 0) (unhide HR) 8
      simp only [gA, gZ, gS] at rx0 rx1 rx2 rx3 rx4 rx5 rx6 rx7 rx8
      go_wp2_with fail
      replace HX := hide (show (wv2.setCell ⟨B, 3, none⟩ (.int .i64 (1 + x2))).heap[B]? = some (.cells #[.int .i64 c0, .int .i64 c1, .int .i64 c2, .int .i64 (1 + x2), .int .i64 2, .int .i64 c5, .int .i64 c6, .int .i64 c7, .int .i64 c8] 35 (0, 0)) from (Joins.block_setCell (unhide HX) _))
      replace HR := hide (show (wv2.setCell ⟨B, 3, none⟩ (.int .i64 (1 + x2))).heap[w.heap.size]? = some (.cells #[.int .i64 0, .int .i64 0, .int .i64 0, .int .i64 0, .int .i64 0, .int .i64 0, .int .i64 0, .int .i64 0, .int .i64 0] 35 (0, 0)) from ((Below.heap_setCell _ _ _ _ neB).trans (unhide HR)))
      replace HK := hide (show Kp R w (wv2.setCell ⟨B, 3, none⟩ (.int .i64 (1 + x2))) from (kp_setB (unhide HK) hRB hwB))
      replace HD := hide (show Rd R (wv2.setCell ⟨B, 3, none⟩ (.int .i64 (1 + x2))) a len cap (p1 + 1 + 1) from (rd_setB (unhide HD) hRB))
      clear qx0 qf0 rx0 rf0 qx1 qf1 rx1 rf1 qx2 qf2 rx2 rf2 qx3 qf3 rx3 rf3 qx4 qf4 rx4 rf4 qx5 qf5 rx5 rf5 qx6 qf6 rx6 rf6 qx7 qf7 rx7 rf7 qx8 qf8 rx8 rf8
      clear ltB ltR
      generalize (wv2.setCell ⟨B, 3, none⟩ (.int .i64 (1 + x2))) = wv3 at HX HR HK HD ⊢
      have ltB : B < wv3.heap.size := heap_lt (unhide HX)
      have ltR : w.heap.size < wv3.heap.size := heap_lt (unhide HR)
      obtain ⟨qx0, qf0⟩ := cells_blk (n := 0) (unhide HX) 0
      obtain ⟨qx1, qf1⟩ := cells_blk (n := 0) (unhide HX) 1
      obtain ⟨qx2, qf2⟩ := cells_blk (n := 0) (unhide HX) 2
      obtain ⟨qx3, qf3⟩ := cells_blk (n := 0) (unhide HX) 3
      obtain ⟨qx4, qf4⟩ := cells_blk (n := 0) (unhide HX) 4
      obtain ⟨qx5, qf5⟩ := cells_blk (n := 0) (unhide HX) 5
      obtain ⟨qx6, qf6⟩ := cells_blk (n := 0) (unhide HX) 6
      obtain ⟨qx7, qf7⟩ := cells_blk (n := 0) (unhide HX) 7
      obtain ⟨qx8, qf8⟩ := cells_blk (n := 0) (unhide HX) 8
      simp only [gA, gZ, gS] at qx0 qx1 qx2 qx3 qx4 qx5 qx6 qx7 qx8
      obtain ⟨rx0, rf0⟩ := cells_blk (n := 0) (unhide HR) 0
      obtain ⟨rx1, rf1⟩ := cells_blk (n := 0) (unhide HR) 1
      obtain ⟨rx2, rf2⟩ := cells_blk (n := 0) (unhide HR) 2
      obtain ⟨rx3, rf3⟩ := cells_blk (n := 0) (unhide HR) 3
      obtain ⟨rx4, rf4⟩ := cells_blk (n := 0) (unhide HR) 4
      obtain ⟨rx5, rf5⟩ := cells_blk (n := 0) (unhide HR) 5
      obtain ⟨rx6, rf6⟩ := cells_blk (n := 0) (unhide HR) 6
      obtain ⟨rx7, rf7⟩ := cells_blk (n := 0) (unhide HR) 7
      obtain ⟨rx8, rf8⟩ := cells_blk (n := 0) (unhide HR) 8
      simp only [gA, gZ, gS] at rx0 rx1 rx2 rx3 rx4 rx5 rx6 rx7 rx8
      clear qx0 qf0 rx0 rf0 qx1 qf1 rx1 rf1 qx2 qf2 rx2 rf2 qx3 qf3 rx3 rf3 qx4 qf4 rx4 rf4 qx5 qf5 rx5 rf5 qx6 qf6 rx6 rf6 qx7 qf7 rx7 rf7 qx8 qf8 rx8 rf8
      refine (pick_any R a len cap (p1 + 1 + 1) 5 _ (by decide) (by decide) (unhide HD)).mono ?_
      rintro e' wv4 ⟨x3, rfl, x3l, x3u, k9, r9⟩
      replace HX := hide (show wv4.heap[B]? = some (.cells #[.int .i64 c0, .int .i64 c1, .int .i64 c2, .int .i64 (1 + x2), .int .i64 2, .int .i64 c5, .int .i64 c6, .int .i64 c7, .int .i64 c8] 35 (0, 0)) from (k9.all _ ltB (by omega)).trans (unhide HX))
      replace HR := hide (show wv4.heap[w.heap.size]? = some (.cells #[.int .i64 0, .int .i64 0, .int .i64 0, .int .i64 0, .int .i64 0, .int .i64 0, .int .i64 0, .int .i64 0, .int .i64 0] 35 (0, 0)) from (k9.all _ ltR (by omega)).trans (unhide HR))
      replace HK := hide ((unhide HK).trans k9)
      replace HD := hide (r9 (by omega))
      clear k9 r9 ltB ltR
      have ltB : B < wv4.heap.size := heap_lt (unhide HX)
      have ltR : w.heap.size < wv4.heap.size := heap_lt (unhide HR)
      obtain ⟨qx0, qf0⟩ := cells_blk (n := 0) (unhide HX) 0
      obtain ⟨qx1, qf1⟩ := cells_blk (n := 0) (unhide HX) 1
      obtain ⟨qx2, qf2⟩ := cells_blk (n := 0) (unhide HX) 2
      obtain ⟨qx3, qf3⟩ := cells_blk (n := 0) (unhide HX) 3
      obtain ⟨qx4, qf4⟩ := cells_blk (n := 0) (unhide HX) 4
      obtain ⟨qx5, qf5⟩ := cells_blk (n := 0) (unhide HX) 5
      obtain ⟨qx6, qf6⟩ := cells_blk (n := 0) (unhide HX) 6
      obtain ⟨qx7, qf7⟩ := cells_blk (n := 0) (unhide HX) 7
      obtain ⟨qx8, qf8⟩ := cells_blk (n := 0) (unhide HX) 8
      simp only [gA, gZ, gS] at qx0 qx1 qx2 qx3 qx4 qx5 qx6 qx7 qx8
      obtain ⟨rx0, rf0⟩ := cells_blk (n := 0) (unhide HR) 0
      obtain ⟨rx1, rf1⟩ := cells_blk (n := 0) (unhide HR) 1
      obtain ⟨rx2, rf2⟩ := cells_blk (n := 0) (unhide HR) 2
      obtain ⟨rx3, rf3⟩ := cells_blk (n := 0) (unhide HR) 3
      obtain ⟨rx4, rf4⟩ := cells_blk (n := 0) (unhide HR) 4
      obtain ⟨rx5, rf5⟩ := cells_blk (n := 0) (unhide HR) 5
      obtain ⟨rx6, rf6⟩ := cells_blk (n := 0) (unhide HR) 6
      obtain ⟨rx7, rf7⟩ := cells_blk (n := 0) (unhide HR) 7
      obtain ⟨rx8, rf8⟩ := cells_blk (n := 0) (unhide HR) 8
      simp only [gA, gZ, gS] at rx0 rx1 rx2 rx3 rx4 rx5 rx6 rx7 rx8
      by_cases hx3 : x3 = 0
      · subst hx3
        go_wp2_with fail
        refine wp_region_held_drew (S := (fun W => W.cell? ⟨B, 0, none⟩ = some (.int .i64 c0) ∧ W.cell? ⟨B, 1, none⟩ = some (.int .i64 c1) ∧ W.cell? ⟨B, 2, none⟩ = some (.int .i64 c2))) (by kernel_rfl) ?_ (fun hHeld => ?_)
        · (try dsimp only); exact ⟨by simp [go_sem, *], by simp [go_sem, *], by simp [go_sem, *]⟩
        refine wpAnyH_take (i := 0) (v := ?_) (by simp only [gA, gZ, gS]; rfl) (by kernel_rfl) (by kernel_rfl) (by kernel_rfl) (by intro _ _ _ h; exact h) (Or.inl ⟨by rfl, ?_⟩) (by assumption) ?_
        rotate_left
        · (intro w9 hSw; (try dsimp only at hSw); go_simp <;> with_reducible rfl)
        try simp only [Act.put, tA, tZ, tS]
        refine wpAnyH_take (i := 1) (v := ?_) (by simp only [gA, gZ, gS]; rfl) (by kernel_rfl) (by kernel_rfl) (by kernel_rfl) (by intro _ _ _ h; exact h) (Or.inl ⟨by rfl, ?_⟩) (by assumption) ?_
        rotate_left
        · (intro w9 hSw; (try dsimp only at hSw); go_simp <;> with_reducible rfl)
        try simp only [Act.put, tA, tZ, tS]
        refine wpAnyH_take (i := 2) (v := ?_) (by simp only [gA, gZ, gS]; rfl) (by kernel_rfl) (by kernel_rfl) (by kernel_rfl) (by intro _ _ _ h; exact h) (Or.inl ⟨by rfl, ?_⟩) (by assumption) ?_
        rotate_left
        · (intro w9 hSw; (try dsimp only at hSw); go_simp <;> with_reducible rfl)
        try simp only [Act.put, tA, tZ, tS]
        refine wpAnyH_take (i := 3) (v := ?_) (by simp only [gA, gZ, gS]; rfl) (by kernel_rfl) (by kernel_rfl) (by kernel_rfl) (by intro _ _ _ h; exact h) (Or.inl ⟨by rfl, ?_⟩) (by assumption) ?_
        rotate_left
        · (intro w9 hSw; (try dsimp only at hSw); go_simp <;> with_reducible rfl)
        try simp only [Act.put, tA, tZ, tS]
        refine wpAnyH_take (i := 4) (v := ?_) (by simp only [gA, gZ, gS]; rfl) (by kernel_rfl) (by kernel_rfl) (by kernel_rfl) (by intro _ _ _ h; exact h) (Or.inl ⟨by rfl, ?_⟩) (by assumption) ?_
        rotate_left
        · (intro w9 hSw; (try dsimp only at hSw); go_simp <;> with_reducible rfl)
        try simp only [Act.put, tA, tZ, tS]
        refine wpAnyH_ready (rs := [5]) (by kernel_rfl) (by simp) ?_
        refine AllReadyH.cons (by simp only [gA, gZ, gS]; rfl) (fun K hK => ?_) AllReadyH.nil
        go_simp
        (go_at_call 15; refine (pick_any R a len cap (p1 + 1 + 1 + 1) 3 wv4.drew (by decide) (by decide) (⟨(unhide HD).1, (unhide HD).2, (unhide HD).3, (unhide HD).4, (unhide HD).5, (unhide HD).6, (unhide HD).7⟩ : Rd R wv4.drew a len cap (p1 + 1 + 1 + 1))).mono ?_; rintro e' wv5 ⟨x4, rfl, x4l, x4u, k9, r9⟩; have HX2 := hide (show wv5.heap[B]? = some (.cells #[.int .i64 c0, .int .i64 c1, .int .i64 c2, .int .i64 (1 + x2), .int .i64 2, .int .i64 c5, .int .i64 c6, .int .i64 c7, .int .i64 c8] 35 (0, 0)) from (k9.all _ ltB (by omega)).trans (unhide HX)); have HR2 := hide (show wv5.heap[w.heap.size]? = some (.cells #[.int .i64 0, .int .i64 0, .int .i64 0, .int .i64 0, .int .i64 0, .int .i64 0, .int .i64 0, .int .i64 0, .int .i64 0] 35 (0, 0)) from (k9.all _ ltR (by omega)).trans (unhide HR)); have HK2 := hide ((unhide HK).trans (Kp.trans (kp_drew (Kp.refl R _)) k9)); have HD2 := hide (r9 (by omega)); clear qx0 qf0 rx0 rf0 qx1 qf1 rx1 rf1 qx2 qf2 rx2 rf2 qx3 qf3 rx3 rf3 qx4 qf4 rx4 rf4 qx5 qf5 rx5 rf5 qx6 qf6 rx6 rf6 qx7 qf7 rx7 rf7 qx8 qf8 rx8 rf8; clear k9 r9 HX HR HK HD ltB ltR; have HX := HX2; have HR := HR2; have HK := HK2; have HD := HD2; clear HX2 HR2 HK2 HD2; have ltB : B < wv5.heap.size := heap_lt (unhide HX); have ltR : w.heap.size < wv5.heap.size := heap_lt (unhide HR); obtain ⟨qx0, qf0⟩ := cells_blk (n := 0) (unhide HX) 0; obtain ⟨qx1, qf1⟩ := cells_blk (n := 0) (unhide HX) 1; obtain ⟨qx2, qf2⟩ := cells_blk (n := 0) (unhide HX) 2; obtain ⟨qx3, qf3⟩ := cells_blk (n := 0) (unhide HX) 3; obtain ⟨qx4, qf4⟩ := cells_blk (n := 0) (unhide HX) 4; obtain ⟨qx5, qf5⟩ := cells_blk (n := 0) (unhide HX) 5; obtain ⟨qx6, qf6⟩ := cells_blk (n := 0) (unhide HX) 6; obtain ⟨qx7, qf7⟩ := cells_blk (n := 0) (unhide HX) 7; obtain ⟨qx8, qf8⟩ := cells_blk (n := 0) (unhide HX) 8; simp only [gA, gZ, gS] at qx0 qx1 qx2 qx3 qx4 qx5 qx6 qx7 qx8; obtain ⟨rx0, rf0⟩ := cells_blk (n := 0) (unhide HR) 0; obtain ⟨rx1, rf1⟩ := cells_blk (n := 0) (unhide HR) 1; obtain ⟨rx2, rf2⟩ := cells_blk (n := 0) (unhide HR) 2; obtain ⟨rx3, rf3⟩ := cells_blk (n := 0) (unhide HR) 3; obtain ⟨rx4, rf4⟩ := cells_blk (n := 0) (unhide HR) 4; obtain ⟨rx5, rf5⟩ := cells_blk (n := 0) (unhide HR) 5; obtain ⟨rx6, rf6⟩ := cells_blk (n := 0) (unhide HR) 6; obtain ⟨rx7, rf7⟩ := cells_blk (n := 0) (unhide HR) 7; obtain ⟨rx8, rf8⟩ := cells_blk (n := 0) (unhide HR) 8; simp only [gA, gZ, gS] at rx0 rx1 rx2 rx3 rx4 rx5 rx6 rx7 rx8)
        (try go_wp2_with fail)
        refine hK.out _ _ ?_ (fun hHeld2 => ?_)
        · (try dsimp only); exact ⟨by simp [go_sem, *], by simp [go_sem, *], by simp [go_sem, *]⟩
        clear hK K hHeld
        have hHeld := hHeld2
        clear hHeld2
        try simp only [Act.put, tA, tZ, tS]
        refine wpAnyH_take (i := 6) (v := ?_) (by simp only [gA, gZ, gS]; rfl) (by kernel_rfl) (by kernel_rfl) (by kernel_rfl) (by intro _ _ _ h; exact h) (Or.inl ⟨by rfl, ?_⟩) (by assumption) ?_
        rotate_left
        · (intro w9 hSw; (try dsimp only at hSw); go_simp <;> with_reducible rfl)
        try simp only [Act.put, tA, tZ, tS]
        refine wpAnyH_take (i := 7) (v := ?_) (by simp only [gA, gZ, gS]; rfl) (by kernel_rfl) (by kernel_rfl) (by kernel_rfl) (by intro _ _ _ h; exact h) (Or.inl ⟨by rfl, ?_⟩) (by assumption) ?_
        rotate_left
        · (intro w9 hSw; (try dsimp only at hSw); go_simp <;> with_reducible rfl)
        try simp only [Act.put, tA, tZ, tS]
        refine wpAnyH_ready (rs := [8]) (by kernel_rfl) (by simp) ?_
        refine AllReadyH.cons (by simp only [gA, gZ, gS]; rfl) (fun K hK => ?_) AllReadyH.nil
        go_simp
        refine hK.out _ _ ?_ (fun hHeld2 => ?_)
        · (try dsimp only); exact ⟨by simp [go_sem, *], by simp [go_sem, *], by simp [go_sem, *]⟩
        clear hK K hHeld
        have hHeld := hHeld2
        clear hHeld2
        try simp only [Act.put, tA, tZ, tS]
        refine wpAnyH_done (by kernel_rfl) ?_ _
        clear hHeld
        go_wp2_with fail
        replace HX := hide (show (((((((((wv5.setCell ⟨B, 0, none⟩ (.int .i64 c0)).setCell ⟨B, 1, none⟩ (.int .i64 c1)).setCell ⟨B, 2, none⟩ (.int .i64 c2)).setCell ⟨B, 3, none⟩ (.int .i64 (1 + x4))).setCell ⟨B, 4, none⟩ (.int .i64 3)).setCell ⟨B, 5, none⟩ (.int .i64 0)).setCell ⟨B, 6, none⟩ (.int .i64 0)).setCell ⟨B, 7, none⟩ (.int .i64 0)).setCell ⟨B, 8, none⟩ (.int .i64 0)).heap[B]? = some (.cells #[.int .i64 c0, .int .i64 c1, .int .i64 c2, .int .i64 (1 + x4), .int .i64 3, .int .i64 0, .int .i64 0, .int .i64 0, .int .i64 0] 35 (0, 0)) from (blk9 (unhide HX)))
        replace HR := hide (show (((((((((wv5.setCell ⟨B, 0, none⟩ (.int .i64 c0)).setCell ⟨B, 1, none⟩ (.int .i64 c1)).setCell ⟨B, 2, none⟩ (.int .i64 c2)).setCell ⟨B, 3, none⟩ (.int .i64 (1 + x4))).setCell ⟨B, 4, none⟩ (.int .i64 3)).setCell ⟨B, 5, none⟩ (.int .i64 0)).setCell ⟨B, 6, none⟩ (.int .i64 0)).setCell ⟨B, 7, none⟩ (.int .i64 0)).setCell ⟨B, 8, none⟩ (.int .i64 0)).heap[w.heap.size]? = some (.cells #[.int .i64 0, .int .i64 0, .int .i64 0, .int .i64 0, .int .i64 0, .int .i64 0, .int .i64 0, .int .i64 0, .int .i64 0] 35 (0, 0)) from ((Below.heap_setCell _ _ _ _ neB).trans ((Below.heap_setCell _ _ _ _ neB).trans ((Below.heap_setCell _ _ _ _ neB).trans ((Below.heap_setCell _ _ _ _ neB).trans ((Below.heap_setCell _ _ _ _ neB).trans ((Below.heap_setCell _ _ _ _ neB).trans ((Below.heap_setCell _ _ _ _ neB).trans ((Below.heap_setCell _ _ _ _ neB).trans ((Below.heap_setCell _ _ _ _ neB).trans (unhide HR)))))))))))
        replace HK := hide (show Kp R w (((((((((wv5.setCell ⟨B, 0, none⟩ (.int .i64 c0)).setCell ⟨B, 1, none⟩ (.int .i64 c1)).setCell ⟨B, 2, none⟩ (.int .i64 c2)).setCell ⟨B, 3, none⟩ (.int .i64 (1 + x4))).setCell ⟨B, 4, none⟩ (.int .i64 3)).setCell ⟨B, 5, none⟩ (.int .i64 0)).setCell ⟨B, 6, none⟩ (.int .i64 0)).setCell ⟨B, 7, none⟩ (.int .i64 0)).setCell ⟨B, 8, none⟩ (.int .i64 0)) from (kp_setB (kp_setB (kp_setB (kp_setB (kp_setB (kp_setB (kp_setB (kp_setB (kp_setB (unhide HK) hRB hwB) hRB hwB) hRB hwB) hRB hwB) hRB hwB) hRB hwB) hRB hwB) hRB hwB) hRB hwB))
        replace HD := hide (show Rd R (((((((((wv5.setCell ⟨B, 0, none⟩ (.int .i64 c0)).setCell ⟨B, 1, none⟩ (.int .i64 c1)).setCell ⟨B, 2, none⟩ (.int .i64 c2)).setCell ⟨B, 3, none⟩ (.int .i64 (1 + x4))).setCell ⟨B, 4, none⟩ (.int .i64 3)).setCell ⟨B, 5, none⟩ (.int .i64 0)).setCell ⟨B, 6, none⟩ (.int .i64 0)).setCell ⟨B, 7, none⟩ (.int .i64 0)).setCell ⟨B, 8, none⟩ (.int .i64 0)) a len cap (p1 + 1 + 1 + 1 + 1) from (rd_setB (rd_setB (rd_setB (rd_setB (rd_setB (rd_setB (rd_setB (rd_setB (rd_setB (unhide HD) hRB) hRB) hRB) hRB) hRB) hRB) hRB) hRB) hRB))
        clear qx0 qf0 rx0 rf0 qx1 qf1 rx1 rf1 qx2 qf2 rx2 rf2 qx3 qf3 rx3 rf3 qx4 qf4 rx4 rf4 qx5 qf5 rx5 rf5 qx6 qf6 rx6 rf6 qx7 qf7 rx7 rf7 qx8 qf8 rx8 rf8
        clear ltB ltR
        generalize (((((((((wv5.setCell ⟨B, 0, none⟩ (.int .i64 c0)).setCell ⟨B, 1, none⟩ (.int .i64 c1)).setCell ⟨B, 2, none⟩ (.int .i64 c2)).setCell ⟨B, 3, none⟩ (.int .i64 (1 + x4))).setCell ⟨B, 4, none⟩ (.int .i64 3)).setCell ⟨B, 5, none⟩ (.int .i64 0)).setCell ⟨B, 6, none⟩ (.int .i64 0)).setCell ⟨B, 7, none⟩ (.int .i64 0)).setCell ⟨B, 8, none⟩ (.int .i64 0)) = wv6 at HX HR HK HD ⊢
        have ltB : B < wv6.heap.size := heap_lt (unhide HX)
        have ltR : w.heap.size < wv6.heap.size := heap_lt (unhide HR)
        obtain ⟨qx0, qf0⟩ := cells_blk (n := 0) (unhide HX) 0
        obtain ⟨qx1, qf1⟩ := cells_blk (n := 0) (unhide HX) 1
        obtain ⟨qx2, qf2⟩ := cells_blk (n := 0) (unhide HX) 2
        obtain ⟨qx3, qf3⟩ := cells_blk (n := 0) (unhide HX) 3
        obtain ⟨qx4, qf4⟩ := cells_blk (n := 0) (unhide HX) 4
        obtain ⟨qx5, qf5⟩ := cells_blk (n := 0) (unhide HX) 5
        obtain ⟨qx6, qf6⟩ := cells_blk (n := 0) (unhide HX) 6
        obtain ⟨qx7, qf7⟩ := cells_blk (n := 0) (unhide HX) 7
        obtain ⟨qx8, qf8⟩ := cells_blk (n := 0) (unhide HX) 8
        simp only [gA, gZ, gS] at qx0 qx1 qx2 qx3 qx4 qx5 qx6 qx7 qx8
        obtain ⟨rx0, rf0⟩ := cells_blk (n := 0) (unhide HR) 0
        obtain ⟨rx1, rf1⟩ := cells_blk (n := 0) (unhide HR) 1
        obtain ⟨rx2, rf2⟩ := cells_blk (n := 0) (unhide HR) 2
        obtain ⟨rx3, rf3⟩ := cells_blk (n := 0) (unhide HR) 3
        obtain ⟨rx4, rf4⟩ := cells_blk (n := 0) (unhide HR) 4
        obtain ⟨rx5, rf5⟩ := cells_blk (n := 0) (unhide HR) 5
        obtain ⟨rx6, rf6⟩ := cells_blk (n := 0) (unhide HR) 6
        obtain ⟨rx7, rf7⟩ := cells_blk (n := 0) (unhide HR) 7
        obtain ⟨rx8, rf8⟩ := cells_blk (n := 0) (unhide HR) 8
        simp only [gA, gZ, gS] at rx0 rx1 rx2 rx3 rx4 rx5 rx6 rx7 rx8
        clear qx0 qf0 rx0 rf0 qx1 qf1 rx1 rf1 qx2 qf2 rx2 rf2 qx3 qf3 rx3 rf3 qx4 qf4 rx4 rf4 qx5 qf5 rx5 rf5 qx6 qf6 rx6 rf6 qx7 qf7 rx7 rf7 qx8 qf8 rx8 rf8
        refine (pick_any R a len cap (p1 + 1 + 1 + 1 + 1) n _ hn hn2 (unhide HD)).mono ?_
        rintro e' wv7 ⟨x5, rfl, x5l, x5u, k9, r9⟩
        replace HX := hide (show wv7.heap[B]? = some (.cells #[.int .i64 c0, .int .i64 c1, .int .i64 c2, .int .i64 (1 + x4), .int .i64 3, .int .i64 0, .int .i64 0, .int .i64 0, .int .i64 0] 35 (0, 0)) from (k9.all _ ltB (by omega)).trans (unhide HX))
        replace HR := hide (show wv7.heap[w.heap.size]? = some (.cells #[.int .i64 0, .int .i64 0, .int .i64 0, .int .i64 0, .int .i64 0, .int .i64 0, .int .i64 0, .int .i64 0, .int .i64 0] 35 (0, 0)) from (k9.all _ ltR (by omega)).trans (unhide HR))
        replace HK := hide ((unhide HK).trans k9)
        replace HD := hide (r9 (by omega))
        clear k9 r9 ltB ltR
        have ltB : B < wv7.heap.size := heap_lt (unhide HX)
        have ltR : w.heap.size < wv7.heap.size := heap_lt (unhide HR)
        obtain ⟨qx0, qf0⟩ := cells_blk (n := 0) (unhide HX) 0
        obtain ⟨qx1, qf1⟩ := cells_blk (n := 0) (unhide HX) 1
        obtain ⟨qx2, qf2⟩ := cells_blk (n := 0) (unhide HX) 2
        obtain ⟨qx3, qf3⟩ := cells_blk (n := 0) (unhide HX) 3
        obtain ⟨qx4, qf4⟩ := cells_blk (n := 0) (unhide HX) 4
        obtain ⟨qx5, qf5⟩ := cells_blk (n := 0) (unhide HX) 5
        obtain ⟨qx6, qf6⟩ := cells_blk (n := 0) (unhide HX) 6
        obtain ⟨qx7, qf7⟩ := cells_blk (n := 0) (unhide HX) 7
        obtain ⟨qx8, qf8⟩ := cells_blk (n := 0) (unhide HX) 8
        simp only [gA, gZ, gS] at qx0 qx1 qx2 qx3 qx4 qx5 qx6 qx7 qx8
        obtain ⟨rx0, rf0⟩ := cells_blk (n := 0) (unhide HR) 0
        obtain ⟨rx1, rf1⟩ := cells_blk (n := 0) (unhide HR) 1
        obtain ⟨rx2, rf2⟩ := cells_blk (n := 0) (unhide HR) 2
        obtain ⟨rx3, rf3⟩ := cells_blk (n := 0) (unhide HR) 3
        obtain ⟨rx4, rf4⟩ := cells_blk (n := 0) (unhide HR) 4
        obtain ⟨rx5, rf5⟩ := cells_blk (n := 0) (unhide HR) 5
        obtain ⟨rx6, rf6⟩ := cells_blk (n := 0) (unhide HR) 6
        obtain ⟨rx7, rf7⟩ := cells_blk (n := 0) (unhide HR) 7
        obtain ⟨rx8, rf8⟩ := cells_blk (n := 0) (unhide HR) 8
        simp only [gA, gZ, gS] at rx0 rx1 rx2 rx3 rx4 rx5 rx6 rx7 rx8
        by_cases hx5 : 0 < x5
        · go_wp2
          refine bodyPost_ret (v := .agg #[.int .i64 c0, .int .i64 c1, .int .i64 c2, .int .i64 (1 + x4), .int .i64 3, .int .i64 0, .int .i64 0, .int .i64 0, .int .i64 0]) (by simp (maxDischargeDepth := 9) [results, Try.results31, go_sem, *]) rfl ?_
          exact ⟨_, _, _, _, _, _, _, _, _, rfl, (kp_setB (kp_setB (kp_setB (kp_setB (kp_setB (kp_setB (kp_setB (kp_setB (kp_setB (unhide HK) hR0 (Nat.le_refl _)) hR0 (Nat.le_refl _)) hR0 (Nat.le_refl _)) hR0 (Nat.le_refl _)) hR0 (Nat.le_refl _)) hR0 (Nat.le_refl _)) hR0 (Nat.le_refl _)) hR0 (Nat.le_refl _)) hR0 (Nat.le_refl _)), _, (by omega), (rd_setB (rd_setB (rd_setB (rd_setB (rd_setB (rd_setB (rd_setB (rd_setB (rd_setB (unhide HD) hR0) hR0) hR0) hR0) hR0) hR0) hR0) hR0) hR0), (by omega), (unhide HW)⟩
        · obtain rfl : x5 = 0 := by omega
          go_wp2_with fail
          clear qx0 qf0 rx0 rf0 qx1 qf1 rx1 rf1 qx2 qf2 rx2 rf2 qx3 qf3 rx3 rf3 qx4 qf4 rx4 rf4 qx5 qf5 rx5 rf5 qx6 qf6 rx6 rf6 qx7 qf7 rx7 rf7 qx8 qf8 rx8 rf8
          refine (pick_any R a len cap (p1 + 1 + 1 + 1 + 1 + 1) 5 _ (by decide) (by decide) (unhide HD)).mono ?_
          rintro e' wv8 ⟨x6, rfl, x6l, x6u, k9, r9⟩
          replace HX := hide (show wv8.heap[B]? = some (.cells #[.int .i64 c0, .int .i64 c1, .int .i64 c2, .int .i64 (1 + x4), .int .i64 3, .int .i64 0, .int .i64 0, .int .i64 0, .int .i64 0] 35 (0, 0)) from (k9.all _ ltB (by omega)).trans (unhide HX))
          replace HR := hide (show wv8.heap[w.heap.size]? = some (.cells #[.int .i64 0, .int .i64 0, .int .i64 0, .int .i64 0, .int .i64 0, .int .i64 0, .int .i64 0, .int .i64 0, .int .i64 0] 35 (0, 0)) from (k9.all _ ltR (by omega)).trans (unhide HR))
          replace HK := hide ((unhide HK).trans k9)
          replace HD := hide (r9 (by omega))
          clear k9 r9 ltB ltR
          have ltB : B < wv8.heap.size := heap_lt (unhide HX)
          have ltR : w.heap.size < wv8.heap.size := heap_lt (unhide HR)
          obtain ⟨qx0, qf0⟩ := cells_blk (n := 0) (unhide HX) 0
          obtain ⟨qx1, qf1⟩ := cells_blk (n := 0) (unhide HX) 1
          obtain ⟨qx2, qf2⟩ := cells_blk (n := 0) (unhide HX) 2
          obtain ⟨qx3, qf3⟩ := cells_blk (n := 0) (unhide HX) 3
          obtain ⟨qx4, qf4⟩ := cells_blk (n := 0) (unhide HX) 4
          obtain ⟨qx5, qf5⟩ := cells_blk (n := 0) (unhide HX) 5
          obtain ⟨qx6, qf6⟩ := cells_blk (n := 0) (unhide HX) 6
          obtain ⟨qx7, qf7⟩ := cells_blk (n := 0) (unhide HX) 7
          obtain ⟨qx8, qf8⟩ := cells_blk (n := 0) (unhide HX) 8
          simp only [gA, gZ, gS] at qx0 qx1 qx2 qx3 qx4 qx5 qx6 qx7 qx8
          obtain ⟨rx0, rf0⟩ := cells_blk (n := 0) (unhide HR) 0
          obtain ⟨rx1, rf1⟩ := cells_blk (n := 0) (unhide HR) 1
          obtain ⟨rx2, rf2⟩ := cells_blk (n := 0) (unhide HR) 2
          obtain ⟨rx3, rf3⟩ := cells_blk (n := 0) (unhide HR) 3
          obtain ⟨rx4, rf4⟩ := cells_blk (n := 0) (unhide HR) 4
          obtain ⟨rx5, rf5⟩ := cells_blk (n := 0) (unhide HR) 5
          obtain ⟨rx6, rf6⟩ := cells_blk (n := 0) (unhide HR) 6
          obtain ⟨rx7, rf7⟩ := cells_blk (n := 0) (unhide HR) 7
          obtain ⟨rx8, rf8⟩ := cells_blk (n := 0) (unhide HR) 8
          simp only [gA, gZ, gS] at rx0 rx1 rx2 rx3 rx4 rx5 rx6 rx7 rx8
          obtain rfl | rfl | rfl | rfl | rfl : x6 = 0 ∨ x6 = 1 ∨ x6 = 2 ∨ x6 = 3 ∨ x6 = 4 := by omega
          · go_wp2_with fail
            have hS : (wv8.alloc (.cells #[.int .i64 (-1), .int .i64 4] 3)).heap[wv8.heap.size]? = some (.cells #[.int .i64 (-1), .int .i64 4] 3 (0, 0)) := heap_alloc_new _ _
            have hbA : Below wv8.heap.size wv8 (wv8.alloc (.cells #[.int .i64 (-1), .int .i64 4] 3)) := bel_one _ _
            have hRo : R < wv8.heap.size := by omega
            have hsz : wv8.heap.size < (wv8.alloc (.cells #[.int .i64 (-1), .int .i64 4] 3)).heap.size := by simp
            have neo : wv8.heap.size ≠ R := by omega
            replace HX := hide (show (wv8.alloc (.cells #[.int .i64 (-1), .int .i64 4] 3)).heap[B]? = some (.cells #[.int .i64 c0, .int .i64 c1, .int .i64 c2, .int .i64 (1 + x4), .int .i64 3, .int .i64 0, .int .i64 0, .int .i64 0, .int .i64 0] 35 (0, 0)) from (hbA.block _ ltB).trans (unhide HX))
            replace HR := hide (show (wv8.alloc (.cells #[.int .i64 (-1), .int .i64 4] 3)).heap[w.heap.size]? = some (.cells #[.int .i64 0, .int .i64 0, .int .i64 0, .int .i64 0, .int .i64 0, .int .i64 0, .int .i64 0, .int .i64 0, .int .i64 0] 35 (0, 0)) from (hbA.block _ ltR).trans (unhide HR))
            replace HK := hide (show Kp R w (wv8.alloc (.cells #[.int .i64 (-1), .int .i64 4] 3)) from (unhide HK).trans (Kp.of_bel (by omega) hbA))
            replace HD := hide (show Rd R (wv8.alloc (.cells #[.int .i64 (-1), .int .i64 4] 3)) a len cap (p1 + 1 + 1 + 1 + 1 + 1 + 1) from (unhide HD).kp (by omega) hbA)
            have HS := hide hS
            clear ltB ltR hbA hS
            generalize (wv8.alloc (.cells #[.int .i64 (-1), .int .i64 4] 3)) = wv9 at HX HR HK HD HS hsz ⊢
            have ltB : B < wv9.heap.size := heap_lt (unhide HX)
            have ltR : w.heap.size < wv9.heap.size := heap_lt (unhide HR)
            clear qx0 qf0 rx0 rf0 qx1 qf1 rx1 rf1 qx2 qf2 rx2 rf2 qx3 qf3 rx3 rf3 qx4 qf4 rx4 rf4 qx5 qf5 rx5 rf5 qx6 qf6 rx6 rf6 qx7 qf7 rx7 rf7 qx8 qf8 rx8 rf8
            refine (pick_any R a len cap (p1 + 1 + 1 + 1 + 1 + 1 + 1) 2 _ (by decide) (by decide) (unhide HD)).mono ?_
            rintro e' wv10 ⟨x9, rfl, x9l, x9u, k9, r9⟩
            replace HX := hide (show wv10.heap[B]? = some (.cells #[.int .i64 c0, .int .i64 c1, .int .i64 c2, .int .i64 (1 + x4), .int .i64 3, .int .i64 0, .int .i64 0, .int .i64 0, .int .i64 0] 35 (0, 0)) from (k9.all _ ltB (by omega)).trans (unhide HX))
            replace HR := hide (show wv10.heap[w.heap.size]? = some (.cells #[.int .i64 0, .int .i64 0, .int .i64 0, .int .i64 0, .int .i64 0, .int .i64 0, .int .i64 0, .int .i64 0, .int .i64 0] 35 (0, 0)) from (k9.all _ ltR (by omega)).trans (unhide HR))
            replace HK := hide ((unhide HK).trans k9)
            replace HD := hide (r9 (by omega))
            have hS9 := (k9.all _ hsz neo).trans (unhide HS)
            clear k9 r9 ltB ltR
            have ltB : B < wv10.heap.size := heap_lt (unhide HX)
            have ltR : w.heap.size < wv10.heap.size := heap_lt (unhide HR)
            obtain ⟨qx0, qf0⟩ := cells_blk (n := 0) (unhide HX) 0
            obtain ⟨qx1, qf1⟩ := cells_blk (n := 0) (unhide HX) 1
            obtain ⟨qx2, qf2⟩ := cells_blk (n := 0) (unhide HX) 2
            obtain ⟨qx3, qf3⟩ := cells_blk (n := 0) (unhide HX) 3
            obtain ⟨qx4, qf4⟩ := cells_blk (n := 0) (unhide HX) 4
            obtain ⟨qx5, qf5⟩ := cells_blk (n := 0) (unhide HX) 5
            obtain ⟨qx6, qf6⟩ := cells_blk (n := 0) (unhide HX) 6
            obtain ⟨qx7, qf7⟩ := cells_blk (n := 0) (unhide HX) 7
            obtain ⟨qx8, qf8⟩ := cells_blk (n := 0) (unhide HX) 8
            simp only [gA, gZ, gS] at qx0 qx1 qx2 qx3 qx4 qx5 qx6 qx7 qx8
            obtain ⟨rx0, rf0⟩ := cells_blk (n := 0) (unhide HR) 0
            obtain ⟨rx1, rf1⟩ := cells_blk (n := 0) (unhide HR) 1
            obtain ⟨rx2, rf2⟩ := cells_blk (n := 0) (unhide HR) 2
            obtain ⟨rx3, rf3⟩ := cells_blk (n := 0) (unhide HR) 3
            obtain ⟨rx4, rf4⟩ := cells_blk (n := 0) (unhide HR) 4
            obtain ⟨rx5, rf5⟩ := cells_blk (n := 0) (unhide HR) 5
            obtain ⟨rx6, rf6⟩ := cells_blk (n := 0) (unhide HR) 6
            obtain ⟨rx7, rf7⟩ := cells_blk (n := 0) (unhide HR) 7
            obtain ⟨rx8, rf8⟩ := cells_blk (n := 0) (unhide HR) 8
            simp only [gA, gZ, gS] at rx0 rx1 rx2 rx3 rx4 rx5 rx6 rx7 rx8
            obtain ⟨t9, hz9, ht9a, ht9b⟩ := elm1_4_ x9 x9l (by omega)
            have hc9 := (cells_blk (n := 0) hS9 x9.toNat).1.trans hz9
            have hix1 : ¬ x9 < 0 := by omega
            have hix2 : x9.toNat < 2 := by omega
            have hix3 : x9 < 2 := by omega
            clear hS9 HS
            go_wp2
            refine bodyPost_ret (v := .agg #[.int .i64 t9, .int .i64 c1, .int .i64 c2, .int .i64 (1 + x4), .int .i64 3, .int .i64 0, .int .i64 0, .int .i64 0, .int .i64 0]) (by simp (maxDischargeDepth := 9) [results, Try.results31, go_sem, *]) rfl ?_
            exact ⟨_, _, _, _, _, _, _, _, _, rfl, (kp_setB (kp_setB (kp_setB (kp_setB (kp_setB (kp_setB (kp_setB (kp_setB (kp_setB (kp_setB (o := 0) (unhide HK) hRB hwB) hR0 (Nat.le_refl _)) hR0 (Nat.le_refl _)) hR0 (Nat.le_refl _)) hR0 (Nat.le_refl _)) hR0 (Nat.le_refl _)) hR0 (Nat.le_refl _)) hR0 (Nat.le_refl _)) hR0 (Nat.le_refl _)) hR0 (Nat.le_refl _)), _, (by omega), (rd_setB (rd_setB (rd_setB (rd_setB (rd_setB (rd_setB (rd_setB (rd_setB (rd_setB (rd_setB (o := 0) (unhide HD) hRB) hR0) hR0) hR0) hR0) hR0) hR0) hR0) hR0) hR0), (by omega), (unhide HW)⟩
          · go_wp2_with fail
            clear qx0 qf0 rx0 rf0 qx1 qf1 rx1 rf1 qx2 qf2 rx2 rf2 qx3 qf3 rx3 rf3 qx4 qf4 rx4 rf4 qx5 qf5 rx5 rf5 qx6 qf6 rx6 rf6 qx7 qf7 rx7 rf7 qx8 qf8 rx8 rf8
            refine (win_any R a len cap (p1 + 1 + 1 + 1 + 1 + 1 + 1) 1 _ (by decide) (by decide) (by omega) (by omega) (unhide HD)).mono ?_
            rintro e' wv11 ⟨s9, e9, rfl, hs9, he9, k9, p9, hp9, r9⟩
            replace HX := hide (show wv11.heap[B]? = some (.cells #[.int .i64 c0, .int .i64 c1, .int .i64 c2, .int .i64 (1 + x4), .int .i64 3, .int .i64 0, .int .i64 0, .int .i64 0, .int .i64 0] 35 (0, 0)) from (k9.all _ ltB (by omega)).trans (unhide HX))
            replace HR := hide (show wv11.heap[w.heap.size]? = some (.cells #[.int .i64 0, .int .i64 0, .int .i64 0, .int .i64 0, .int .i64 0, .int .i64 0, .int .i64 0, .int .i64 0, .int .i64 0] 35 (0, 0)) from (k9.all _ ltR (by omega)).trans (unhide HR))
            replace HK := hide ((unhide HK).trans k9)
            replace HD := hide r9
            clear k9 r9 ltB ltR
            have ltB : B < wv11.heap.size := heap_lt (unhide HX)
            have ltR : w.heap.size < wv11.heap.size := heap_lt (unhide HR)
            obtain ⟨qx0, qf0⟩ := cells_blk (n := 0) (unhide HX) 0
            obtain ⟨qx1, qf1⟩ := cells_blk (n := 0) (unhide HX) 1
            obtain ⟨qx2, qf2⟩ := cells_blk (n := 0) (unhide HX) 2
            obtain ⟨qx3, qf3⟩ := cells_blk (n := 0) (unhide HX) 3
            obtain ⟨qx4, qf4⟩ := cells_blk (n := 0) (unhide HX) 4
            obtain ⟨qx5, qf5⟩ := cells_blk (n := 0) (unhide HX) 5
            obtain ⟨qx6, qf6⟩ := cells_blk (n := 0) (unhide HX) 6
            obtain ⟨qx7, qf7⟩ := cells_blk (n := 0) (unhide HX) 7
            obtain ⟨qx8, qf8⟩ := cells_blk (n := 0) (unhide HX) 8
            simp only [gA, gZ, gS] at qx0 qx1 qx2 qx3 qx4 qx5 qx6 qx7 qx8
            obtain ⟨rx0, rf0⟩ := cells_blk (n := 0) (unhide HR) 0
            obtain ⟨rx1, rf1⟩ := cells_blk (n := 0) (unhide HR) 1
            obtain ⟨rx2, rf2⟩ := cells_blk (n := 0) (unhide HR) 2
            obtain ⟨rx3, rf3⟩ := cells_blk (n := 0) (unhide HR) 3
            obtain ⟨rx4, rf4⟩ := cells_blk (n := 0) (unhide HR) 4
            obtain ⟨rx5, rf5⟩ := cells_blk (n := 0) (unhide HR) 5
            obtain ⟨rx6, rf6⟩ := cells_blk (n := 0) (unhide HR) 6
            obtain ⟨rx7, rf7⟩ := cells_blk (n := 0) (unhide HR) 7
            obtain ⟨rx8, rf8⟩ := cells_blk (n := 0) (unhide HR) 8
            simp only [gA, gZ, gS] at rx0 rx1 rx2 rx3 rx4 rx5 rx6 rx7 rx8
            go_wp2
            refine bodyPost_ret (v := .agg #[.int .i64 c0, .int .i64 s9, .int .i64 e9, .int .i64 (1 + x4), .int .i64 3, .int .i64 0, .int .i64 0, .int .i64 0, .int .i64 0]) (by simp (maxDischargeDepth := 9) [results, Try.results31, go_sem, *]) rfl ?_
            exact ⟨_, _, _, _, _, _, _, _, _, rfl, (kp_setB (kp_setB (kp_setB (kp_setB (kp_setB (kp_setB (kp_setB (kp_setB (kp_setB (kp_setB (o := 2) (kp_setB (o := 1) (unhide HK) hRB hwB) hRB hwB) hR0 (Nat.le_refl _)) hR0 (Nat.le_refl _)) hR0 (Nat.le_refl _)) hR0 (Nat.le_refl _)) hR0 (Nat.le_refl _)) hR0 (Nat.le_refl _)) hR0 (Nat.le_refl _)) hR0 (Nat.le_refl _)) hR0 (Nat.le_refl _)), _, (by omega), (rd_setB (rd_setB (rd_setB (rd_setB (rd_setB (rd_setB (rd_setB (rd_setB (rd_setB (rd_setB (o := 2) (rd_setB (o := 1) (unhide HD) hRB) hRB) hR0) hR0) hR0) hR0) hR0) hR0) hR0) hR0) hR0), (by omega), ⟨hs9, he9⟩⟩
          · go_wp2_with fail
            have hS : (wv8.alloc (.cells #[.int .i64 (-1), .int .i64 0, .int .i64 1, .int .i64 1500, .int .i64 1501] 3)).heap[wv8.heap.size]? = some (.cells #[.int .i64 (-1), .int .i64 0, .int .i64 1, .int .i64 1500, .int .i64 1501] 3 (0, 0)) := heap_alloc_new _ _
            have hbA : Below wv8.heap.size wv8 (wv8.alloc (.cells #[.int .i64 (-1), .int .i64 0, .int .i64 1, .int .i64 1500, .int .i64 1501] 3)) := bel_one _ _
            have hRo : R < wv8.heap.size := by omega
            have hsz : wv8.heap.size < (wv8.alloc (.cells #[.int .i64 (-1), .int .i64 0, .int .i64 1, .int .i64 1500, .int .i64 1501] 3)).heap.size := by simp
            have neo : wv8.heap.size ≠ R := by omega
            replace HX := hide (show (wv8.alloc (.cells #[.int .i64 (-1), .int .i64 0, .int .i64 1, .int .i64 1500, .int .i64 1501] 3)).heap[B]? = some (.cells #[.int .i64 c0, .int .i64 c1, .int .i64 c2, .int .i64 (1 + x4), .int .i64 3, .int .i64 0, .int .i64 0, .int .i64 0, .int .i64 0] 35 (0, 0)) from (hbA.block _ ltB).trans (unhide HX))
            replace HR := hide (show (wv8.alloc (.cells #[.int .i64 (-1), .int .i64 0, .int .i64 1, .int .i64 1500, .int .i64 1501] 3)).heap[w.heap.size]? = some (.cells #[.int .i64 0, .int .i64 0, .int .i64 0, .int .i64 0, .int .i64 0, .int .i64 0, .int .i64 0, .int .i64 0, .int .i64 0] 35 (0, 0)) from (hbA.block _ ltR).trans (unhide HR))
            replace HK := hide (show Kp R w (wv8.alloc (.cells #[.int .i64 (-1), .int .i64 0, .int .i64 1, .int .i64 1500, .int .i64 1501] 3)) from (unhide HK).trans (Kp.of_bel (by omega) hbA))
            replace HD := hide (show Rd R (wv8.alloc (.cells #[.int .i64 (-1), .int .i64 0, .int .i64 1, .int .i64 1500, .int .i64 1501] 3)) a len cap (p1 + 1 + 1 + 1 + 1 + 1 + 1) from (unhide HD).kp (by omega) hbA)
            have HS := hide hS
            clear ltB ltR hbA hS
            generalize (wv8.alloc (.cells #[.int .i64 (-1), .int .i64 0, .int .i64 1, .int .i64 1500, .int .i64 1501] 3)) = wv12 at HX HR HK HD HS hsz ⊢
            have ltB : B < wv12.heap.size := heap_lt (unhide HX)
            have ltR : w.heap.size < wv12.heap.size := heap_lt (unhide HR)
            clear qx0 qf0 rx0 rf0 qx1 qf1 rx1 rf1 qx2 qf2 rx2 rf2 qx3 qf3 rx3 rf3 qx4 qf4 rx4 rf4 qx5 qf5 rx5 rf5 qx6 qf6 rx6 rf6 qx7 qf7 rx7 rf7 qx8 qf8 rx8 rf8
            refine (pick_any R a len cap (p1 + 1 + 1 + 1 + 1 + 1 + 1) 5 _ (by decide) (by decide) (unhide HD)).mono ?_
            rintro e' wv13 ⟨x9, rfl, x9l, x9u, k9, r9⟩
            replace HX := hide (show wv13.heap[B]? = some (.cells #[.int .i64 c0, .int .i64 c1, .int .i64 c2, .int .i64 (1 + x4), .int .i64 3, .int .i64 0, .int .i64 0, .int .i64 0, .int .i64 0] 35 (0, 0)) from (k9.all _ ltB (by omega)).trans (unhide HX))
            replace HR := hide (show wv13.heap[w.heap.size]? = some (.cells #[.int .i64 0, .int .i64 0, .int .i64 0, .int .i64 0, .int .i64 0, .int .i64 0, .int .i64 0, .int .i64 0, .int .i64 0] 35 (0, 0)) from (k9.all _ ltR (by omega)).trans (unhide HR))
            replace HK := hide ((unhide HK).trans k9)
            replace HD := hide (r9 (by omega))
            have hS9 := (k9.all _ hsz neo).trans (unhide HS)
            clear k9 r9 ltB ltR
            have ltB : B < wv13.heap.size := heap_lt (unhide HX)
            have ltR : w.heap.size < wv13.heap.size := heap_lt (unhide HR)
            obtain ⟨qx0, qf0⟩ := cells_blk (n := 0) (unhide HX) 0
            obtain ⟨qx1, qf1⟩ := cells_blk (n := 0) (unhide HX) 1
            obtain ⟨qx2, qf2⟩ := cells_blk (n := 0) (unhide HX) 2
            obtain ⟨qx3, qf3⟩ := cells_blk (n := 0) (unhide HX) 3
            obtain ⟨qx4, qf4⟩ := cells_blk (n := 0) (unhide HX) 4
            obtain ⟨qx5, qf5⟩ := cells_blk (n := 0) (unhide HX) 5
            obtain ⟨qx6, qf6⟩ := cells_blk (n := 0) (unhide HX) 6
            obtain ⟨qx7, qf7⟩ := cells_blk (n := 0) (unhide HX) 7
            obtain ⟨qx8, qf8⟩ := cells_blk (n := 0) (unhide HX) 8
            simp only [gA, gZ, gS] at qx0 qx1 qx2 qx3 qx4 qx5 qx6 qx7 qx8
            obtain ⟨rx0, rf0⟩ := cells_blk (n := 0) (unhide HR) 0
            obtain ⟨rx1, rf1⟩ := cells_blk (n := 0) (unhide HR) 1
            obtain ⟨rx2, rf2⟩ := cells_blk (n := 0) (unhide HR) 2
            obtain ⟨rx3, rf3⟩ := cells_blk (n := 0) (unhide HR) 3
            obtain ⟨rx4, rf4⟩ := cells_blk (n := 0) (unhide HR) 4
            obtain ⟨rx5, rf5⟩ := cells_blk (n := 0) (unhide HR) 5
            obtain ⟨rx6, rf6⟩ := cells_blk (n := 0) (unhide HR) 6
            obtain ⟨rx7, rf7⟩ := cells_blk (n := 0) (unhide HR) 7
            obtain ⟨rx8, rf8⟩ := cells_blk (n := 0) (unhide HR) 8
            simp only [gA, gZ, gS] at rx0 rx1 rx2 rx3 rx4 rx5 rx6 rx7 rx8
            obtain ⟨t9, hz9, ht9a, ht9b⟩ := elm1_0_1_1500_1501_ x9 x9l (by omega)
            have hc9 := (cells_blk (n := 0) hS9 x9.toNat).1.trans hz9
            have hix1 : ¬ x9 < 0 := by omega
            have hix2 : x9.toNat < 5 := by omega
            have hix3 : x9 < 5 := by omega
            clear hS9 HS
            go_wp2
            refine bodyPost_ret (v := .agg #[.int .i64 c0, .int .i64 c1, .int .i64 c2, .int .i64 t9, .int .i64 3, .int .i64 0, .int .i64 0, .int .i64 0, .int .i64 0]) (by simp (maxDischargeDepth := 9) [results, Try.results31, go_sem, *]) rfl ?_
            exact ⟨_, _, _, _, _, _, _, _, _, rfl, (kp_setB (kp_setB (kp_setB (kp_setB (kp_setB (kp_setB (kp_setB (kp_setB (kp_setB (kp_setB (o := 3) (unhide HK) hRB hwB) hR0 (Nat.le_refl _)) hR0 (Nat.le_refl _)) hR0 (Nat.le_refl _)) hR0 (Nat.le_refl _)) hR0 (Nat.le_refl _)) hR0 (Nat.le_refl _)) hR0 (Nat.le_refl _)) hR0 (Nat.le_refl _)) hR0 (Nat.le_refl _)), _, (by omega), (rd_setB (rd_setB (rd_setB (rd_setB (rd_setB (rd_setB (rd_setB (rd_setB (rd_setB (rd_setB (o := 3) (unhide HD) hRB) hR0) hR0) hR0) hR0) hR0) hR0) hR0) hR0) hR0), (by omega), (unhide HW)⟩
          · go_wp2_with fail
            clear qx0 qf0 rx0 rf0 qx1 qf1 rx1 rf1 qx2 qf2 rx2 rf2 qx3 qf3 rx3 rf3 qx4 qf4 rx4 rf4 qx5 qf5 rx5 rf5 qx6 qf6 rx6 rf6 qx7 qf7 rx7 rf7 qx8 qf8 rx8 rf8
            refine (pick_any R a len cap (p1 + 1 + 1 + 1 + 1 + 1 + 1) 5 _ (by decide) (by decide) (unhide HD)).mono ?_
            rintro e' wv14 ⟨x7, rfl, x7l, x7u, k9, r9⟩
            replace HX := hide (show wv14.heap[B]? = some (.cells #[.int .i64 c0, .int .i64 c1, .int .i64 c2, .int .i64 (1 + x4), .int .i64 3, .int .i64 0, .int .i64 0, .int .i64 0, .int .i64 0] 35 (0, 0)) from (k9.all _ ltB (by omega)).trans (unhide HX))
            replace HR := hide (show wv14.heap[w.heap.size]? = some (.cells #[.int .i64 0, .int .i64 0, .int .i64 0, .int .i64 0, .int .i64 0, .int .i64 0, .int .i64 0, .int .i64 0, .int .i64 0] 35 (0, 0)) from (k9.all _ ltR (by omega)).trans (unhide HR))
            replace HK := hide ((unhide HK).trans k9)
            replace HD := hide (r9 (by omega))
            clear k9 r9 ltB ltR
            have ltB : B < wv14.heap.size := heap_lt (unhide HX)
            have ltR : w.heap.size < wv14.heap.size := heap_lt (unhide HR)
            obtain ⟨qx0, qf0⟩ := cells_blk (n := 0) (unhide HX) 0
            obtain ⟨qx1, qf1⟩ := cells_blk (n := 0) (unhide HX) 1
            obtain ⟨qx2, qf2⟩ := cells_blk (n := 0) (unhide HX) 2
            obtain ⟨qx3, qf3⟩ := cells_blk (n := 0) (unhide HX) 3
            obtain ⟨qx4, qf4⟩ := cells_blk (n := 0) (unhide HX) 4
            obtain ⟨qx5, qf5⟩ := cells_blk (n := 0) (unhide HX) 5
            obtain ⟨qx6, qf6⟩ := cells_blk (n := 0) (unhide HX) 6
            obtain ⟨qx7, qf7⟩ := cells_blk (n := 0) (unhide HX) 7
            obtain ⟨qx8, qf8⟩ := cells_blk (n := 0) (unhide HX) 8
            simp only [gA, gZ, gS] at qx0 qx1 qx2 qx3 qx4 qx5 qx6 qx7 qx8
            obtain ⟨rx0, rf0⟩ := cells_blk (n := 0) (unhide HR) 0
            obtain ⟨rx1, rf1⟩ := cells_blk (n := 0) (unhide HR) 1
            obtain ⟨rx2, rf2⟩ := cells_blk (n := 0) (unhide HR) 2
            obtain ⟨rx3, rf3⟩ := cells_blk (n := 0) (unhide HR) 3
            obtain ⟨rx4, rf4⟩ := cells_blk (n := 0) (unhide HR) 4
            obtain ⟨rx5, rf5⟩ := cells_blk (n := 0) (unhide HR) 5
            obtain ⟨rx6, rf6⟩ := cells_blk (n := 0) (unhide HR) 6
            obtain ⟨rx7, rf7⟩ := cells_blk (n := 0) (unhide HR) 7
            obtain ⟨rx8, rf8⟩ := cells_blk (n := 0) (unhide HR) 8
            simp only [gA, gZ, gS] at rx0 rx1 rx2 rx3 rx4 rx5 rx6 rx7 rx8
            go_wp2
            refine bodyPost_ret (v := .agg #[.int .i64 c0, .int .i64 c1, .int .i64 c2, .int .i64 (1 + x4), .int .i64 x7, .int .i64 0, .int .i64 0, .int .i64 0, .int .i64 0]) (by simp (maxDischargeDepth := 9) [results, Try.results31, go_sem, *]) rfl ?_
            exact ⟨_, _, _, _, _, _, _, _, _, rfl, (kp_setB (kp_setB (kp_setB (kp_setB (kp_setB (kp_setB (kp_setB (kp_setB (kp_setB (kp_setB (o := 4) (unhide HK) hRB hwB) hR0 (Nat.le_refl _)) hR0 (Nat.le_refl _)) hR0 (Nat.le_refl _)) hR0 (Nat.le_refl _)) hR0 (Nat.le_refl _)) hR0 (Nat.le_refl _)) hR0 (Nat.le_refl _)) hR0 (Nat.le_refl _)) hR0 (Nat.le_refl _)), _, (by omega), (rd_setB (rd_setB (rd_setB (rd_setB (rd_setB (rd_setB (rd_setB (rd_setB (rd_setB (rd_setB (o := 4) (unhide HD) hRB) hR0) hR0) hR0) hR0) hR0) hR0) hR0) hR0) hR0), (by omega), (unhide HW)⟩
          · go_wp2_with fail
            clear qx0 qf0 rx0 rf0 qx1 qf1 rx1 rf1 qx2 qf2 rx2 rf2 qx3 qf3 rx3 rf3 qx4 qf4 rx4 rf4 qx5 qf5 rx5 rf5 qx6 qf6 rx6 rf6 qx7 qf7 rx7 rf7 qx8 qf8 rx8 rf8
            refine (agg_any R a len cap (p1 + 1 + 1 + 1 + 1 + 1 + 1) 1 _ (by decide) (by decide) (by omega) (by omega) (unhide HD)).mono ?_
            rintro e' wv15 ⟨n9, m9, l9, t9, rfl, _, _, _, _, k9, p9, hp9, r9⟩
            replace HX := hide (show wv15.heap[B]? = some (.cells #[.int .i64 c0, .int .i64 c1, .int .i64 c2, .int .i64 (1 + x4), .int .i64 3, .int .i64 0, .int .i64 0, .int .i64 0, .int .i64 0] 35 (0, 0)) from (k9.all _ ltB (by omega)).trans (unhide HX))
            replace HR := hide (show wv15.heap[w.heap.size]? = some (.cells #[.int .i64 0, .int .i64 0, .int .i64 0, .int .i64 0, .int .i64 0, .int .i64 0, .int .i64 0, .int .i64 0, .int .i64 0] 35 (0, 0)) from (k9.all _ ltR (by omega)).trans (unhide HR))
            replace HK := hide ((unhide HK).trans k9)
            replace HD := hide r9
            clear k9 r9 ltB ltR
            have ltB : B < wv15.heap.size := heap_lt (unhide HX)
            have ltR : w.heap.size < wv15.heap.size := heap_lt (unhide HR)
            obtain ⟨qx0, qf0⟩ := cells_blk (n := 0) (unhide HX) 0
            obtain ⟨qx1, qf1⟩ := cells_blk (n := 0) (unhide HX) 1
            obtain ⟨qx2, qf2⟩ := cells_blk (n := 0) (unhide HX) 2
            obtain ⟨qx3, qf3⟩ := cells_blk (n := 0) (unhide HX) 3
            obtain ⟨qx4, qf4⟩ := cells_blk (n := 0) (unhide HX) 4
            obtain ⟨qx5, qf5⟩ := cells_blk (n := 0) (unhide HX) 5
            obtain ⟨qx6, qf6⟩ := cells_blk (n := 0) (unhide HX) 6
            obtain ⟨qx7, qf7⟩ := cells_blk (n := 0) (unhide HX) 7
            obtain ⟨qx8, qf8⟩ := cells_blk (n := 0) (unhide HX) 8
            simp only [gA, gZ, gS] at qx0 qx1 qx2 qx3 qx4 qx5 qx6 qx7 qx8
            obtain ⟨rx0, rf0⟩ := cells_blk (n := 0) (unhide HR) 0
            obtain ⟨rx1, rf1⟩ := cells_blk (n := 0) (unhide HR) 1
            obtain ⟨rx2, rf2⟩ := cells_blk (n := 0) (unhide HR) 2
            obtain ⟨rx3, rf3⟩ := cells_blk (n := 0) (unhide HR) 3
            obtain ⟨rx4, rf4⟩ := cells_blk (n := 0) (unhide HR) 4
            obtain ⟨rx5, rf5⟩ := cells_blk (n := 0) (unhide HR) 5
            obtain ⟨rx6, rf6⟩ := cells_blk (n := 0) (unhide HR) 6
            obtain ⟨rx7, rf7⟩ := cells_blk (n := 0) (unhide HR) 7
            obtain ⟨rx8, rf8⟩ := cells_blk (n := 0) (unhide HR) 8
            simp only [gA, gZ, gS] at rx0 rx1 rx2 rx3 rx4 rx5 rx6 rx7 rx8
            go_wp2
            refine bodyPost_ret (v := .agg #[.int .i64 c0, .int .i64 c1, .int .i64 c2, .int .i64 (1 + x4), .int .i64 3, .int .i64 n9, .int .i64 m9, .int .i64 l9, .int .i64 t9]) (by simp (maxDischargeDepth := 9) [results, Try.results31, go_sem, *]) rfl ?_
            exact ⟨_, _, _, _, _, _, _, _, _, rfl, (kp_setB (kp_setB (kp_setB (kp_setB (kp_setB (kp_setB (kp_setB (kp_setB (kp_setB (kp_setB (o := 8) (kp_setB (o := 7) (kp_setB (o := 6) (kp_setB (o := 5) (unhide HK) hRB hwB) hRB hwB) hRB hwB) hRB hwB) hR0 (Nat.le_refl _)) hR0 (Nat.le_refl _)) hR0 (Nat.le_refl _)) hR0 (Nat.le_refl _)) hR0 (Nat.le_refl _)) hR0 (Nat.le_refl _)) hR0 (Nat.le_refl _)) hR0 (Nat.le_refl _)) hR0 (Nat.le_refl _)), _, (by omega), (rd_setB (rd_setB (rd_setB (rd_setB (rd_setB (rd_setB (rd_setB (rd_setB (rd_setB (rd_setB (o := 8) (rd_setB (o := 7) (rd_setB (o := 6) (rd_setB (o := 5) (unhide HD) hRB) hRB) hRB) hRB) hR0) hR0) hR0) hR0) hR0) hR0) hR0) hR0) hR0), (by omega), (unhide HW)⟩
      · go_wp2_with fail
        clear qx0 qf0 rx0 rf0 qx1 qf1 rx1 rf1 qx2 qf2 rx2 rf2 qx3 qf3 rx3 rf3 qx4 qf4 rx4 rf4 qx5 qf5 rx5 rf5 qx6 qf6 rx6 rf6 qx7 qf7 rx7 rf7 qx8 qf8 rx8 rf8
        refine (pick_any R a len cap (p1 + 1 + 1 + 1) n _ hn hn2 (unhide HD)).mono ?_
        rintro e' wv16 ⟨x5, rfl, x5l, x5u, k9, r9⟩
        replace HX := hide (show wv16.heap[B]? = some (.cells #[.int .i64 c0, .int .i64 c1, .int .i64 c2, .int .i64 (1 + x2), .int .i64 2, .int .i64 c5, .int .i64 c6, .int .i64 c7, .int .i64 c8] 35 (0, 0)) from (k9.all _ ltB (by omega)).trans (unhide HX))
        replace HR := hide (show wv16.heap[w.heap.size]? = some (.cells #[.int .i64 0, .int .i64 0, .int .i64 0, .int .i64 0, .int .i64 0, .int .i64 0, .int .i64 0, .int .i64 0, .int .i64 0] 35 (0, 0)) from (k9.all _ ltR (by omega)).trans (unhide HR))
        replace HK := hide ((unhide HK).trans k9)
        replace HD := hide (r9 (by omega))
        clear k9 r9 ltB ltR
        have ltB : B < wv16.heap.size := heap_lt (unhide HX)
        have ltR : w.heap.size < wv16.heap.size := heap_lt (unhide HR)
        obtain ⟨qx0, qf0⟩ := cells_blk (n := 0) (unhide HX) 0
        obtain ⟨qx1, qf1⟩ := cells_blk (n := 0) (unhide HX) 1
        obtain ⟨qx2, qf2⟩ := cells_blk (n := 0) (unhide HX) 2
        obtain ⟨qx3, qf3⟩ := cells_blk (n := 0) (unhide HX) 3
        obtain ⟨qx4, qf4⟩ := cells_blk (n := 0) (unhide HX) 4
        obtain ⟨qx5, qf5⟩ := cells_blk (n := 0) (unhide HX) 5
        obtain ⟨qx6, qf6⟩ := cells_blk (n := 0) (unhide HX) 6
        obtain ⟨qx7, qf7⟩ := cells_blk (n := 0) (unhide HX) 7
        obtain ⟨qx8, qf8⟩ := cells_blk (n := 0) (unhide HX) 8
        simp only [gA, gZ, gS] at qx0 qx1 qx2 qx3 qx4 qx5 qx6 qx7 qx8
        obtain ⟨rx0, rf0⟩ := cells_blk (n := 0) (unhide HR) 0
        obtain ⟨rx1, rf1⟩ := cells_blk (n := 0) (unhide HR) 1
        obtain ⟨rx2, rf2⟩ := cells_blk (n := 0) (unhide HR) 2
        obtain ⟨rx3, rf3⟩ := cells_blk (n := 0) (unhide HR) 3
        obtain ⟨rx4, rf4⟩ := cells_blk (n := 0) (unhide HR) 4
        obtain ⟨rx5, rf5⟩ := cells_blk (n := 0) (unhide HR) 5
        obtain ⟨rx6, rf6⟩ := cells_blk (n := 0) (unhide HR) 6
        obtain ⟨rx7, rf7⟩ := cells_blk (n := 0) (unhide HR) 7
        obtain ⟨rx8, rf8⟩ := cells_blk (n := 0) (unhide HR) 8
        simp only [gA, gZ, gS] at rx0 rx1 rx2 rx3 rx4 rx5 rx6 rx7 rx8
        by_cases hx5 : 0 < x5
        · go_wp2
          refine bodyPost_ret (v := .agg #[.int .i64 c0, .int .i64 c1, .int .i64 c2, .int .i64 (1 + x2), .int .i64 2, .int .i64 c5, .int .i64 c6, .int .i64 c7, .int .i64 c8]) (by simp (maxDischargeDepth := 9) [results, Try.results31, go_sem, *]) rfl ?_
          exact ⟨_, _, _, _, _, _, _, _, _, rfl, (kp_setB (kp_setB (kp_setB (kp_setB (kp_setB (kp_setB (kp_setB (kp_setB (kp_setB (unhide HK) hR0 (Nat.le_refl _)) hR0 (Nat.le_refl _)) hR0 (Nat.le_refl _)) hR0 (Nat.le_refl _)) hR0 (Nat.le_refl _)) hR0 (Nat.le_refl _)) hR0 (Nat.le_refl _)) hR0 (Nat.le_refl _)) hR0 (Nat.le_refl _)), _, (by omega), (rd_setB (rd_setB (rd_setB (rd_setB (rd_setB (rd_setB (rd_setB (rd_setB (rd_setB (unhide HD) hR0) hR0) hR0) hR0) hR0) hR0) hR0) hR0) hR0), (by omega), (unhide HW)⟩
        · obtain rfl : x5 = 0 := by omega
          go_wp2_with fail
          clear qx0 qf0 rx0 rf0 qx1 qf1 rx1 rf1 qx2 qf2 rx2 rf2 qx3 qf3 rx3 rf3 qx4 qf4 rx4 rf4 qx5 qf5 rx5 rf5 qx6 qf6 rx6 rf6 qx7 qf7 rx7 rf7 qx8 qf8 rx8 rf8
          refine (pick_any R a len cap (p1 + 1 + 1 + 1 + 1) 5 _ (by decide) (by decide) (unhide HD)).mono ?_
          rintro e' wv17 ⟨x6, rfl, x6l, x6u, k9, r9⟩
          replace HX := hide (show wv17.heap[B]? = some (.cells #[.int .i64 c0, .int .i64 c1, .int .i64 c2, .int .i64 (1 + x2), .int .i64 2, .int .i64 c5, .int .i64 c6, .int .i64 c7, .int .i64 c8] 35 (0, 0)) from (k9.all _ ltB (by omega)).trans (unhide HX))
          replace HR := hide (show wv17.heap[w.heap.size]? = some (.cells #[.int .i64 0, .int .i64 0, .int .i64 0, .int .i64 0, .int .i64 0, .int .i64 0, .int .i64 0, .int .i64 0, .int .i64 0] 35 (0, 0)) from (k9.all _ ltR (by omega)).trans (unhide HR))
          replace HK := hide ((unhide HK).trans k9)
          replace HD := hide (r9 (by omega))
          clear k9 r9 ltB ltR
          have ltB : B < wv17.heap.size := heap_lt (unhide HX)
          have ltR : w.heap.size < wv17.heap.size := heap_lt (unhide HR)
          obtain ⟨qx0, qf0⟩ := cells_blk (n := 0) (unhide HX) 0
          obtain ⟨qx1, qf1⟩ := cells_blk (n := 0) (unhide HX) 1
          obtain ⟨qx2, qf2⟩ := cells_blk (n := 0) (unhide HX) 2
          obtain ⟨qx3, qf3⟩ := cells_blk (n := 0) (unhide HX) 3
          obtain ⟨qx4, qf4⟩ := cells_blk (n := 0) (unhide HX) 4
          obtain ⟨qx5, qf5⟩ := cells_blk (n := 0) (unhide HX) 5
          obtain ⟨qx6, qf6⟩ := cells_blk (n := 0) (unhide HX) 6
          obtain ⟨qx7, qf7⟩ := cells_blk (n := 0) (unhide HX) 7
          obtain ⟨qx8, qf8⟩ := cells_blk (n := 0) (unhide HX) 8
          simp only [gA, gZ, gS] at qx0 qx1 qx2 qx3 qx4 qx5 qx6 qx7 qx8
          obtain ⟨rx0, rf0⟩ := cells_blk (n := 0) (unhide HR) 0
          obtain ⟨rx1, rf1⟩ := cells_blk (n := 0) (unhide HR) 1
          obtain ⟨rx2, rf2⟩ := cells_blk (n := 0) (unhide HR) 2
          obtain ⟨rx3, rf3⟩ := cells_blk (n := 0) (unhide HR) 3
          obtain ⟨rx4, rf4⟩ := cells_blk (n := 0) (unhide HR) 4
          obtain ⟨rx5, rf5⟩ := cells_blk (n := 0) (unhide HR) 5
          obtain ⟨rx6, rf6⟩ := cells_blk (n := 0) (unhide HR) 6
          obtain ⟨rx7, rf7⟩ := cells_blk (n := 0) (unhide HR) 7
          obtain ⟨rx8, rf8⟩ := cells_blk (n := 0) (unhide HR) 8
          simp only [gA, gZ, gS] at rx0 rx1 rx2 rx3 rx4 rx5 rx6 rx7 rx8
          obtain rfl | rfl | rfl | rfl | rfl : x6 = 0 ∨ x6 = 1 ∨ x6 = 2 ∨ x6 = 3 ∨ x6 = 4 := by omega
          · go_wp2_with fail
            have hS : (wv17.alloc (.cells #[.int .i64 (-1), .int .i64 4] 3)).heap[wv17.heap.size]? = some (.cells #[.int .i64 (-1), .int .i64 4] 3 (0, 0)) := heap_alloc_new _ _
            have hbA : Below wv17.heap.size wv17 (wv17.alloc (.cells #[.int .i64 (-1), .int .i64 4] 3)) := bel_one _ _
            have hRo : R < wv17.heap.size := by omega
            have hsz : wv17.heap.size < (wv17.alloc (.cells #[.int .i64 (-1), .int .i64 4] 3)).heap.size := by simp
            have neo : wv17.heap.size ≠ R := by omega
            replace HX := hide (show (wv17.alloc (.cells #[.int .i64 (-1), .int .i64 4] 3)).heap[B]? = some (.cells #[.int .i64 c0, .int .i64 c1, .int .i64 c2, .int .i64 (1 + x2), .int .i64 2, .int .i64 c5, .int .i64 c6, .int .i64 c7, .int .i64 c8] 35 (0, 0)) from (hbA.block _ ltB).trans (unhide HX))
            replace HR := hide (show (wv17.alloc (.cells #[.int .i64 (-1), .int .i64 4] 3)).heap[w.heap.size]? = some (.cells #[.int .i64 0, .int .i64 0, .int .i64 0, .int .i64 0, .int .i64 0, .int .i64 0, .int .i64 0, .int .i64 0, .int .i64 0] 35 (0, 0)) from (hbA.block _ ltR).trans (unhide HR))
            replace HK := hide (show Kp R w (wv17.alloc (.cells #[.int .i64 (-1), .int .i64 4] 3)) from (unhide HK).trans (Kp.of_bel (by omega) hbA))
            replace HD := hide (show Rd R (wv17.alloc (.cells #[.int .i64 (-1), .int .i64 4] 3)) a len cap (p1 + 1 + 1 + 1 + 1 + 1) from (unhide HD).kp (by omega) hbA)
            have HS := hide hS
            clear ltB ltR hbA hS
            generalize (wv17.alloc (.cells #[.int .i64 (-1), .int .i64 4] 3)) = wv18 at HX HR HK HD HS hsz ⊢
            have ltB : B < wv18.heap.size := heap_lt (unhide HX)
            have ltR : w.heap.size < wv18.heap.size := heap_lt (unhide HR)
            clear qx0 qf0 rx0 rf0 qx1 qf1 rx1 rf1 qx2 qf2 rx2 rf2 qx3 qf3 rx3 rf3 qx4 qf4 rx4 rf4 qx5 qf5 rx5 rf5 qx6 qf6 rx6 rf6 qx7 qf7 rx7 rf7 qx8 qf8 rx8 rf8
            refine (pick_any R a len cap (p1 + 1 + 1 + 1 + 1 + 1) 2 _ (by decide) (by decide) (unhide HD)).mono ?_
            rintro e' wv19 ⟨x9, rfl, x9l, x9u, k9, r9⟩
            replace HX := hide (show wv19.heap[B]? = some (.cells #[.int .i64 c0, .int .i64 c1, .int .i64 c2, .int .i64 (1 + x2), .int .i64 2, .int .i64 c5, .int .i64 c6, .int .i64 c7, .int .i64 c8] 35 (0, 0)) from (k9.all _ ltB (by omega)).trans (unhide HX))
            replace HR := hide (show wv19.heap[w.heap.size]? = some (.cells #[.int .i64 0, .int .i64 0, .int .i64 0, .int .i64 0, .int .i64 0, .int .i64 0, .int .i64 0, .int .i64 0, .int .i64 0] 35 (0, 0)) from (k9.all _ ltR (by omega)).trans (unhide HR))
            replace HK := hide ((unhide HK).trans k9)
            replace HD := hide (r9 (by omega))
            have hS9 := (k9.all _ hsz neo).trans (unhide HS)
            clear k9 r9 ltB ltR
            have ltB : B < wv19.heap.size := heap_lt (unhide HX)
            have ltR : w.heap.size < wv19.heap.size := heap_lt (unhide HR)
            obtain ⟨qx0, qf0⟩ := cells_blk (n := 0) (unhide HX) 0
            obtain ⟨qx1, qf1⟩ := cells_blk (n := 0) (unhide HX) 1
            obtain ⟨qx2, qf2⟩ := cells_blk (n := 0) (unhide HX) 2
            obtain ⟨qx3, qf3⟩ := cells_blk (n := 0) (unhide HX) 3
            obtain ⟨qx4, qf4⟩ := cells_blk (n := 0) (unhide HX) 4
            obtain ⟨qx5, qf5⟩ := cells_blk (n := 0) (unhide HX) 5
            obtain ⟨qx6, qf6⟩ := cells_blk (n := 0) (unhide HX) 6
            obtain ⟨qx7, qf7⟩ := cells_blk (n := 0) (unhide HX) 7
            obtain ⟨qx8, qf8⟩ := cells_blk (n := 0) (unhide HX) 8
            simp only [gA, gZ, gS] at qx0 qx1 qx2 qx3 qx4 qx5 qx6 qx7 qx8
            obtain ⟨rx0, rf0⟩ := cells_blk (n := 0) (unhide HR) 0
            obtain ⟨rx1, rf1⟩ := cells_blk (n := 0) (unhide HR) 1
            obtain ⟨rx2, rf2⟩ := cells_blk (n := 0) (unhide HR) 2
            obtain ⟨rx3, rf3⟩ := cells_blk (n := 0) (unhide HR) 3
            obtain ⟨rx4, rf4⟩ := cells_blk (n := 0) (unhide HR) 4
            obtain ⟨rx5, rf5⟩ := cells_blk (n := 0) (unhide HR) 5
            obtain ⟨rx6, rf6⟩ := cells_blk (n := 0) (unhide HR) 6
            obtain ⟨rx7, rf7⟩ := cells_blk (n := 0) (unhide HR) 7
            obtain ⟨rx8, rf8⟩ := cells_blk (n := 0) (unhide HR) 8
            simp only [gA, gZ, gS] at rx0 rx1 rx2 rx3 rx4 rx5 rx6 rx7 rx8
            obtain ⟨t9, hz9, ht9a, ht9b⟩ := elm1_4_ x9 x9l (by omega)
            have hc9 := (cells_blk (n := 0) hS9 x9.toNat).1.trans hz9
            have hix1 : ¬ x9 < 0 := by omega
            have hix2 : x9.toNat < 2 := by omega
            have hix3 : x9 < 2 := by omega
            clear hS9 HS
            go_wp2
            refine bodyPost_ret (v := .agg #[.int .i64 t9, .int .i64 c1, .int .i64 c2, .int .i64 (1 + x2), .int .i64 2, .int .i64 c5, .int .i64 c6, .int .i64 c7, .int .i64 c8]) (by simp (maxDischargeDepth := 9) [results, Try.results31, go_sem, *]) rfl ?_
            exact ⟨_, _, _, _, _, _, _, _, _, rfl, (kp_setB (kp_setB (kp_setB (kp_setB (kp_setB (kp_setB (kp_setB (kp_setB (kp_setB (kp_setB (o := 0) (unhide HK) hRB hwB) hR0 (Nat.le_refl _)) hR0 (Nat.le_refl _)) hR0 (Nat.le_refl _)) hR0 (Nat.le_refl _)) hR0 (Nat.le_refl _)) hR0 (Nat.le_refl _)) hR0 (Nat.le_refl _)) hR0 (Nat.le_refl _)) hR0 (Nat.le_refl _)), _, (by omega), (rd_setB (rd_setB (rd_setB (rd_setB (rd_setB (rd_setB (rd_setB (rd_setB (rd_setB (rd_setB (o := 0) (unhide HD) hRB) hR0) hR0) hR0) hR0) hR0) hR0) hR0) hR0) hR0), (by omega), (unhide HW)⟩
          · go_wp2_with fail
            clear qx0 qf0 rx0 rf0 qx1 qf1 rx1 rf1 qx2 qf2 rx2 rf2 qx3 qf3 rx3 rf3 qx4 qf4 rx4 rf4 qx5 qf5 rx5 rf5 qx6 qf6 rx6 rf6 qx7 qf7 rx7 rf7 qx8 qf8 rx8 rf8
            refine (win_any R a len cap (p1 + 1 + 1 + 1 + 1 + 1) 1 _ (by decide) (by decide) (by omega) (by omega) (unhide HD)).mono ?_
            rintro e' wv20 ⟨s9, e9, rfl, hs9, he9, k9, p9, hp9, r9⟩
            replace HX := hide (show wv20.heap[B]? = some (.cells #[.int .i64 c0, .int .i64 c1, .int .i64 c2, .int .i64 (1 + x2), .int .i64 2, .int .i64 c5, .int .i64 c6, .int .i64 c7, .int .i64 c8] 35 (0, 0)) from (k9.all _ ltB (by omega)).trans (unhide HX))
            replace HR := hide (show wv20.heap[w.heap.size]? = some (.cells #[.int .i64 0, .int .i64 0, .int .i64 0, .int .i64 0, .int .i64 0, .int .i64 0, .int .i64 0, .int .i64 0, .int .i64 0] 35 (0, 0)) from (k9.all _ ltR (by omega)).trans (unhide HR))
            replace HK := hide ((unhide HK).trans k9)
            replace HD := hide r9
            clear k9 r9 ltB ltR
            have ltB : B < wv20.heap.size := heap_lt (unhide HX)
            have ltR : w.heap.size < wv20.heap.size := heap_lt (unhide HR)
            obtain ⟨qx0, qf0⟩ := cells_blk (n := 0) (unhide HX) 0
            obtain ⟨qx1, qf1⟩ := cells_blk (n := 0) (unhide HX) 1
            obtain ⟨qx2, qf2⟩ := cells_blk (n := 0) (unhide HX) 2
            obtain ⟨qx3, qf3⟩ := cells_blk (n := 0) (unhide HX) 3
            obtain ⟨qx4, qf4⟩ := cells_blk (n := 0) (unhide HX) 4
            obtain ⟨qx5, qf5⟩ := cells_blk (n := 0) (unhide HX) 5
            obtain ⟨qx6, qf6⟩ := cells_blk (n := 0) (unhide HX) 6
            obtain ⟨qx7, qf7⟩ := cells_blk (n := 0) (unhide HX) 7
            obtain ⟨qx8, qf8⟩ := cells_blk (n := 0) (unhide HX) 8
            simp only [gA, gZ, gS] at qx0 qx1 qx2 qx3 qx4 qx5 qx6 qx7 qx8
            obtain ⟨rx0, rf0⟩ := cells_blk (n := 0) (unhide HR) 0
            obtain ⟨rx1, rf1⟩ := cells_blk (n := 0) (unhide HR) 1
            obtain ⟨rx2, rf2⟩ := cells_blk (n := 0) (unhide HR) 2
            obtain ⟨rx3, rf3⟩ := cells_blk (n := 0) (unhide HR) 3
            obtain ⟨rx4, rf4⟩ := cells_blk (n := 0) (unhide HR) 4
            obtain ⟨rx5, rf5⟩ := cells_blk (n := 0) (unhide HR) 5
            obtain ⟨rx6, rf6⟩ := cells_blk (n := 0) (unhide HR) 6
            obtain ⟨rx7, rf7⟩ := cells_blk (n := 0) (unhide HR) 7
            obtain ⟨rx8, rf8⟩ := cells_blk (n := 0) (unhide HR) 8
            simp only [gA, gZ, gS] at rx0 rx1 rx2 rx3 rx4 rx5 rx6 rx7 rx8
            go_wp2
            refine bodyPost_ret (v := .agg #[.int .i64 c0, .int .i64 s9, .int .i64 e9, .int .i64 (1 + x2), .int .i64 2, .int .i64 c5, .int .i64 c6, .int .i64 c7, .int .i64 c8]) (by simp (maxDischargeDepth := 9) [results, Try.results31, go_sem, *]) rfl ?_
            exact ⟨_, _, _, _, _, _, _, _, _, rfl, (kp_setB (kp_setB (kp_setB (kp_setB (kp_setB (kp_setB (kp_setB (kp_setB (kp_setB (kp_setB (o := 2) (kp_setB (o := 1) (unhide HK) hRB hwB) hRB hwB) hR0 (Nat.le_refl _)) hR0 (Nat.le_refl _)) hR0 (Nat.le_refl _)) hR0 (Nat.le_refl _)) hR0 (Nat.le_refl _)) hR0 (Nat.le_refl _)) hR0 (Nat.le_refl _)) hR0 (Nat.le_refl _)) hR0 (Nat.le_refl _)), _, (by omega), (rd_setB (rd_setB (rd_setB (rd_setB (rd_setB (rd_setB (rd_setB (rd_setB (rd_setB (rd_setB (o := 2) (rd_setB (o := 1) (unhide HD) hRB) hRB) hR0) hR0) hR0) hR0) hR0) hR0) hR0) hR0) hR0), (by omega), ⟨hs9, he9⟩⟩
          · go_wp2_with fail
            have hS : (wv17.alloc (.cells #[.int .i64 (-1), .int .i64 0, .int .i64 1, .int .i64 1500, .int .i64 1501] 3)).heap[wv17.heap.size]? = some (.cells #[.int .i64 (-1), .int .i64 0, .int .i64 1, .int .i64 1500, .int .i64 1501] 3 (0, 0)) := heap_alloc_new _ _
            have hbA : Below wv17.heap.size wv17 (wv17.alloc (.cells #[.int .i64 (-1), .int .i64 0, .int .i64 1, .int .i64 1500, .int .i64 1501] 3)) := bel_one _ _
            have hRo : R < wv17.heap.size := by omega
            have hsz : wv17.heap.size < (wv17.alloc (.cells #[.int .i64 (-1), .int .i64 0, .int .i64 1, .int .i64 1500, .int .i64 1501] 3)).heap.size := by simp
            have neo : wv17.heap.size ≠ R := by omega
            replace HX := hide (show (wv17.alloc (.cells #[.int .i64 (-1), .int .i64 0, .int .i64 1, .int .i64 1500, .int .i64 1501] 3)).heap[B]? = some (.cells #[.int .i64 c0, .int .i64 c1, .int .i64 c2, .int .i64 (1 + x2), .int .i64 2, .int .i64 c5, .int .i64 c6, .int .i64 c7, .int .i64 c8] 35 (0, 0)) from (hbA.block _ ltB).trans (unhide HX))
            replace HR := hide (show (wv17.alloc (.cells #[.int .i64 (-1), .int .i64 0, .int .i64 1, .int .i64 1500, .int .i64 1501] 3)).heap[w.heap.size]? = some (.cells #[.int .i64 0, .int .i64 0, .int .i64 0, .int .i64 0, .int .i64 0, .int .i64 0, .int .i64 0, .int .i64 0, .int .i64 0] 35 (0, 0)) from (hbA.block _ ltR).trans (unhide HR))
            replace HK := hide (show Kp R w (wv17.alloc (.cells #[.int .i64 (-1), .int .i64 0, .int .i64 1, .int .i64 1500, .int .i64 1501] 3)) from (unhide HK).trans (Kp.of_bel (by omega) hbA))
            replace HD := hide (show Rd R (wv17.alloc (.cells #[.int .i64 (-1), .int .i64 0, .int .i64 1, .int .i64 1500, .int .i64 1501] 3)) a len cap (p1 + 1 + 1 + 1 + 1 + 1) from (unhide HD).kp (by omega) hbA)
            have HS := hide hS
            clear ltB ltR hbA hS
            generalize (wv17.alloc (.cells #[.int .i64 (-1), .int .i64 0, .int .i64 1, .int .i64 1500, .int .i64 1501] 3)) = wv21 at HX HR HK HD HS hsz ⊢
            have ltB : B < wv21.heap.size := heap_lt (unhide HX)
            have ltR : w.heap.size < wv21.heap.size := heap_lt (unhide HR)
            clear qx0 qf0 rx0 rf0 qx1 qf1 rx1 rf1 qx2 qf2 rx2 rf2 qx3 qf3 rx3 rf3 qx4 qf4 rx4 rf4 qx5 qf5 rx5 rf5 qx6 qf6 rx6 rf6 qx7 qf7 rx7 rf7 qx8 qf8 rx8 rf8
            refine (pick_any R a len cap (p1 + 1 + 1 + 1 + 1 + 1) 5 _ (by decide) (by decide) (unhide HD)).mono ?_
            rintro e' wv22 ⟨x9, rfl, x9l, x9u, k9, r9⟩
            replace HX := hide (show wv22.heap[B]? = some (.cells #[.int .i64 c0, .int .i64 c1, .int .i64 c2, .int .i64 (1 + x2), .int .i64 2, .int .i64 c5, .int .i64 c6, .int .i64 c7, .int .i64 c8] 35 (0, 0)) from (k9.all _ ltB (by omega)).trans (unhide HX))
            replace HR := hide (show wv22.heap[w.heap.size]? = some (.cells #[.int .i64 0, .int .i64 0, .int .i64 0, .int .i64 0, .int .i64 0, .int .i64 0, .int .i64 0, .int .i64 0, .int .i64 0] 35 (0, 0)) from (k9.all _ ltR (by omega)).trans (unhide HR))
            replace HK := hide ((unhide HK).trans k9)
            replace HD := hide (r9 (by omega))
            have hS9 := (k9.all _ hsz neo).trans (unhide HS)
            clear k9 r9 ltB ltR
            have ltB : B < wv22.heap.size := heap_lt (unhide HX)
            have ltR : w.heap.size < wv22.heap.size := heap_lt (unhide HR)
            obtain ⟨qx0, qf0⟩ := cells_blk (n := 0) (unhide HX) 0
            obtain ⟨qx1, qf1⟩ := cells_blk (n := 0) (unhide HX) 1
            obtain ⟨qx2, qf2⟩ := cells_blk (n := 0) (unhide HX) 2
            obtain ⟨qx3, qf3⟩ := cells_blk (n := 0) (unhide HX) 3
            obtain ⟨qx4, qf4⟩ := cells_blk (n := 0) (unhide HX) 4
            obtain ⟨qx5, qf5⟩ := cells_blk (n := 0) (unhide HX) 5
            obtain ⟨qx6, qf6⟩ := cells_blk (n := 0) (unhide HX) 6
            obtain ⟨qx7, qf7⟩ := cells_blk (n := 0) (unhide HX) 7
            obtain ⟨qx8, qf8⟩ := cells_blk (n := 0) (unhide HX) 8
            simp only [gA, gZ, gS] at qx0 qx1 qx2 qx3 qx4 qx5 qx6 qx7 qx8
            obtain ⟨rx0, rf0⟩ := cells_blk (n := 0) (unhide HR) 0
            obtain ⟨rx1, rf1⟩ := cells_blk (n := 0) (unhide HR) 1
            obtain ⟨rx2, rf2⟩ := cells_blk (n := 0) (unhide HR) 2
            obtain ⟨rx3, rf3⟩ := cells_blk (n := 0) (unhide HR) 3
            obtain ⟨rx4, rf4⟩ := cells_blk (n := 0) (unhide HR) 4
            obtain ⟨rx5, rf5⟩ := cells_blk (n := 0) (unhide HR) 5
            obtain ⟨rx6, rf6⟩ := cells_blk (n := 0) (unhide HR) 6
            obtain ⟨rx7, rf7⟩ := cells_blk (n := 0) (unhide HR) 7
            obtain ⟨rx8, rf8⟩ := cells_blk (n := 0) (unhide HR) 8
            simp only [gA, gZ, gS] at rx0 rx1 rx2 rx3 rx4 rx5 rx6 rx7 rx8
            obtain ⟨t9, hz9, ht9a, ht9b⟩ := elm1_0_1_1500_1501_ x9 x9l (by omega)
            have hc9 := (cells_blk (n := 0) hS9 x9.toNat).1.trans hz9
            have hix1 : ¬ x9 < 0 := by omega
            have hix2 : x9.toNat < 5 := by omega
            have hix3 : x9 < 5 := by omega
            clear hS9 HS
            go_wp2
            refine bodyPost_ret (v := .agg #[.int .i64 c0, .int .i64 c1, .int .i64 c2, .int .i64 t9, .int .i64 2, .int .i64 c5, .int .i64 c6, .int .i64 c7, .int .i64 c8]) (by simp (maxDischargeDepth := 9) [results, Try.results31, go_sem, *]) rfl ?_
            exact ⟨_, _, _, _, _, _, _, _, _, rfl, (kp_setB (kp_setB (kp_setB (kp_setB (kp_setB (kp_setB (kp_setB (kp_setB (kp_setB (kp_setB (o := 3) (unhide HK) hRB hwB) hR0 (Nat.le_refl _)) hR0 (Nat.le_refl _)) hR0 (Nat.le_refl _)) hR0 (Nat.le_refl _)) hR0 (Nat.le_refl _)) hR0 (Nat.le_refl _)) hR0 (Nat.le_refl _)) hR0 (Nat.le_refl _)) hR0 (Nat.le_refl _)), _, (by omega), (rd_setB (rd_setB (rd_setB (rd_setB (rd_setB (rd_setB (rd_setB (rd_setB (rd_setB (rd_setB (o := 3) (unhide HD) hRB) hR0) hR0) hR0) hR0) hR0) hR0) hR0) hR0) hR0), (by omega), (unhide HW)⟩
          · go_wp2_with fail
            clear qx0 qf0 rx0 rf0 qx1 qf1 rx1 rf1 qx2 qf2 rx2 rf2 qx3 qf3 rx3 rf3 qx4 qf4 rx4 rf4 qx5 qf5 rx5 rf5 qx6 qf6 rx6 rf6 qx7 qf7 rx7 rf7 qx8 qf8 rx8 rf8
            refine (pick_any R a len cap (p1 + 1 + 1 + 1 + 1 + 1) 5 _ (by decide) (by decide) (unhide HD)).mono ?_
            rintro e' wv23 ⟨x7, rfl, x7l, x7u, k9, r9⟩
            replace HX := hide (show wv23.heap[B]? = some (.cells #[.int .i64 c0, .int .i64 c1, .int .i64 c2, .int .i64 (1 + x2), .int .i64 2, .int .i64 c5, .int .i64 c6, .int .i64 c7, .int .i64 c8] 35 (0, 0)) from (k9.all _ ltB (by omega)).trans (unhide HX))
            replace HR := hide (show wv23.heap[w.heap.size]? = some (.cells #[.int .i64 0, .int .i64 0, .int .i64 0, .int .i64 0, .int .i64 0, .int .i64 0, .int .i64 0, .int .i64 0, .int .i64 0] 35 (0, 0)) from (k9.all _ ltR (by omega)).trans (unhide HR))
            replace HK := hide ((unhide HK).trans k9)
            replace HD := hide (r9 (by omega))
            clear k9 r9 ltB ltR
            have ltB : B < wv23.heap.size := heap_lt (unhide HX)
            have ltR : w.heap.size < wv23.heap.size := heap_lt (unhide HR)
            obtain ⟨qx0, qf0⟩ := cells_blk (n := 0) (unhide HX) 0
            obtain ⟨qx1, qf1⟩ := cells_blk (n := 0) (unhide HX) 1
            obtain ⟨qx2, qf2⟩ := cells_blk (n := 0) (unhide HX) 2
            obtain ⟨qx3, qf3⟩ := cells_blk (n := 0) (unhide HX) 3
            obtain ⟨qx4, qf4⟩ := cells_blk (n := 0) (unhide HX) 4
            obtain ⟨qx5, qf5⟩ := cells_blk (n := 0) (unhide HX) 5
            obtain ⟨qx6, qf6⟩ := cells_blk (n := 0) (unhide HX) 6
            obtain ⟨qx7, qf7⟩ := cells_blk (n := 0) (unhide HX) 7
            obtain ⟨qx8, qf8⟩ := cells_blk (n := 0) (unhide HX) 8
            simp only [gA, gZ, gS] at qx0 qx1 qx2 qx3 qx4 qx5 qx6 qx7 qx8
            obtain ⟨rx0, rf0⟩ := cells_blk (n := 0) (unhide HR) 0
            obtain ⟨rx1, rf1⟩ := cells_blk (n := 0) (unhide HR) 1
            obtain ⟨rx2, rf2⟩ := cells_blk (n := 0) (unhide HR) 2
            obtain ⟨rx3, rf3⟩ := cells_blk (n := 0) (unhide HR) 3
            obtain ⟨rx4, rf4⟩ := cells_blk (n := 0) (unhide HR) 4
            obtain ⟨rx5, rf5⟩ := cells_blk (n := 0) (unhide HR) 5
            obtain ⟨rx6, rf6⟩ := cells_blk (n := 0) (unhide HR) 6
            obtain ⟨rx7, rf7⟩ := cells_blk (n := 0) (unhide HR) 7
            obtain ⟨rx8, rf8⟩ := cells_blk (n := 0) (unhide HR) 8
            simp only [gA, gZ, gS] at rx0 rx1 rx2 rx3 rx4 rx5 rx6 rx7 rx8
            go_wp2
            refine bodyPost_ret (v := .agg #[.int .i64 c0, .int .i64 c1, .int .i64 c2, .int .i64 (1 + x2), .int .i64 x7, .int .i64 c5, .int .i64 c6, .int .i64 c7, .int .i64 c8]) (by simp (maxDischargeDepth := 9) [results, Try.results31, go_sem, *]) rfl ?_
            exact ⟨_, _, _, _, _, _, _, _, _, rfl, (kp_setB (kp_setB (kp_setB (kp_setB (kp_setB (kp_setB (kp_setB (kp_setB (kp_setB (kp_setB (o := 4) (unhide HK) hRB hwB) hR0 (Nat.le_refl _)) hR0 (Nat.le_refl _)) hR0 (Nat.le_refl _)) hR0 (Nat.le_refl _)) hR0 (Nat.le_refl _)) hR0 (Nat.le_refl _)) hR0 (Nat.le_refl _)) hR0 (Nat.le_refl _)) hR0 (Nat.le_refl _)), _, (by omega), (rd_setB (rd_setB (rd_setB (rd_setB (rd_setB (rd_setB (rd_setB (rd_setB (rd_setB (rd_setB (o := 4) (unhide HD) hRB) hR0) hR0) hR0) hR0) hR0) hR0) hR0) hR0) hR0), (by omega), (unhide HW)⟩
          · go_wp2_with fail
            clear qx0 qf0 rx0 rf0 qx1 qf1 rx1 rf1 qx2 qf2 rx2 rf2 qx3 qf3 rx3 rf3 qx4 qf4 rx4 rf4 qx5 qf5 rx5 rf5 qx6 qf6 rx6 rf6 qx7 qf7 rx7 rf7 qx8 qf8 rx8 rf8
            refine (agg_any R a len cap (p1 + 1 + 1 + 1 + 1 + 1) 1 _ (by decide) (by decide) (by omega) (by omega) (unhide HD)).mono ?_
            rintro e' wv24 ⟨n9, m9, l9, t9, rfl, _, _, _, _, k9, p9, hp9, r9⟩
            replace HX := hide (show wv24.heap[B]? = some (.cells #[.int .i64 c0, .int .i64 c1, .int .i64 c2, .int .i64 (1 + x2), .int .i64 2, .int .i64 c5, .int .i64 c6, .int .i64 c7, .int .i64 c8] 35 (0, 0)) from (k9.all _ ltB (by omega)).trans (unhide HX))
            replace HR := hide (show wv24.heap[w.heap.size]? = some (.cells #[.int .i64 0, .int .i64 0, .int .i64 0, .int .i64 0, .int .i64 0, .int .i64 0, .int .i64 0, .int .i64 0, .int .i64 0] 35 (0, 0)) from (k9.all _ ltR (by omega)).trans (unhide HR))
            replace HK := hide ((unhide HK).trans k9)
            replace HD := hide r9
            clear k9 r9 ltB ltR
            have ltB : B < wv24.heap.size := heap_lt (unhide HX)
            have ltR : w.heap.size < wv24.heap.size := heap_lt (unhide HR)
            obtain ⟨qx0, qf0⟩ := cells_blk (n := 0) (unhide HX) 0
            obtain ⟨qx1, qf1⟩ := cells_blk (n := 0) (unhide HX) 1
            obtain ⟨qx2, qf2⟩ := cells_blk (n := 0) (unhide HX) 2
            obtain ⟨qx3, qf3⟩ := cells_blk (n := 0) (unhide HX) 3
            obtain ⟨qx4, qf4⟩ := cells_blk (n := 0) (unhide HX) 4
            obtain ⟨qx5, qf5⟩ := cells_blk (n := 0) (unhide HX) 5
            obtain ⟨qx6, qf6⟩ := cells_blk (n := 0) (unhide HX) 6
            obtain ⟨qx7, qf7⟩ := cells_blk (n := 0) (unhide HX) 7
            obtain ⟨qx8, qf8⟩ := cells_blk (n := 0) (unhide HX) 8
            simp only [gA, gZ, gS] at qx0 qx1 qx2 qx3 qx4 qx5 qx6 qx7 qx8
            obtain ⟨rx0, rf0⟩ := cells_blk (n := 0) (unhide HR) 0
            obtain ⟨rx1, rf1⟩ := cells_blk (n := 0) (unhide HR) 1
            obtain ⟨rx2, rf2⟩ := cells_blk (n := 0) (unhide HR) 2
            obtain ⟨rx3, rf3⟩ := cells_blk (n := 0) (unhide HR) 3
            obtain ⟨rx4, rf4⟩ := cells_blk (n := 0) (unhide HR) 4
            obtain ⟨rx5, rf5⟩ := cells_blk (n := 0) (unhide HR) 5
            obtain ⟨rx6, rf6⟩ := cells_blk (n := 0) (unhide HR) 6
            obtain ⟨rx7, rf7⟩ := cells_blk (n := 0) (unhide HR) 7
            obtain ⟨rx8, rf8⟩ := cells_blk (n := 0) (unhide HR) 8
            simp only [gA, gZ, gS] at rx0 rx1 rx2 rx3 rx4 rx5 rx6 rx7 rx8
            go_wp2
            refine bodyPost_ret (v := .agg #[.int .i64 c0, .int .i64 c1, .int .i64 c2, .int .i64 (1 + x2), .int .i64 2, .int .i64 n9, .int .i64 m9, .int .i64 l9, .int .i64 t9]) (by simp (maxDischargeDepth := 9) [results, Try.results31, go_sem, *]) rfl ?_
            exact ⟨_, _, _, _, _, _, _, _, _, rfl, (kp_setB (kp_setB (kp_setB (kp_setB (kp_setB (kp_setB (kp_setB (kp_setB (kp_setB (kp_setB (o := 8) (kp_setB (o := 7) (kp_setB (o := 6) (kp_setB (o := 5) (unhide HK) hRB hwB) hRB hwB) hRB hwB) hRB hwB) hR0 (Nat.le_refl _)) hR0 (Nat.le_refl _)) hR0 (Nat.le_refl _)) hR0 (Nat.le_refl _)) hR0 (Nat.le_refl _)) hR0 (Nat.le_refl _)) hR0 (Nat.le_refl _)) hR0 (Nat.le_refl _)) hR0 (Nat.le_refl _)), _, (by omega), (rd_setB (rd_setB (rd_setB (rd_setB (rd_setB (rd_setB (rd_setB (rd_setB (rd_setB (rd_setB (o := 8) (rd_setB (o := 7) (rd_setB (o := 6) (rd_setB (o := 5) (unhide HD) hRB) hRB) hRB) hRB) hR0) hR0) hR0) hR0) hR0) hR0) hR0) hR0) hR0), (by omega), (unhide HW)⟩
    · go_wp2_with fail
      clear qx0 qf0 rx0 rf0 qx1 qf1 rx1 rf1 qx2 qf2 rx2 rf2 qx3 qf3 rx3 rf3 qx4 qf4 rx4 rf4 qx5 qf5 rx5 rf5 qx6 qf6 rx6 rf6 qx7 qf7 rx7 rf7 qx8 qf8 rx8 rf8
      refine (pick_any R a len cap (p1 + 1) 5 _ (by decide) (by decide) (unhide HD)).mono ?_
      rintro e' wv25 ⟨x3, rfl, x3l, x3u, k9, r9⟩
      replace HX := hide (show wv25.heap[B]? = some (.cells #[.int .i64 c0, .int .i64 c1, .int .i64 c2, .int .i64 c3, .int .i64 c4, .int .i64 c5, .int .i64 c6, .int .i64 c7, .int .i64 c8] 35 (0, 0)) from (k9.all _ ltB (by omega)).trans (unhide HX))
      replace HR := hide (show wv25.heap[w.heap.size]? = some (.cells #[.int .i64 0, .int .i64 0, .int .i64 0, .int .i64 0, .int .i64 0, .int .i64 0, .int .i64 0, .int .i64 0, .int .i64 0] 35 (0, 0)) from (k9.all _ ltR (by omega)).trans (unhide HR))
      replace HK := hide ((unhide HK).trans k9)
      replace HD := hide (r9 (by omega))
      clear k9 r9 ltB ltR
      have ltB : B < wv25.heap.size := heap_lt (unhide HX)
      have ltR : w.heap.size < wv25.heap.size := heap_lt (unhide HR)
      obtain ⟨qx0, qf0⟩ := cells_blk (n := 0) (unhide HX) 0
      obtain ⟨qx1, qf1⟩ := cells_blk (n := 0) (unhide HX) 1
      obtain ⟨qx2, qf2⟩ := cells_blk (n := 0) (unhide HX) 2
      obtain ⟨qx3, qf3⟩ := cells_blk (n := 0) (unhide HX) 3
      obtain ⟨qx4, qf4⟩ := cells_blk (n := 0) (unhide HX) 4
      obtain ⟨qx5, qf5⟩ := cells_blk (n := 0) (unhide HX) 5
      obtain ⟨qx6, qf6⟩ := cells_blk (n := 0) (unhide HX) 6
      obtain ⟨qx7, qf7⟩ := cells_blk (n := 0) (unhide HX) 7
      obtain ⟨qx8, qf8⟩ := cells_blk (n := 0) (unhide HX) 8
      simp only [gA, gZ, gS] at qx0 qx1 qx2 qx3 qx4 qx5 qx6 qx7 qx8
      obtain ⟨rx0, rf0⟩ := cells_blk (n := 0) (unhide HR) 0
      obtain ⟨rx1, rf1⟩ := cells_blk (n := 0) (unhide HR) 1
      obtain ⟨rx2, rf2⟩ := cells_blk (n := 0) (unhide HR) 2
      obtain ⟨rx3, rf3⟩ := cells_blk (n := 0) (unhide HR) 3
      obtain ⟨rx4, rf4⟩ := cells_blk (n := 0) (unhide HR) 4
      obtain ⟨rx5, rf5⟩ := cells_blk (n := 0) (unhide HR) 5
      obtain ⟨rx6, rf6⟩ := cells_blk (n := 0) (unhide HR) 6
      obtain ⟨rx7, rf7⟩ := cells_blk (n := 0) (unhide HR) 7
      obtain ⟨rx8, rf8⟩ := cells_blk (n := 0) (unhide HR) 8
      simp only [gA, gZ, gS] at rx0 rx1 rx2 rx3 rx4 rx5 rx6 rx7 rx8
      by_cases hx3 : x3 = 0
      · subst hx3
        go_wp2_with fail
        refine wp_region_held_drew (S := (fun W => W.cell? ⟨B, 0, none⟩ = some (.int .i64 c0) ∧ W.cell? ⟨B, 1, none⟩ = some (.int .i64 c1) ∧ W.cell? ⟨B, 2, none⟩ = some (.int .i64 c2))) (by kernel_rfl) ?_ (fun hHeld => ?_)
        · (try dsimp only); exact ⟨by simp [go_sem, *], by simp [go_sem, *], by simp [go_sem, *]⟩
        refine wpAnyH_take (i := 0) (v := ?_) (by simp only [gA, gZ, gS]; rfl) (by kernel_rfl) (by kernel_rfl) (by kernel_rfl) (by intro _ _ _ h; exact h) (Or.inl ⟨by rfl, ?_⟩) (by assumption) ?_
        rotate_left
        · (intro w9 hSw; (try dsimp only at hSw); go_simp <;> with_reducible rfl)
        try simp only [Act.put, tA, tZ, tS]
        refine wpAnyH_take (i := 1) (v := ?_) (by simp only [gA, gZ, gS]; rfl) (by kernel_rfl) (by kernel_rfl) (by kernel_rfl) (by intro _ _ _ h; exact h) (Or.inl ⟨by rfl, ?_⟩) (by assumption) ?_
        rotate_left
        · (intro w9 hSw; (try dsimp only at hSw); go_simp <;> with_reducible rfl)
        try simp only [Act.put, tA, tZ, tS]
        refine wpAnyH_take (i := 2) (v := ?_) (by simp only [gA, gZ, gS]; rfl) (by kernel_rfl) (by kernel_rfl) (by kernel_rfl) (by intro _ _ _ h; exact h) (Or.inl ⟨by rfl, ?_⟩) (by assumption) ?_
        rotate_left
        · (intro w9 hSw; (try dsimp only at hSw); go_simp <;> with_reducible rfl)
        try simp only [Act.put, tA, tZ, tS]
        refine wpAnyH_take (i := 3) (v := ?_) (by simp only [gA, gZ, gS]; rfl) (by kernel_rfl) (by kernel_rfl) (by kernel_rfl) (by intro _ _ _ h; exact h) (Or.inl ⟨by rfl, ?_⟩) (by assumption) ?_
        rotate_left
        · (intro w9 hSw; (try dsimp only at hSw); go_simp <;> with_reducible rfl)
        try simp only [Act.put, tA, tZ, tS]
        refine wpAnyH_take (i := 4) (v := ?_) (by simp only [gA, gZ, gS]; rfl) (by kernel_rfl) (by kernel_rfl) (by kernel_rfl) (by intro _ _ _ h; exact h) (Or.inl ⟨by rfl, ?_⟩) (by assumption) ?_
        rotate_left
        · (intro w9 hSw; (try dsimp only at hSw); go_simp <;> with_reducible rfl)
        try simp only [Act.put, tA, tZ, tS]
        refine wpAnyH_ready (rs := [5]) (by kernel_rfl) (by simp) ?_
        refine AllReadyH.cons (by simp only [gA, gZ, gS]; rfl) (fun K hK => ?_) AllReadyH.nil
        go_simp
        (go_at_call 15; refine (pick_any R a len cap (p1 + 1 + 1) 3 wv25.drew (by decide) (by decide) (⟨(unhide HD).1, (unhide HD).2, (unhide HD).3, (unhide HD).4, (unhide HD).5, (unhide HD).6, (unhide HD).7⟩ : Rd R wv25.drew a len cap (p1 + 1 + 1))).mono ?_; rintro e' wv26 ⟨x4, rfl, x4l, x4u, k9, r9⟩; have HX2 := hide (show wv26.heap[B]? = some (.cells #[.int .i64 c0, .int .i64 c1, .int .i64 c2, .int .i64 c3, .int .i64 c4, .int .i64 c5, .int .i64 c6, .int .i64 c7, .int .i64 c8] 35 (0, 0)) from (k9.all _ ltB (by omega)).trans (unhide HX)); have HR2 := hide (show wv26.heap[w.heap.size]? = some (.cells #[.int .i64 0, .int .i64 0, .int .i64 0, .int .i64 0, .int .i64 0, .int .i64 0, .int .i64 0, .int .i64 0, .int .i64 0] 35 (0, 0)) from (k9.all _ ltR (by omega)).trans (unhide HR)); have HK2 := hide ((unhide HK).trans (Kp.trans (kp_drew (Kp.refl R _)) k9)); have HD2 := hide (r9 (by omega)); clear qx0 qf0 rx0 rf0 qx1 qf1 rx1 rf1 qx2 qf2 rx2 rf2 qx3 qf3 rx3 rf3 qx4 qf4 rx4 rf4 qx5 qf5 rx5 rf5 qx6 qf6 rx6 rf6 qx7 qf7 rx7 rf7 qx8 qf8 rx8 rf8; clear k9 r9 HX HR HK HD ltB ltR; have HX := HX2; have HR := HR2; have HK := HK2; have HD := HD2; clear HX2 HR2 HK2 HD2; have ltB : B < wv26.heap.size := heap_lt (unhide HX); have ltR : w.heap.size < wv26.heap.size := heap_lt (unhide HR); obtain ⟨qx0, qf0⟩ := cells_blk (n := 0) (unhide HX) 0; obtain ⟨qx1, qf1⟩ := cells_blk (n := 0) (unhide HX) 1; obtain ⟨qx2, qf2⟩ := cells_blk (n := 0) (unhide HX) 2; obtain ⟨qx3, qf3⟩ := cells_blk (n := 0) (unhide HX) 3; obtain ⟨qx4, qf4⟩ := cells_blk (n := 0) (unhide HX) 4; obtain ⟨qx5, qf5⟩ := cells_blk (n := 0) (unhide HX) 5; obtain ⟨qx6, qf6⟩ := cells_blk (n := 0) (unhide HX) 6; obtain ⟨qx7, qf7⟩ := cells_blk (n := 0) (unhide HX) 7; obtain ⟨qx8, qf8⟩ := cells_blk (n := 0) (unhide HX) 8; simp only [gA, gZ, gS] at qx0 qx1 qx2 qx3 qx4 qx5 qx6 qx7 qx8; obtain ⟨rx0, rf0⟩ := cells_blk (n := 0) (unhide HR) 0; obtain ⟨rx1, rf1⟩ := cells_blk (n := 0) (unhide HR) 1; obtain ⟨rx2, rf2⟩ := cells_blk (n := 0) (unhide HR) 2; obtain ⟨rx3, rf3⟩ := cells_blk (n := 0) (unhide HR) 3; obtain ⟨rx4, rf4⟩ := cells_blk (n := 0) (unhide HR) 4; obtain ⟨rx5, rf5⟩ := cells_blk (n := 0) (unhide HR) 5; obtain ⟨rx6, rf6⟩ := cells_blk (n := 0) (unhide HR) 6; obtain ⟨rx7, rf7⟩ := cells_blk (n := 0) (unhide HR) 7; obtain ⟨rx8, rf8⟩ := cells_blk (n := 0) (unhide HR) 8; simp only [gA, gZ, gS] at rx0 rx1 rx2 rx3 rx4 rx5 rx6 rx7 rx8)
        (try go_wp2_with fail)
        refine hK.out _ _ ?_ (fun hHeld2 => ?_)
        · (try dsimp only); exact ⟨by simp [go_sem, *], by simp [go_sem, *], by simp [go_sem, *]⟩
        clear hK K hHeld
        have hHeld := hHeld2
        clear hHeld2
        try simp only [Act.put, tA, tZ, tS]
        refine wpAnyH_take (i := 6) (v := ?_) (by simp only [gA, gZ, gS]; rfl) (by kernel_rfl) (by kernel_rfl) (by kernel_rfl) (by intro _ _ _ h; exact h) (Or.inl ⟨by rfl, ?_⟩) (by assumption) ?_
        rotate_left
        · (intro w9 hSw; (try dsimp only at hSw); go_simp <;> with_reducible rfl)
        try simp only [Act.put, tA, tZ, tS]
        refine wpAnyH_take (i := 7) (v := ?_) (by simp only [gA, gZ, gS]; rfl) (by kernel_rfl) (by kernel_rfl) (by kernel_rfl) (by intro _ _ _ h; exact h) (Or.inl ⟨by rfl, ?_⟩) (by assumption) ?_
        rotate_left
        · (intro w9 hSw; (try dsimp only at hSw); go_simp <;> with_reducible rfl)
        try simp only [Act.put, tA, tZ, tS]
        refine wpAnyH_ready (rs := [8]) (by kernel_rfl) (by simp) ?_
        refine AllReadyH.cons (by simp only [gA, gZ, gS]; rfl) (fun K hK => ?_) AllReadyH.nil
        go_simp
        refine hK.out _ _ ?_ (fun hHeld2 => ?_)
        · (try dsimp only); exact ⟨by simp [go_sem, *], by simp [go_sem, *], by simp [go_sem, *]⟩
        clear hK K hHeld
        have hHeld := hHeld2
        clear hHeld2
        try simp only [Act.put, tA, tZ, tS]
        refine wpAnyH_done (by kernel_rfl) ?_ _
        clear hHeld
        go_wp2_with fail
        replace HX := hide (show (((((((((wv26.setCell ⟨B, 0, none⟩ (.int .i64 c0)).setCell ⟨B, 1, none⟩ (.int .i64 c1)).setCell ⟨B, 2, none⟩ (.int .i64 c2)).setCell ⟨B, 3, none⟩ (.int .i64 (1 + x4))).setCell ⟨B, 4, none⟩ (.int .i64 3)).setCell ⟨B, 5, none⟩ (.int .i64 0)).setCell ⟨B, 6, none⟩ (.int .i64 0)).setCell ⟨B, 7, none⟩ (.int .i64 0)).setCell ⟨B, 8, none⟩ (.int .i64 0)).heap[B]? = some (.cells #[.int .i64 c0, .int .i64 c1, .int .i64 c2, .int .i64 (1 + x4), .int .i64 3, .int .i64 0, .int .i64 0, .int .i64 0, .int .i64 0] 35 (0, 0)) from (blk9 (unhide HX)))
        replace HR := hide (show (((((((((wv26.setCell ⟨B, 0, none⟩ (.int .i64 c0)).setCell ⟨B, 1, none⟩ (.int .i64 c1)).setCell ⟨B, 2, none⟩ (.int .i64 c2)).setCell ⟨B, 3, none⟩ (.int .i64 (1 + x4))).setCell ⟨B, 4, none⟩ (.int .i64 3)).setCell ⟨B, 5, none⟩ (.int .i64 0)).setCell ⟨B, 6, none⟩ (.int .i64 0)).setCell ⟨B, 7, none⟩ (.int .i64 0)).setCell ⟨B, 8, none⟩ (.int .i64 0)).heap[w.heap.size]? = some (.cells #[.int .i64 0, .int .i64 0, .int .i64 0, .int .i64 0, .int .i64 0, .int .i64 0, .int .i64 0, .int .i64 0, .int .i64 0] 35 (0, 0)) from ((Below.heap_setCell _ _ _ _ neB).trans ((Below.heap_setCell _ _ _ _ neB).trans ((Below.heap_setCell _ _ _ _ neB).trans ((Below.heap_setCell _ _ _ _ neB).trans ((Below.heap_setCell _ _ _ _ neB).trans ((Below.heap_setCell _ _ _ _ neB).trans ((Below.heap_setCell _ _ _ _ neB).trans ((Below.heap_setCell _ _ _ _ neB).trans ((Below.heap_setCell _ _ _ _ neB).trans (unhide HR)))))))))))
        replace HK := hide (show Kp R w (((((((((wv26.setCell ⟨B, 0, none⟩ (.int .i64 c0)).setCell ⟨B, 1, none⟩ (.int .i64 c1)).setCell ⟨B, 2, none⟩ (.int .i64 c2)).setCell ⟨B, 3, none⟩ (.int .i64 (1 + x4))).setCell ⟨B, 4, none⟩ (.int .i64 3)).setCell ⟨B, 5, none⟩ (.int .i64 0)).setCell ⟨B, 6, none⟩ (.int .i64 0)).setCell ⟨B, 7, none⟩ (.int .i64 0)).setCell ⟨B, 8, none⟩ (.int .i64 0)) from (kp_setB (kp_setB (kp_setB (kp_setB (kp_setB (kp_setB (kp_setB (kp_setB (kp_setB (unhide HK) hRB hwB) hRB hwB) hRB hwB) hRB hwB) hRB hwB) hRB hwB) hRB hwB) hRB hwB) hRB hwB))
        replace HD := hide (show Rd R (((((((((wv26.setCell ⟨B, 0, none⟩ (.int .i64 c0)).setCell ⟨B, 1, none⟩ (.int .i64 c1)).setCell ⟨B, 2, none⟩ (.int .i64 c2)).setCell ⟨B, 3, none⟩ (.int .i64 (1 + x4))).setCell ⟨B, 4, none⟩ (.int .i64 3)).setCell ⟨B, 5, none⟩ (.int .i64 0)).setCell ⟨B, 6, none⟩ (.int .i64 0)).setCell ⟨B, 7, none⟩ (.int .i64 0)).setCell ⟨B, 8, none⟩ (.int .i64 0)) a len cap (p1 + 1 + 1 + 1) from (rd_setB (rd_setB (rd_setB (rd_setB (rd_setB (rd_setB (rd_setB (rd_setB (rd_setB (unhide HD) hRB) hRB) hRB) hRB) hRB) hRB) hRB) hRB) hRB))
        clear qx0 qf0 rx0 rf0 qx1 qf1 rx1 rf1 qx2 qf2 rx2 rf2 qx3 qf3 rx3 rf3 qx4 qf4 rx4 rf4 qx5 qf5 rx5 rf5 qx6 qf6 rx6 rf6 qx7 qf7 rx7 rf7 qx8 qf8 rx8 rf8
        clear ltB ltR
        generalize (((((((((wv26.setCell ⟨B, 0, none⟩ (.int .i64 c0)).setCell ⟨B, 1, none⟩ (.int .i64 c1)).setCell ⟨B, 2, none⟩ (.int .i64 c2)).setCell ⟨B, 3, none⟩ (.int .i64 (1 + x4))).setCell ⟨B, 4, none⟩ (.int .i64 3)).setCell ⟨B, 5, none⟩ (.int .i64 0)).setCell ⟨B, 6, none⟩ (.int .i64 0)).setCell ⟨B, 7, none⟩ (.int .i64 0)).setCell ⟨B, 8, none⟩ (.int .i64 0)) = wv27 at HX HR HK HD ⊢
        have ltB : B < wv27.heap.size := heap_lt (unhide HX)
        have ltR : w.heap.size < wv27.heap.size := heap_lt (unhide HR)
        obtain ⟨qx0, qf0⟩ := cells_blk (n := 0) (unhide HX) 0
        obtain ⟨qx1, qf1⟩ := cells_blk (n := 0) (unhide HX) 1
        obtain ⟨qx2, qf2⟩ := cells_blk (n := 0) (unhide HX) 2
        obtain ⟨qx3, qf3⟩ := cells_blk (n := 0) (unhide HX) 3
        obtain ⟨qx4, qf4⟩ := cells_blk (n := 0) (unhide HX) 4
        obtain ⟨qx5, qf5⟩ := cells_blk (n := 0) (unhide HX) 5
        obtain ⟨qx6, qf6⟩ := cells_blk (n := 0) (unhide HX) 6
        obtain ⟨qx7, qf7⟩ := cells_blk (n := 0) (unhide HX) 7
        obtain ⟨qx8, qf8⟩ := cells_blk (n := 0) (unhide HX) 8
        simp only [gA, gZ, gS] at qx0 qx1 qx2 qx3 qx4 qx5 qx6 qx7 qx8
        obtain ⟨rx0, rf0⟩ := cells_blk (n := 0) (unhide HR) 0
        obtain ⟨rx1, rf1⟩ := cells_blk (n := 0) (unhide HR) 1
        obtain ⟨rx2, rf2⟩ := cells_blk (n := 0) (unhide HR) 2
        obtain ⟨rx3, rf3⟩ := cells_blk (n := 0) (unhide HR) 3
        obtain ⟨rx4, rf4⟩ := cells_blk (n := 0) (unhide HR) 4
        obtain ⟨rx5, rf5⟩ := cells_blk (n := 0) (unhide HR) 5
        obtain ⟨rx6, rf6⟩ := cells_blk (n := 0) (unhide HR) 6
        obtain ⟨rx7, rf7⟩ := cells_blk (n := 0) (unhide HR) 7
        obtain ⟨rx8, rf8⟩ := cells_blk (n := 0) (unhide HR) 8
        simp only [gA, gZ, gS] at rx0 rx1 rx2 rx3 rx4 rx5 rx6 rx7 rx8
        clear qx0 qf0 rx0 rf0 qx1 qf1 rx1 rf1 qx2 qf2 rx2 rf2 qx3 qf3 rx3 rf3 qx4 qf4 rx4 rf4 qx5 qf5 rx5 rf5 qx6 qf6 rx6 rf6 qx7 qf7 rx7 rf7 qx8 qf8 rx8 rf8
        refine (pick_any R a len cap (p1 + 1 + 1 + 1) n _ hn hn2 (unhide HD)).mono ?_
        rintro e' wv28 ⟨x5, rfl, x5l, x5u, k9, r9⟩
        replace HX := hide (show wv28.heap[B]? = some (.cells #[.int .i64 c0, .int .i64 c1, .int .i64 c2, .int .i64 (1 + x4), .int .i64 3, .int .i64 0, .int .i64 0, .int .i64 0, .int .i64 0] 35 (0, 0)) from (k9.all _ ltB (by omega)).trans (unhide HX))
        replace HR := hide (show wv28.heap[w.heap.size]? = some (.cells #[.int .i64 0, .int .i64 0, .int .i64 0, .int .i64 0, .int .i64 0, .int .i64 0, .int .i64 0, .int .i64 0, .int .i64 0] 35 (0, 0)) from (k9.all _ ltR (by omega)).trans (unhide HR))
        replace HK := hide ((unhide HK).trans k9)
        replace HD := hide (r9 (by omega))
        clear k9 r9 ltB ltR
        have ltB : B < wv28.heap.size := heap_lt (unhide HX)
        have ltR : w.heap.size < wv28.heap.size := heap_lt (unhide HR)
        obtain ⟨qx0, qf0⟩ := cells_blk (n := 0) (unhide HX) 0
        obtain ⟨qx1, qf1⟩ := cells_blk (n := 0) (unhide HX) 1
        obtain ⟨qx2, qf2⟩ := cells_blk (n := 0) (unhide HX) 2
        obtain ⟨qx3, qf3⟩ := cells_blk (n := 0) (unhide HX) 3
        obtain ⟨qx4, qf4⟩ := cells_blk (n := 0) (unhide HX) 4
        obtain ⟨qx5, qf5⟩ := cells_blk (n := 0) (unhide HX) 5
        obtain ⟨qx6, qf6⟩ := cells_blk (n := 0) (unhide HX) 6
        obtain ⟨qx7, qf7⟩ := cells_blk (n := 0) (unhide HX) 7
        obtain ⟨qx8, qf8⟩ := cells_blk (n := 0) (unhide HX) 8
        simp only [gA, gZ, gS] at qx0 qx1 qx2 qx3 qx4 qx5 qx6 qx7 qx8
        obtain ⟨rx0, rf0⟩ := cells_blk (n := 0) (unhide HR) 0
        obtain ⟨rx1, rf1⟩ := cells_blk (n := 0) (unhide HR) 1
        obtain ⟨rx2, rf2⟩ := cells_blk (n := 0) (unhide HR) 2
        obtain ⟨rx3, rf3⟩ := cells_blk (n := 0) (unhide HR) 3
        obtain ⟨rx4, rf4⟩ := cells_blk (n := 0) (unhide HR) 4
        obtain ⟨rx5, rf5⟩ := cells_blk (n := 0) (unhide HR) 5
        obtain ⟨rx6, rf6⟩ := cells_blk (n := 0) (unhide HR) 6
        obtain ⟨rx7, rf7⟩ := cells_blk (n := 0) (unhide HR) 7
        obtain ⟨rx8, rf8⟩ := cells_blk (n := 0) (unhide HR) 8
        simp only [gA, gZ, gS] at rx0 rx1 rx2 rx3 rx4 rx5 rx6 rx7 rx8
        by_cases hx5 : 0 < x5
        · go_wp2
          refine bodyPost_ret (v := .agg #[.int .i64 c0, .int .i64 c1, .int .i64 c2, .int .i64 (1 + x4), .int .i64 3, .int .i64 0, .int .i64 0, .int .i64 0, .int .i64 0]) (by simp (maxDischargeDepth := 9) [results, Try.results31, go_sem, *]) rfl ?_
          exact ⟨_, _, _, _, _, _, _, _, _, rfl, (kp_setB (kp_setB (kp_setB (kp_setB (kp_setB (kp_setB (kp_setB (kp_setB (kp_setB (unhide HK) hR0 (Nat.le_refl _)) hR0 (Nat.le_refl _)) hR0 (Nat.le_refl _)) hR0 (Nat.le_refl _)) hR0 (Nat.le_refl _)) hR0 (Nat.le_refl _)) hR0 (Nat.le_refl _)) hR0 (Nat.le_refl _)) hR0 (Nat.le_refl _)), _, (by omega), (rd_setB (rd_setB (rd_setB (rd_setB (rd_setB (rd_setB (rd_setB (rd_setB (rd_setB (unhide HD) hR0) hR0) hR0) hR0) hR0) hR0) hR0) hR0) hR0), (by omega), (unhide HW)⟩
        · obtain rfl : x5 = 0 := by omega
          go_wp2_with fail
          clear qx0 qf0 rx0 rf0 qx1 qf1 rx1 rf1 qx2 qf2 rx2 rf2 qx3 qf3 rx3 rf3 qx4 qf4 rx4 rf4 qx5 qf5 rx5 rf5 qx6 qf6 rx6 rf6 qx7 qf7 rx7 rf7 qx8 qf8 rx8 rf8
          refine (pick_any R a len cap (p1 + 1 + 1 + 1 + 1) 5 _ (by decide) (by decide) (unhide HD)).mono ?_
          rintro e' wv29 ⟨x6, rfl, x6l, x6u, k9, r9⟩
          replace HX := hide (show wv29.heap[B]? = some (.cells #[.int .i64 c0, .int .i64 c1, .int .i64 c2, .int .i64 (1 + x4), .int .i64 3, .int .i64 0, .int .i64 0, .int .i64 0, .int .i64 0] 35 (0, 0)) from (k9.all _ ltB (by omega)).trans (unhide HX))
          replace HR := hide (show wv29.heap[w.heap.size]? = some (.cells #[.int .i64 0, .int .i64 0, .int .i64 0, .int .i64 0, .int .i64 0, .int .i64 0, .int .i64 0, .int .i64 0, .int .i64 0] 35 (0, 0)) from (k9.all _ ltR (by omega)).trans (unhide HR))
          replace HK := hide ((unhide HK).trans k9)
          replace HD := hide (r9 (by omega))
          clear k9 r9 ltB ltR
          have ltB : B < wv29.heap.size := heap_lt (unhide HX)
          have ltR : w.heap.size < wv29.heap.size := heap_lt (unhide HR)
          obtain ⟨qx0, qf0⟩ := cells_blk (n := 0) (unhide HX) 0
          obtain ⟨qx1, qf1⟩ := cells_blk (n := 0) (unhide HX) 1
          obtain ⟨qx2, qf2⟩ := cells_blk (n := 0) (unhide HX) 2
          obtain ⟨qx3, qf3⟩ := cells_blk (n := 0) (unhide HX) 3
          obtain ⟨qx4, qf4⟩ := cells_blk (n := 0) (unhide HX) 4
          obtain ⟨qx5, qf5⟩ := cells_blk (n := 0) (unhide HX) 5
          obtain ⟨qx6, qf6⟩ := cells_blk (n := 0) (unhide HX) 6
          obtain ⟨qx7, qf7⟩ := cells_blk (n := 0) (unhide HX) 7
          obtain ⟨qx8, qf8⟩ := cells_blk (n := 0) (unhide HX) 8
          simp only [gA, gZ, gS] at qx0 qx1 qx2 qx3 qx4 qx5 qx6 qx7 qx8
          obtain ⟨rx0, rf0⟩ := cells_blk (n := 0) (unhide HR) 0
          obtain ⟨rx1, rf1⟩ := cells_blk (n := 0) (unhide HR) 1
          obtain ⟨rx2, rf2⟩ := cells_blk (n := 0) (unhide HR) 2
          obtain ⟨rx3, rf3⟩ := cells_blk (n := 0) (unhide HR) 3
          obtain ⟨rx4, rf4⟩ := cells_blk (n := 0) (unhide HR) 4
          obtain ⟨rx5, rf5⟩ := cells_blk (n := 0) (unhide HR) 5
          obtain ⟨rx6, rf6⟩ := cells_blk (n := 0) (unhide HR) 6
          obtain ⟨rx7, rf7⟩ := cells_blk (n := 0) (unhide HR) 7
          obtain ⟨rx8, rf8⟩ := cells_blk (n := 0) (unhide HR) 8
          simp only [gA, gZ, gS] at rx0 rx1 rx2 rx3 rx4 rx5 rx6 rx7 rx8
          obtain rfl | rfl | rfl | rfl | rfl : x6 = 0 ∨ x6 = 1 ∨ x6 = 2 ∨ x6 = 3 ∨ x6 = 4 := by omega
          · go_wp2_with fail
            have hS : (wv29.alloc (.cells #[.int .i64 (-1), .int .i64 4] 3)).heap[wv29.heap.size]? = some (.cells #[.int .i64 (-1), .int .i64 4] 3 (0, 0)) := heap_alloc_new _ _
            have hbA : Below wv29.heap.size wv29 (wv29.alloc (.cells #[.int .i64 (-1), .int .i64 4] 3)) := bel_one _ _
            have hRo : R < wv29.heap.size := by omega
            have hsz : wv29.heap.size < (wv29.alloc (.cells #[.int .i64 (-1), .int .i64 4] 3)).heap.size := by simp
            have neo : wv29.heap.size ≠ R := by omega
            replace HX := hide (show (wv29.alloc (.cells #[.int .i64 (-1), .int .i64 4] 3)).heap[B]? = some (.cells #[.int .i64 c0, .int .i64 c1, .int .i64 c2, .int .i64 (1 + x4), .int .i64 3, .int .i64 0, .int .i64 0, .int .i64 0, .int .i64 0] 35 (0, 0)) from (hbA.block _ ltB).trans (unhide HX))
            replace HR := hide (show (wv29.alloc (.cells #[.int .i64 (-1), .int .i64 4] 3)).heap[w.heap.size]? = some (.cells #[.int .i64 0, .int .i64 0, .int .i64 0, .int .i64 0, .int .i64 0, .int .i64 0, .int .i64 0, .int .i64 0, .int .i64 0] 35 (0, 0)) from (hbA.block _ ltR).trans (unhide HR))
            replace HK := hide (show Kp R w (wv29.alloc (.cells #[.int .i64 (-1), .int .i64 4] 3)) from (unhide HK).trans (Kp.of_bel (by omega) hbA))
            replace HD := hide (show Rd R (wv29.alloc (.cells #[.int .i64 (-1), .int .i64 4] 3)) a len cap (p1 + 1 + 1 + 1 + 1 + 1) from (unhide HD).kp (by omega) hbA)
            have HS := hide hS
            clear ltB ltR hbA hS
            generalize (wv29.alloc (.cells #[.int .i64 (-1), .int .i64 4] 3)) = wv30 at HX HR HK HD HS hsz ⊢
            have ltB : B < wv30.heap.size := heap_lt (unhide HX)
            have ltR : w.heap.size < wv30.heap.size := heap_lt (unhide HR)
            clear qx0 qf0 rx0 rf0 qx1 qf1 rx1 rf1 qx2 qf2 rx2 rf2 qx3 qf3 rx3 rf3 qx4 qf4 rx4 rf4 qx5 qf5 rx5 rf5 qx6 qf6 rx6 rf6 qx7 qf7 rx7 rf7 qx8 qf8 rx8 rf8
            refine (pick_any R a len cap (p1 + 1 + 1 + 1 + 1 + 1) 2 _ (by decide) (by decide) (unhide HD)).mono ?_
            rintro e' wv31 ⟨x9, rfl, x9l, x9u, k9, r9⟩
            replace HX := hide (show wv31.heap[B]? = some (.cells #[.int .i64 c0, .int .i64 c1, .int .i64 c2, .int .i64 (1 + x4), .int .i64 3, .int .i64 0, .int .i64 0, .int .i64 0, .int .i64 0] 35 (0, 0)) from (k9.all _ ltB (by omega)).trans (unhide HX))
            replace HR := hide (show wv31.heap[w.heap.size]? = some (.cells #[.int .i64 0, .int .i64 0, .int .i64 0, .int .i64 0, .int .i64 0, .int .i64 0, .int .i64 0, .int .i64 0, .int .i64 0] 35 (0, 0)) from (k9.all _ ltR (by omega)).trans (unhide HR))
            replace HK := hide ((unhide HK).trans k9)
            replace HD := hide (r9 (by omega))
            have hS9 := (k9.all _ hsz neo).trans (unhide HS)
            clear k9 r9 ltB ltR
            have ltB : B < wv31.heap.size := heap_lt (unhide HX)
            have ltR : w.heap.size < wv31.heap.size := heap_lt (unhide HR)
            obtain ⟨qx0, qf0⟩ := cells_blk (n := 0) (unhide HX) 0
            obtain ⟨qx1, qf1⟩ := cells_blk (n := 0) (unhide HX) 1
            obtain ⟨qx2, qf2⟩ := cells_blk (n := 0) (unhide HX) 2
            obtain ⟨qx3, qf3⟩ := cells_blk (n := 0) (unhide HX) 3
            obtain ⟨qx4, qf4⟩ := cells_blk (n := 0) (unhide HX) 4
            obtain ⟨qx5, qf5⟩ := cells_blk (n := 0) (unhide HX) 5
            obtain ⟨qx6, qf6⟩ := cells_blk (n := 0) (unhide HX) 6
            obtain ⟨qx7, qf7⟩ := cells_blk (n := 0) (unhide HX) 7
            obtain ⟨qx8, qf8⟩ := cells_blk (n := 0) (unhide HX) 8
            simp only [gA, gZ, gS] at qx0 qx1 qx2 qx3 qx4 qx5 qx6 qx7 qx8
            obtain ⟨rx0, rf0⟩ := cells_blk (n := 0) (unhide HR) 0
            obtain ⟨rx1, rf1⟩ := cells_blk (n := 0) (unhide HR) 1
            obtain ⟨rx2, rf2⟩ := cells_blk (n := 0) (unhide HR) 2
            obtain ⟨rx3, rf3⟩ := cells_blk (n := 0) (unhide HR) 3
            obtain ⟨rx4, rf4⟩ := cells_blk (n := 0) (unhide HR) 4
            obtain ⟨rx5, rf5⟩ := cells_blk (n := 0) (unhide HR) 5
            obtain ⟨rx6, rf6⟩ := cells_blk (n := 0) (unhide HR) 6
            obtain ⟨rx7, rf7⟩ := cells_blk (n := 0) (unhide HR) 7
            obtain ⟨rx8, rf8⟩ := cells_blk (n := 0) (unhide HR) 8
            simp only [gA, gZ, gS] at rx0 rx1 rx2 rx3 rx4 rx5 rx6 rx7 rx8
            obtain ⟨t9, hz9, ht9a, ht9b⟩ := elm1_4_ x9 x9l (by omega)
            have hc9 := (cells_blk (n := 0) hS9 x9.toNat).1.trans hz9
            have hix1 : ¬ x9 < 0 := by omega
            have hix2 : x9.toNat < 2 := by omega
            have hix3 : x9 < 2 := by omega
            clear hS9 HS
            go_wp2
            refine bodyPost_ret (v := .agg #[.int .i64 t9, .int .i64 c1, .int .i64 c2, .int .i64 (1 + x4), .int .i64 3, .int .i64 0, .int .i64 0, .int .i64 0, .int .i64 0]) (by simp (maxDischargeDepth := 9) [results, Try.results31, go_sem, *]) rfl ?_
            exact ⟨_, _, _, _, _, _, _, _, _, rfl, (kp_setB (kp_setB (kp_setB (kp_setB (kp_setB (kp_setB (kp_setB (kp_setB (kp_setB (kp_setB (o := 0) (unhide HK) hRB hwB) hR0 (Nat.le_refl _)) hR0 (Nat.le_refl _)) hR0 (Nat.le_refl _)) hR0 (Nat.le_refl _)) hR0 (Nat.le_refl _)) hR0 (Nat.le_refl _)) hR0 (Nat.le_refl _)) hR0 (Nat.le_refl _)) hR0 (Nat.le_refl _)), _, (by omega), (rd_setB (rd_setB (rd_setB (rd_setB (rd_setB (rd_setB (rd_setB (rd_setB (rd_setB (rd_setB (o := 0) (unhide HD) hRB) hR0) hR0) hR0) hR0) hR0) hR0) hR0) hR0) hR0), (by omega), (unhide HW)⟩
          · go_wp2_with fail
            clear qx0 qf0 rx0 rf0 qx1 qf1 rx1 rf1 qx2 qf2 rx2 rf2 qx3 qf3 rx3 rf3 qx4 qf4 rx4 rf4 qx5 qf5 rx5 rf5 qx6 qf6 rx6 rf6 qx7 qf7 rx7 rf7 qx8 qf8 rx8 rf8
            refine (win_any R a len cap (p1 + 1 + 1 + 1 + 1 + 1) 1 _ (by decide) (by decide) (by omega) (by omega) (unhide HD)).mono ?_
            rintro e' wv32 ⟨s9, e9, rfl, hs9, he9, k9, p9, hp9, r9⟩
            replace HX := hide (show wv32.heap[B]? = some (.cells #[.int .i64 c0, .int .i64 c1, .int .i64 c2, .int .i64 (1 + x4), .int .i64 3, .int .i64 0, .int .i64 0, .int .i64 0, .int .i64 0] 35 (0, 0)) from (k9.all _ ltB (by omega)).trans (unhide HX))
            replace HR := hide (show wv32.heap[w.heap.size]? = some (.cells #[.int .i64 0, .int .i64 0, .int .i64 0, .int .i64 0, .int .i64 0, .int .i64 0, .int .i64 0, .int .i64 0, .int .i64 0] 35 (0, 0)) from (k9.all _ ltR (by omega)).trans (unhide HR))
            replace HK := hide ((unhide HK).trans k9)
            replace HD := hide r9
            clear k9 r9 ltB ltR
            have ltB : B < wv32.heap.size := heap_lt (unhide HX)
            have ltR : w.heap.size < wv32.heap.size := heap_lt (unhide HR)
            obtain ⟨qx0, qf0⟩ := cells_blk (n := 0) (unhide HX) 0
            obtain ⟨qx1, qf1⟩ := cells_blk (n := 0) (unhide HX) 1
            obtain ⟨qx2, qf2⟩ := cells_blk (n := 0) (unhide HX) 2
            obtain ⟨qx3, qf3⟩ := cells_blk (n := 0) (unhide HX) 3
            obtain ⟨qx4, qf4⟩ := cells_blk (n := 0) (unhide HX) 4
            obtain ⟨qx5, qf5⟩ := cells_blk (n := 0) (unhide HX) 5
            obtain ⟨qx6, qf6⟩ := cells_blk (n := 0) (unhide HX) 6
            obtain ⟨qx7, qf7⟩ := cells_blk (n := 0) (unhide HX) 7
            obtain ⟨qx8, qf8⟩ := cells_blk (n := 0) (unhide HX) 8
            simp only [gA, gZ, gS] at qx0 qx1 qx2 qx3 qx4 qx5 qx6 qx7 qx8
            obtain ⟨rx0, rf0⟩ := cells_blk (n := 0) (unhide HR) 0
            obtain ⟨rx1, rf1⟩ := cells_blk (n := 0) (unhide HR) 1
            obtain ⟨rx2, rf2⟩ := cells_blk (n := 0) (unhide HR) 2
            obtain ⟨rx3, rf3⟩ := cells_blk (n := 0) (unhide HR) 3
            obtain ⟨rx4, rf4⟩ := cells_blk (n := 0) (unhide HR) 4
            obtain ⟨rx5, rf5⟩ := cells_blk (n := 0) (unhide HR) 5
            obtain ⟨rx6, rf6⟩ := cells_blk (n := 0) (unhide HR) 6
            obtain ⟨rx7, rf7⟩ := cells_blk (n := 0) (unhide HR) 7
            obtain ⟨rx8, rf8⟩ := cells_blk (n := 0) (unhide HR) 8
            simp only [gA, gZ, gS] at rx0 rx1 rx2 rx3 rx4 rx5 rx6 rx7 rx8
            go_wp2
            refine bodyPost_ret (v := .agg #[.int .i64 c0, .int .i64 s9, .int .i64 e9, .int .i64 (1 + x4), .int .i64 3, .int .i64 0, .int .i64 0, .int .i64 0, .int .i64 0]) (by simp (maxDischargeDepth := 9) [results, Try.results31, go_sem, *]) rfl ?_
            exact ⟨_, _, _, _, _, _, _, _, _, rfl, (kp_setB (kp_setB (kp_setB (kp_setB (kp_setB (kp_setB (kp_setB (kp_setB (kp_setB (kp_setB (o := 2) (kp_setB (o := 1) (unhide HK) hRB hwB) hRB hwB) hR0 (Nat.le_refl _)) hR0 (Nat.le_refl _)) hR0 (Nat.le_refl _)) hR0 (Nat.le_refl _)) hR0 (Nat.le_refl _)) hR0 (Nat.le_refl _)) hR0 (Nat.le_refl _)) hR0 (Nat.le_refl _)) hR0 (Nat.le_refl _)), _, (by omega), (rd_setB (rd_setB (rd_setB (rd_setB (rd_setB (rd_setB (rd_setB (rd_setB (rd_setB (rd_setB (o := 2) (rd_setB (o := 1) (unhide HD) hRB) hRB) hR0) hR0) hR0) hR0) hR0) hR0) hR0) hR0) hR0), (by omega), ⟨hs9, he9⟩⟩
          · go_wp2_with fail
            have hS : (wv29.alloc (.cells #[.int .i64 (-1), .int .i64 0, .int .i64 1, .int .i64 1500, .int .i64 1501] 3)).heap[wv29.heap.size]? = some (.cells #[.int .i64 (-1), .int .i64 0, .int .i64 1, .int .i64 1500, .int .i64 1501] 3 (0, 0)) := heap_alloc_new _ _
            have hbA : Below wv29.heap.size wv29 (wv29.alloc (.cells #[.int .i64 (-1), .int .i64 0, .int .i64 1, .int .i64 1500, .int .i64 1501] 3)) := bel_one _ _
            have hRo : R < wv29.heap.size := by omega
            have hsz : wv29.heap.size < (wv29.alloc (.cells #[.int .i64 (-1), .int .i64 0, .int .i64 1, .int .i64 1500, .int .i64 1501] 3)).heap.size := by simp
            have neo : wv29.heap.size ≠ R := by omega
            replace HX := hide (show (wv29.alloc (.cells #[.int .i64 (-1), .int .i64 0, .int .i64 1, .int .i64 1500, .int .i64 1501] 3)).heap[B]? = some (.cells #[.int .i64 c0, .int .i64 c1, .int .i64 c2, .int .i64 (1 + x4), .int .i64 3, .int .i64 0, .int .i64 0, .int .i64 0, .int .i64 0] 35 (0, 0)) from (hbA.block _ ltB).trans (unhide HX))
            replace HR := hide (show (wv29.alloc (.cells #[.int .i64 (-1), .int .i64 0, .int .i64 1, .int .i64 1500, .int .i64 1501] 3)).heap[w.heap.size]? = some (.cells #[.int .i64 0, .int .i64 0, .int .i64 0, .int .i64 0, .int .i64 0, .int .i64 0, .int .i64 0, .int .i64 0, .int .i64 0] 35 (0, 0)) from (hbA.block _ ltR).trans (unhide HR))
            replace HK := hide (show Kp R w (wv29.alloc (.cells #[.int .i64 (-1), .int .i64 0, .int .i64 1, .int .i64 1500, .int .i64 1501] 3)) from (unhide HK).trans (Kp.of_bel (by omega) hbA))
            replace HD := hide (show Rd R (wv29.alloc (.cells #[.int .i64 (-1), .int .i64 0, .int .i64 1, .int .i64 1500, .int .i64 1501] 3)) a len cap (p1 + 1 + 1 + 1 + 1 + 1) from (unhide HD).kp (by omega) hbA)
            have HS := hide hS
            clear ltB ltR hbA hS
            generalize (wv29.alloc (.cells #[.int .i64 (-1), .int .i64 0, .int .i64 1, .int .i64 1500, .int .i64 1501] 3)) = wv33 at HX HR HK HD HS hsz ⊢
            have ltB : B < wv33.heap.size := heap_lt (unhide HX)
            have ltR : w.heap.size < wv33.heap.size := heap_lt (unhide HR)
            clear qx0 qf0 rx0 rf0 qx1 qf1 rx1 rf1 qx2 qf2 rx2 rf2 qx3 qf3 rx3 rf3 qx4 qf4 rx4 rf4 qx5 qf5 rx5 rf5 qx6 qf6 rx6 rf6 qx7 qf7 rx7 rf7 qx8 qf8 rx8 rf8
            refine (pick_any R a len cap (p1 + 1 + 1 + 1 + 1 + 1) 5 _ (by decide) (by decide) (unhide HD)).mono ?_
            rintro e' wv34 ⟨x9, rfl, x9l, x9u, k9, r9⟩
            replace HX := hide (show wv34.heap[B]? = some (.cells #[.int .i64 c0, .int .i64 c1, .int .i64 c2, .int .i64 (1 + x4), .int .i64 3, .int .i64 0, .int .i64 0, .int .i64 0, .int .i64 0] 35 (0, 0)) from (k9.all _ ltB (by omega)).trans (unhide HX))
            replace HR := hide (show wv34.heap[w.heap.size]? = some (.cells #[.int .i64 0, .int .i64 0, .int .i64 0, .int .i64 0, .int .i64 0, .int .i64 0, .int .i64 0, .int .i64 0, .int .i64 0] 35 (0, 0)) from (k9.all _ ltR (by omega)).trans (unhide HR))
            replace HK := hide ((unhide HK).trans k9)
            replace HD := hide (r9 (by omega))
            have hS9 := (k9.all _ hsz neo).trans (unhide HS)
            clear k9 r9 ltB ltR
            have ltB : B < wv34.heap.size := heap_lt (unhide HX)
            have ltR : w.heap.size < wv34.heap.size := heap_lt (unhide HR)
            obtain ⟨qx0, qf0⟩ := cells_blk (n := 0) (unhide HX) 0
            obtain ⟨qx1, qf1⟩ := cells_blk (n := 0) (unhide HX) 1
            obtain ⟨qx2, qf2⟩ := cells_blk (n := 0) (unhide HX) 2
            obtain ⟨qx3, qf3⟩ := cells_blk (n := 0) (unhide HX) 3
            obtain ⟨qx4, qf4⟩ := cells_blk (n := 0) (unhide HX) 4
            obtain ⟨qx5, qf5⟩ := cells_blk (n := 0) (unhide HX) 5
            obtain ⟨qx6, qf6⟩ := cells_blk (n := 0) (unhide HX) 6
            obtain ⟨qx7, qf7⟩ := cells_blk (n := 0) (unhide HX) 7
            obtain ⟨qx8, qf8⟩ := cells_blk (n := 0) (unhide HX) 8
            simp only [gA, gZ, gS] at qx0 qx1 qx2 qx3 qx4 qx5 qx6 qx7 qx8
            obtain ⟨rx0, rf0⟩ := cells_blk (n := 0) (unhide HR) 0
            obtain ⟨rx1, rf1⟩ := cells_blk (n := 0) (unhide HR) 1
            obtain ⟨rx2, rf2⟩ := cells_blk (n := 0) (unhide HR) 2
            obtain ⟨rx3, rf3⟩ := cells_blk (n := 0) (unhide HR) 3
            obtain ⟨rx4, rf4⟩ := cells_blk (n := 0) (unhide HR) 4
            obtain ⟨rx5, rf5⟩ := cells_blk (n := 0) (unhide HR) 5
            obtain ⟨rx6, rf6⟩ := cells_blk (n := 0) (unhide HR) 6
            obtain ⟨rx7, rf7⟩ := cells_blk (n := 0) (unhide HR) 7
            obtain ⟨rx8, rf8⟩ := cells_blk (n := 0) (unhide HR) 8
            simp only [gA, gZ, gS] at rx0 rx1 rx2 rx3 rx4 rx5 rx6 rx7 rx8
            obtain ⟨t9, hz9, ht9a, ht9b⟩ := elm1_0_1_1500_1501_ x9 x9l (by omega)
            have hc9 := (cells_blk (n := 0) hS9 x9.toNat).1.trans hz9
            have hix1 : ¬ x9 < 0 := by omega
            have hix2 : x9.toNat < 5 := by omega
            have hix3 : x9 < 5 := by omega
            clear hS9 HS
            go_wp2
            refine bodyPost_ret (v := .agg #[.int .i64 c0, .int .i64 c1, .int .i64 c2, .int .i64 t9, .int .i64 3, .int .i64 0, .int .i64 0, .int .i64 0, .int .i64 0]) (by simp (maxDischargeDepth := 9) [results, Try.results31, go_sem, *]) rfl ?_
            exact ⟨_, _, _, _, _, _, _, _, _, rfl, (kp_setB (kp_setB (kp_setB (kp_setB (kp_setB (kp_setB (kp_setB (kp_setB (kp_setB (kp_setB (o := 3) (unhide HK) hRB hwB) hR0 (Nat.le_refl _)) hR0 (Nat.le_refl _)) hR0 (Nat.le_refl _)) hR0 (Nat.le_refl _)) hR0 (Nat.le_refl _)) hR0 (Nat.le_refl _)) hR0 (Nat.le_refl _)) hR0 (Nat.le_refl _)) hR0 (Nat.le_refl _)), _, (by omega), (rd_setB (rd_setB (rd_setB (rd_setB (rd_setB (rd_setB (rd_setB (rd_setB (rd_setB (rd_setB (o := 3) (unhide HD) hRB) hR0) hR0) hR0) hR0) hR0) hR0) hR0) hR0) hR0), (by omega), (unhide HW)⟩
          · go_wp2_with fail
            clear qx0 qf0 rx0 rf0 qx1 qf1 rx1 rf1 qx2 qf2 rx2 rf2 qx3 qf3 rx3 rf3 qx4 qf4 rx4 rf4 qx5 qf5 rx5 rf5 qx6 qf6 rx6 rf6 qx7 qf7 rx7 rf7 qx8 qf8 rx8 rf8
            refine (pick_any R a len cap (p1 + 1 + 1 + 1 + 1 + 1) 5 _ (by decide) (by decide) (unhide HD)).mono ?_
            rintro e' wv35 ⟨x7, rfl, x7l, x7u, k9, r9⟩
            replace HX := hide (show wv35.heap[B]? = some (.cells #[.int .i64 c0, .int .i64 c1, .int .i64 c2, .int .i64 (1 + x4), .int .i64 3, .int .i64 0, .int .i64 0, .int .i64 0, .int .i64 0] 35 (0, 0)) from (k9.all _ ltB (by omega)).trans (unhide HX))
            replace HR := hide (show wv35.heap[w.heap.size]? = some (.cells #[.int .i64 0, .int .i64 0, .int .i64 0, .int .i64 0, .int .i64 0, .int .i64 0, .int .i64 0, .int .i64 0, .int .i64 0] 35 (0, 0)) from (k9.all _ ltR (by omega)).trans (unhide HR))
            replace HK := hide ((unhide HK).trans k9)
            replace HD := hide (r9 (by omega))
            clear k9 r9 ltB ltR
            have ltB : B < wv35.heap.size := heap_lt (unhide HX)
            have ltR : w.heap.size < wv35.heap.size := heap_lt (unhide HR)
            obtain ⟨qx0, qf0⟩ := cells_blk (n := 0) (unhide HX) 0
            obtain ⟨qx1, qf1⟩ := cells_blk (n := 0) (unhide HX) 1
            obtain ⟨qx2, qf2⟩ := cells_blk (n := 0) (unhide HX) 2
            obtain ⟨qx3, qf3⟩ := cells_blk (n := 0) (unhide HX) 3
            obtain ⟨qx4, qf4⟩ := cells_blk (n := 0) (unhide HX) 4
            obtain ⟨qx5, qf5⟩ := cells_blk (n := 0) (unhide HX) 5
            obtain ⟨qx6, qf6⟩ := cells_blk (n := 0) (unhide HX) 6
            obtain ⟨qx7, qf7⟩ := cells_blk (n := 0) (unhide HX) 7
            obtain ⟨qx8, qf8⟩ := cells_blk (n := 0) (unhide HX) 8
            simp only [gA, gZ, gS] at qx0 qx1 qx2 qx3 qx4 qx5 qx6 qx7 qx8
            obtain ⟨rx0, rf0⟩ := cells_blk (n := 0) (unhide HR) 0
            obtain ⟨rx1, rf1⟩ := cells_blk (n := 0) (unhide HR) 1
            obtain ⟨rx2, rf2⟩ := cells_blk (n := 0) (unhide HR) 2
            obtain ⟨rx3, rf3⟩ := cells_blk (n := 0) (unhide HR) 3
            obtain ⟨rx4, rf4⟩ := cells_blk (n := 0) (unhide HR) 4
            obtain ⟨rx5, rf5⟩ := cells_blk (n := 0) (unhide HR) 5
            obtain ⟨rx6, rf6⟩ := cells_blk (n := 0) (unhide HR) 6
            obtain ⟨rx7, rf7⟩ := cells_blk (n := 0) (unhide HR) 7
            obtain ⟨rx8, rf8⟩ := cells_blk (n := 0) (unhide HR) 8
            simp only [gA, gZ, gS] at rx0 rx1 rx2 rx3 rx4 rx5 rx6 rx7 rx8
            go_wp2
            refine bodyPost_ret (v := .agg #[.int .i64 c0, .int .i64 c1, .int .i64 c2, .int .i64 (1 + x4), .int .i64 x7, .int .i64 0, .int .i64 0, .int .i64 0, .int .i64 0]) (by simp (maxDischargeDepth := 9) [results, Try.results31, go_sem, *]) rfl ?_
            exact ⟨_, _, _, _, _, _, _, _, _, rfl, (kp_setB (kp_setB (kp_setB (kp_setB (kp_setB (kp_setB (kp_setB (kp_setB (kp_setB (kp_setB (o := 4) (unhide HK) hRB hwB) hR0 (Nat.le_refl _)) hR0 (Nat.le_refl _)) hR0 (Nat.le_refl _)) hR0 (Nat.le_refl _)) hR0 (Nat.le_refl _)) hR0 (Nat.le_refl _)) hR0 (Nat.le_refl _)) hR0 (Nat.le_refl _)) hR0 (Nat.le_refl _)), _, (by omega), (rd_setB (rd_setB (rd_setB (rd_setB (rd_setB (rd_setB (rd_setB (rd_setB (rd_setB (rd_setB (o := 4) (unhide HD) hRB) hR0) hR0) hR0) hR0) hR0) hR0) hR0) hR0) hR0), (by omega), (unhide HW)⟩
          · go_wp2_with fail
            clear qx0 qf0 rx0 rf0 qx1 qf1 rx1 rf1 qx2 qf2 rx2 rf2 qx3 qf3 rx3 rf3 qx4 qf4 rx4 rf4 qx5 qf5 rx5 rf5 qx6 qf6 rx6 rf6 qx7 qf7 rx7 rf7 qx8 qf8 rx8 rf8
            refine (agg_any R a len cap (p1 + 1 + 1 + 1 + 1 + 1) 1 _ (by decide) (by decide) (by omega) (by omega) (unhide HD)).mono ?_
            rintro e' wv36 ⟨n9, m9, l9, t9, rfl, _, _, _, _, k9, p9, hp9, r9⟩
            replace HX := hide (show wv36.heap[B]? = some (.cells #[.int .i64 c0, .int .i64 c1, .int .i64 c2, .int .i64 (1 + x4), .int .i64 3, .int .i64 0, .int .i64 0, .int .i64 0, .int .i64 0] 35 (0, 0)) from (k9.all _ ltB (by omega)).trans (unhide HX))
            replace HR := hide (show wv36.heap[w.heap.size]? = some (.cells #[.int .i64 0, .int .i64 0, .int .i64 0, .int .i64 0, .int .i64 0, .int .i64 0, .int .i64 0, .int .i64 0, .int .i64 0] 35 (0, 0)) from (k9.all _ ltR (by omega)).trans (unhide HR))
            replace HK := hide ((unhide HK).trans k9)
            replace HD := hide r9
            clear k9 r9 ltB ltR
            have ltB : B < wv36.heap.size := heap_lt (unhide HX)
            have ltR : w.heap.size < wv36.heap.size := heap_lt (unhide HR)
            obtain ⟨qx0, qf0⟩ := cells_blk (n := 0) (unhide HX) 0
            obtain ⟨qx1, qf1⟩ := cells_blk (n := 0) (unhide HX) 1
            obtain ⟨qx2, qf2⟩ := cells_blk (n := 0) (unhide HX) 2
            obtain ⟨qx3, qf3⟩ := cells_blk (n := 0) (unhide HX) 3
            obtain ⟨qx4, qf4⟩ := cells_blk (n := 0) (unhide HX) 4
            obtain ⟨qx5, qf5⟩ := cells_blk (n := 0) (unhide HX) 5
            obtain ⟨qx6, qf6⟩ := cells_blk (n := 0) (unhide HX) 6
            obtain ⟨qx7, qf7⟩ := cells_blk (n := 0) (unhide HX) 7
            obtain ⟨qx8, qf8⟩ := cells_blk (n := 0) (unhide HX) 8
            simp only [gA, gZ, gS] at qx0 qx1 qx2 qx3 qx4 qx5 qx6 qx7 qx8
            obtain ⟨rx0, rf0⟩ := cells_blk (n := 0) (unhide HR) 0
            obtain ⟨rx1, rf1⟩ := cells_blk (n := 0) (unhide HR) 1
            obtain ⟨rx2, rf2⟩ := cells_blk (n := 0) (unhide HR) 2
            obtain ⟨rx3, rf3⟩ := cells_blk (n := 0) (unhide HR) 3
            obtain ⟨rx4, rf4⟩ := cells_blk (n := 0) (unhide HR) 4
            obtain ⟨rx5, rf5⟩ := cells_blk (n := 0) (unhide HR) 5
            obtain ⟨rx6, rf6⟩ := cells_blk (n := 0) (unhide HR) 6
            obtain ⟨rx7, rf7⟩ := cells_blk (n := 0) (unhide HR) 7
            obtain ⟨rx8, rf8⟩ := cells_blk (n := 0) (unhide HR) 8
            simp only [gA, gZ, gS] at rx0 rx1 rx2 rx3 rx4 rx5 rx6 rx7 rx8
            go_wp2
            refine bodyPost_ret (v := .agg #[.int .i64 c0, .int .i64 c1, .int .i64 c2, .int .i64 (1 + x4), .int .i64 3, .int .i64 n9, .int .i64 m9, .int .i64 l9, .int .i64 t9]) (by simp (maxDischargeDepth := 9) [results, Try.results31, go_sem, *]) rfl ?_
            exact ⟨_, _, _, _, _, _, _, _, _, rfl, (kp_setB (kp_setB (kp_setB (kp_setB (kp_setB (kp_setB (kp_setB (kp_setB (kp_setB (kp_setB (o := 8) (kp_setB (o := 7) (kp_setB (o := 6) (kp_setB (o := 5) (unhide HK) hRB hwB) hRB hwB) hRB hwB) hRB hwB) hR0 (Nat.le_refl _)) hR0 (Nat.le_refl _)) hR0 (Nat.le_refl _)) hR0 (Nat.le_refl _)) hR0 (Nat.le_refl _)) hR0 (Nat.le_refl _)) hR0 (Nat.le_refl _)) hR0 (Nat.le_refl _)) hR0 (Nat.le_refl _)), _, (by omega), (rd_setB (rd_setB (rd_setB (rd_setB (rd_setB (rd_setB (rd_setB (rd_setB (rd_setB (rd_setB (o := 8) (rd_setB (o := 7) (rd_setB (o := 6) (rd_setB (o := 5) (unhide HD) hRB) hRB) hRB) hRB) hR0) hR0) hR0) hR0) hR0) hR0) hR0) hR0) hR0), (by omega), (unhide HW)⟩
      · go_wp2_with fail
        clear qx0 qf0 rx0 rf0 qx1 qf1 rx1 rf1 qx2 qf2 rx2 rf2 qx3 qf3 rx3 rf3 qx4 qf4 rx4 rf4 qx5 qf5 rx5 rf5 qx6 qf6 rx6 rf6 qx7 qf7 rx7 rf7 qx8 qf8 rx8 rf8
        refine (pick_any R a len cap (p1 + 1 + 1) n _ hn hn2 (unhide HD)).mono ?_
        rintro e' wv37 ⟨x5, rfl, x5l, x5u, k9, r9⟩
        replace HX := hide (show wv37.heap[B]? = some (.cells #[.int .i64 c0, .int .i64 c1, .int .i64 c2, .int .i64 c3, .int .i64 c4, .int .i64 c5, .int .i64 c6, .int .i64 c7, .int .i64 c8] 35 (0, 0)) from (k9.all _ ltB (by omega)).trans (unhide HX))
        replace HR := hide (show wv37.heap[w.heap.size]? = some (.cells #[.int .i64 0, .int .i64 0, .int .i64 0, .int .i64 0, .int .i64 0, .int .i64 0, .int .i64 0, .int .i64 0, .int .i64 0] 35 (0, 0)) from (k9.all _ ltR (by omega)).trans (unhide HR))
        replace HK := hide ((unhide HK).trans k9)
        replace HD := hide (r9 (by omega))
        clear k9 r9 ltB ltR
        have ltB : B < wv37.heap.size := heap_lt (unhide HX)
        have ltR : w.heap.size < wv37.heap.size := heap_lt (unhide HR)
        obtain ⟨qx0, qf0⟩ := cells_blk (n := 0) (unhide HX) 0
        obtain ⟨qx1, qf1⟩ := cells_blk (n := 0) (unhide HX) 1
        obtain ⟨qx2, qf2⟩ := cells_blk (n := 0) (unhide HX) 2
        obtain ⟨qx3, qf3⟩ := cells_blk (n := 0) (unhide HX) 3
        obtain ⟨qx4, qf4⟩ := cells_blk (n := 0) (unhide HX) 4
        obtain ⟨qx5, qf5⟩ := cells_blk (n := 0) (unhide HX) 5
        obtain ⟨qx6, qf6⟩ := cells_blk (n := 0) (unhide HX) 6
        obtain ⟨qx7, qf7⟩ := cells_blk (n := 0) (unhide HX) 7
        obtain ⟨qx8, qf8⟩ := cells_blk (n := 0) (unhide HX) 8
        simp only [gA, gZ, gS] at qx0 qx1 qx2 qx3 qx4 qx5 qx6 qx7 qx8
        obtain ⟨rx0, rf0⟩ := cells_blk (n := 0) (unhide HR) 0
        obtain ⟨rx1, rf1⟩ := cells_blk (n := 0) (unhide HR) 1
        obtain ⟨rx2, rf2⟩ := cells_blk (n := 0) (unhide HR) 2
        obtain ⟨rx3, rf3⟩ := cells_blk (n := 0) (unhide HR) 3
        obtain ⟨rx4, rf4⟩ := cells_blk (n := 0) (unhide HR) 4
        obtain ⟨rx5, rf5⟩ := cells_blk (n := 0) (unhide HR) 5
        obtain ⟨rx6, rf6⟩ := cells_blk (n := 0) (unhide HR) 6
        obtain ⟨rx7, rf7⟩ := cells_blk (n := 0) (unhide HR) 7
        obtain ⟨rx8, rf8⟩ := cells_blk (n := 0) (unhide HR) 8
        simp only [gA, gZ, gS] at rx0 rx1 rx2 rx3 rx4 rx5 rx6 rx7 rx8
        by_cases hx5 : 0 < x5
        · go_wp2
          refine bodyPost_ret (v := .agg #[.int .i64 c0, .int .i64 c1, .int .i64 c2, .int .i64 c3, .int .i64 c4, .int .i64 c5, .int .i64 c6, .int .i64 c7, .int .i64 c8]) (by simp (maxDischargeDepth := 9) [results, Try.results31, go_sem, *]) rfl ?_
          exact ⟨_, _, _, _, _, _, _, _, _, rfl, (kp_setB (kp_setB (kp_setB (kp_setB (kp_setB (kp_setB (kp_setB (kp_setB (kp_setB (unhide HK) hR0 (Nat.le_refl _)) hR0 (Nat.le_refl _)) hR0 (Nat.le_refl _)) hR0 (Nat.le_refl _)) hR0 (Nat.le_refl _)) hR0 (Nat.le_refl _)) hR0 (Nat.le_refl _)) hR0 (Nat.le_refl _)) hR0 (Nat.le_refl _)), _, (by omega), (rd_setB (rd_setB (rd_setB (rd_setB (rd_setB (rd_setB (rd_setB (rd_setB (rd_setB (unhide HD) hR0) hR0) hR0) hR0) hR0) hR0) hR0) hR0) hR0), (by omega), (unhide HW)⟩
        · obtain rfl : x5 = 0 := by omega
          go_wp2_with fail
          clear qx0 qf0 rx0 rf0 qx1 qf1 rx1 rf1 qx2 qf2 rx2 rf2 qx3 qf3 rx3 rf3 qx4 qf4 rx4 rf4 qx5 qf5 rx5 rf5 qx6 qf6 rx6 rf6 qx7 qf7 rx7 rf7 qx8 qf8 rx8 rf8
          refine (pick_any R a len cap (p1 + 1 + 1 + 1) 5 _ (by decide) (by decide) (unhide HD)).mono ?_
          rintro e' wv38 ⟨x6, rfl, x6l, x6u, k9, r9⟩
          replace HX := hide (show wv38.heap[B]? = some (.cells #[.int .i64 c0, .int .i64 c1, .int .i64 c2, .int .i64 c3, .int .i64 c4, .int .i64 c5, .int .i64 c6, .int .i64 c7, .int .i64 c8] 35 (0, 0)) from (k9.all _ ltB (by omega)).trans (unhide HX))
          replace HR := hide (show wv38.heap[w.heap.size]? = some (.cells #[.int .i64 0, .int .i64 0, .int .i64 0, .int .i64 0, .int .i64 0, .int .i64 0, .int .i64 0, .int .i64 0, .int .i64 0] 35 (0, 0)) from (k9.all _ ltR (by omega)).trans (unhide HR))
          replace HK := hide ((unhide HK).trans k9)
          replace HD := hide (r9 (by omega))
          clear k9 r9 ltB ltR
          have ltB : B < wv38.heap.size := heap_lt (unhide HX)
          have ltR : w.heap.size < wv38.heap.size := heap_lt (unhide HR)
          obtain ⟨qx0, qf0⟩ := cells_blk (n := 0) (unhide HX) 0
          obtain ⟨qx1, qf1⟩ := cells_blk (n := 0) (unhide HX) 1
          obtain ⟨qx2, qf2⟩ := cells_blk (n := 0) (unhide HX) 2
          obtain ⟨qx3, qf3⟩ := cells_blk (n := 0) (unhide HX) 3
          obtain ⟨qx4, qf4⟩ := cells_blk (n := 0) (unhide HX) 4
          obtain ⟨qx5, qf5⟩ := cells_blk (n := 0) (unhide HX) 5
          obtain ⟨qx6, qf6⟩ := cells_blk (n := 0) (unhide HX) 6
          obtain ⟨qx7, qf7⟩ := cells_blk (n := 0) (unhide HX) 7
          obtain ⟨qx8, qf8⟩ := cells_blk (n := 0) (unhide HX) 8
          simp only [gA, gZ, gS] at qx0 qx1 qx2 qx3 qx4 qx5 qx6 qx7 qx8
          obtain ⟨rx0, rf0⟩ := cells_blk (n := 0) (unhide HR) 0
          obtain ⟨rx1, rf1⟩ := cells_blk (n := 0) (unhide HR) 1
          obtain ⟨rx2, rf2⟩ := cells_blk (n := 0) (unhide HR) 2
          obtain ⟨rx3, rf3⟩ := cells_blk (n := 0) (unhide HR) 3
          obtain ⟨rx4, rf4⟩ := cells_blk (n := 0) (unhide HR) 4
          obtain ⟨rx5, rf5⟩ := cells_blk (n := 0) (unhide HR) 5
          obtain ⟨rx6, rf6⟩ := cells_blk (n := 0) (unhide HR) 6
          obtain ⟨rx7, rf7⟩ := cells_blk (n := 0) (unhide HR) 7
          obtain ⟨rx8, rf8⟩ := cells_blk (n := 0) (unhide HR) 8
          simp only [gA, gZ, gS] at rx0 rx1 rx2 rx3 rx4 rx5 rx6 rx7 rx8
          obtain rfl | rfl | rfl | rfl | rfl : x6 = 0 ∨ x6 = 1 ∨ x6 = 2 ∨ x6 = 3 ∨ x6 = 4 := by omega
          · go_wp2_with fail
            have hS : (wv38.alloc (.cells #[.int .i64 (-1), .int .i64 4] 3)).heap[wv38.heap.size]? = some (.cells #[.int .i64 (-1), .int .i64 4] 3 (0, 0)) := heap_alloc_new _ _
            have hbA : Below wv38.heap.size wv38 (wv38.alloc (.cells #[.int .i64 (-1), .int .i64 4] 3)) := bel_one _ _
            have hRo : R < wv38.heap.size := by omega
            have hsz : wv38.heap.size < (wv38.alloc (.cells #[.int .i64 (-1), .int .i64 4] 3)).heap.size := by simp
            have neo : wv38.heap.size ≠ R := by omega
            replace HX := hide (show (wv38.alloc (.cells #[.int .i64 (-1), .int .i64 4] 3)).heap[B]? = some (.cells #[.int .i64 c0, .int .i64 c1, .int .i64 c2, .int .i64 c3, .int .i64 c4, .int .i64 c5, .int .i64 c6, .int .i64 c7, .int .i64 c8] 35 (0, 0)) from (hbA.block _ ltB).trans (unhide HX))
            replace HR := hide (show (wv38.alloc (.cells #[.int .i64 (-1), .int .i64 4] 3)).heap[w.heap.size]? = some (.cells #[.int .i64 0, .int .i64 0, .int .i64 0, .int .i64 0, .int .i64 0, .int .i64 0, .int .i64 0, .int .i64 0, .int .i64 0] 35 (0, 0)) from (hbA.block _ ltR).trans (unhide HR))
            replace HK := hide (show Kp R w (wv38.alloc (.cells #[.int .i64 (-1), .int .i64 4] 3)) from (unhide HK).trans (Kp.of_bel (by omega) hbA))
            replace HD := hide (show Rd R (wv38.alloc (.cells #[.int .i64 (-1), .int .i64 4] 3)) a len cap (p1 + 1 + 1 + 1 + 1) from (unhide HD).kp (by omega) hbA)
            have HS := hide hS
            clear ltB ltR hbA hS
            generalize (wv38.alloc (.cells #[.int .i64 (-1), .int .i64 4] 3)) = wv39 at HX HR HK HD HS hsz ⊢
            have ltB : B < wv39.heap.size := heap_lt (unhide HX)
            have ltR : w.heap.size < wv39.heap.size := heap_lt (unhide HR)
            clear qx0 qf0 rx0 rf0 qx1 qf1 rx1 rf1 qx2 qf2 rx2 rf2 qx3 qf3 rx3 rf3 qx4 qf4 rx4 rf4 qx5 qf5 rx5 rf5 qx6 qf6 rx6 rf6 qx7 qf7 rx7 rf7 qx8 qf8 rx8 rf8
            refine (pick_any R a len cap (p1 + 1 + 1 + 1 + 1) 2 _ (by decide) (by decide) (unhide HD)).mono ?_
            rintro e' wv40 ⟨x9, rfl, x9l, x9u, k9, r9⟩
            replace HX := hide (show wv40.heap[B]? = some (.cells #[.int .i64 c0, .int .i64 c1, .int .i64 c2, .int .i64 c3, .int .i64 c4, .int .i64 c5, .int .i64 c6, .int .i64 c7, .int .i64 c8] 35 (0, 0)) from (k9.all _ ltB (by omega)).trans (unhide HX))
            replace HR := hide (show wv40.heap[w.heap.size]? = some (.cells #[.int .i64 0, .int .i64 0, .int .i64 0, .int .i64 0, .int .i64 0, .int .i64 0, .int .i64 0, .int .i64 0, .int .i64 0] 35 (0, 0)) from (k9.all _ ltR (by omega)).trans (unhide HR))
            replace HK := hide ((unhide HK).trans k9)
            replace HD := hide (r9 (by omega))
            have hS9 := (k9.all _ hsz neo).trans (unhide HS)
            clear k9 r9 ltB ltR
            have ltB : B < wv40.heap.size := heap_lt (unhide HX)
            have ltR : w.heap.size < wv40.heap.size := heap_lt (unhide HR)
            obtain ⟨qx0, qf0⟩ := cells_blk (n := 0) (unhide HX) 0
            obtain ⟨qx1, qf1⟩ := cells_blk (n := 0) (unhide HX) 1
            obtain ⟨qx2, qf2⟩ := cells_blk (n := 0) (unhide HX) 2
            obtain ⟨qx3, qf3⟩ := cells_blk (n := 0) (unhide HX) 3
            obtain ⟨qx4, qf4⟩ := cells_blk (n := 0) (unhide HX) 4
            obtain ⟨qx5, qf5⟩ := cells_blk (n := 0) (unhide HX) 5
            obtain ⟨qx6, qf6⟩ := cells_blk (n := 0) (unhide HX) 6
            obtain ⟨qx7, qf7⟩ := cells_blk (n := 0) (unhide HX) 7
            obtain ⟨qx8, qf8⟩ := cells_blk (n := 0) (unhide HX) 8
            simp only [gA, gZ, gS] at qx0 qx1 qx2 qx3 qx4 qx5 qx6 qx7 qx8
            obtain ⟨rx0, rf0⟩ := cells_blk (n := 0) (unhide HR) 0
            obtain ⟨rx1, rf1⟩ := cells_blk (n := 0) (unhide HR) 1
            obtain ⟨rx2, rf2⟩ := cells_blk (n := 0) (unhide HR) 2
            obtain ⟨rx3, rf3⟩ := cells_blk (n := 0) (unhide HR) 3
            obtain ⟨rx4, rf4⟩ := cells_blk (n := 0) (unhide HR) 4
            obtain ⟨rx5, rf5⟩ := cells_blk (n := 0) (unhide HR) 5
            obtain ⟨rx6, rf6⟩ := cells_blk (n := 0) (unhide HR) 6
            obtain ⟨rx7, rf7⟩ := cells_blk (n := 0) (unhide HR) 7
            obtain ⟨rx8, rf8⟩ := cells_blk (n := 0) (unhide HR) 8
            simp only [gA, gZ, gS] at rx0 rx1 rx2 rx3 rx4 rx5 rx6 rx7 rx8
            obtain ⟨t9, hz9, ht9a, ht9b⟩ := elm1_4_ x9 x9l (by omega)
            have hc9 := (cells_blk (n := 0) hS9 x9.toNat).1.trans hz9
            have hix1 : ¬ x9 < 0 := by omega
            have hix2 : x9.toNat < 2 := by omega
            have hix3 : x9 < 2 := by omega
            clear hS9 HS
            go_wp2
            refine bodyPost_ret (v := .agg #[.int .i64 t9, .int .i64 c1, .int .i64 c2, .int .i64 c3, .int .i64 c4, .int .i64 c5, .int .i64 c6, .int .i64 c7, .int .i64 c8]) (by simp (maxDischargeDepth := 9) [results, Try.results31, go_sem, *]) rfl ?_
            exact ⟨_, _, _, _, _, _, _, _, _, rfl, (kp_setB (kp_setB (kp_setB (kp_setB (kp_setB (kp_setB (kp_setB (kp_setB (kp_setB (kp_setB (o := 0) (unhide HK) hRB hwB) hR0 (Nat.le_refl _)) hR0 (Nat.le_refl _)) hR0 (Nat.le_refl _)) hR0 (Nat.le_refl _)) hR0 (Nat.le_refl _)) hR0 (Nat.le_refl _)) hR0 (Nat.le_refl _)) hR0 (Nat.le_refl _)) hR0 (Nat.le_refl _)), _, (by omega), (rd_setB (rd_setB (rd_setB (rd_setB (rd_setB (rd_setB (rd_setB (rd_setB (rd_setB (rd_setB (o := 0) (unhide HD) hRB) hR0) hR0) hR0) hR0) hR0) hR0) hR0) hR0) hR0), (by omega), (unhide HW)⟩
          · go_wp2_with fail
            clear qx0 qf0 rx0 rf0 qx1 qf1 rx1 rf1 qx2 qf2 rx2 rf2 qx3 qf3 rx3 rf3 qx4 qf4 rx4 rf4 qx5 qf5 rx5 rf5 qx6 qf6 rx6 rf6 qx7 qf7 rx7 rf7 qx8 qf8 rx8 rf8
            refine (win_any R a len cap (p1 + 1 + 1 + 1 + 1) 1 _ (by decide) (by decide) (by omega) (by omega) (unhide HD)).mono ?_
            rintro e' wv41 ⟨s9, e9, rfl, hs9, he9, k9, p9, hp9, r9⟩
            replace HX := hide (show wv41.heap[B]? = some (.cells #[.int .i64 c0, .int .i64 c1, .int .i64 c2, .int .i64 c3, .int .i64 c4, .int .i64 c5, .int .i64 c6, .int .i64 c7, .int .i64 c8] 35 (0, 0)) from (k9.all _ ltB (by omega)).trans (unhide HX))
            replace HR := hide (show wv41.heap[w.heap.size]? = some (.cells #[.int .i64 0, .int .i64 0, .int .i64 0, .int .i64 0, .int .i64 0, .int .i64 0, .int .i64 0, .int .i64 0, .int .i64 0] 35 (0, 0)) from (k9.all _ ltR (by omega)).trans (unhide HR))
            replace HK := hide ((unhide HK).trans k9)
            replace HD := hide r9
            clear k9 r9 ltB ltR
            have ltB : B < wv41.heap.size := heap_lt (unhide HX)
            have ltR : w.heap.size < wv41.heap.size := heap_lt (unhide HR)
            obtain ⟨qx0, qf0⟩ := cells_blk (n := 0) (unhide HX) 0
            obtain ⟨qx1, qf1⟩ := cells_blk (n := 0) (unhide HX) 1
            obtain ⟨qx2, qf2⟩ := cells_blk (n := 0) (unhide HX) 2
            obtain ⟨qx3, qf3⟩ := cells_blk (n := 0) (unhide HX) 3
            obtain ⟨qx4, qf4⟩ := cells_blk (n := 0) (unhide HX) 4
            obtain ⟨qx5, qf5⟩ := cells_blk (n := 0) (unhide HX) 5
            obtain ⟨qx6, qf6⟩ := cells_blk (n := 0) (unhide HX) 6
            obtain ⟨qx7, qf7⟩ := cells_blk (n := 0) (unhide HX) 7
            obtain ⟨qx8, qf8⟩ := cells_blk (n := 0) (unhide HX) 8
            simp only [gA, gZ, gS] at qx0 qx1 qx2 qx3 qx4 qx5 qx6 qx7 qx8
            obtain ⟨rx0, rf0⟩ := cells_blk (n := 0) (unhide HR) 0
            obtain ⟨rx1, rf1⟩ := cells_blk (n := 0) (unhide HR) 1
            obtain ⟨rx2, rf2⟩ := cells_blk (n := 0) (unhide HR) 2
            obtain ⟨rx3, rf3⟩ := cells_blk (n := 0) (unhide HR) 3
            obtain ⟨rx4, rf4⟩ := cells_blk (n := 0) (unhide HR) 4
            obtain ⟨rx5, rf5⟩ := cells_blk (n := 0) (unhide HR) 5
            obtain ⟨rx6, rf6⟩ := cells_blk (n := 0) (unhide HR) 6
            obtain ⟨rx7, rf7⟩ := cells_blk (n := 0) (unhide HR) 7
            obtain ⟨rx8, rf8⟩ := cells_blk (n := 0) (unhide HR) 8
            simp only [gA, gZ, gS] at rx0 rx1 rx2 rx3 rx4 rx5 rx6 rx7 rx8
            go_wp2
            refine bodyPost_ret (v := .agg #[.int .i64 c0, .int .i64 s9, .int .i64 e9, .int .i64 c3, .int .i64 c4, .int .i64 c5, .int .i64 c6, .int .i64 c7, .int .i64 c8]) (by simp (maxDischargeDepth := 9) [results, Try.results31, go_sem, *]) rfl ?_
            exact ⟨_, _, _, _, _, _, _, _, _, rfl, (kp_setB (kp_setB (kp_setB (kp_setB (kp_setB (kp_setB (kp_setB (kp_setB (kp_setB (kp_setB (o := 2) (kp_setB (o := 1) (unhide HK) hRB hwB) hRB hwB) hR0 (Nat.le_refl _)) hR0 (Nat.le_refl _)) hR0 (Nat.le_refl _)) hR0 (Nat.le_refl _)) hR0 (Nat.le_refl _)) hR0 (Nat.le_refl _)) hR0 (Nat.le_refl _)) hR0 (Nat.le_refl _)) hR0 (Nat.le_refl _)), _, (by omega), (rd_setB (rd_setB (rd_setB (rd_setB (rd_setB (rd_setB (rd_setB (rd_setB (rd_setB (rd_setB (o := 2) (rd_setB (o := 1) (unhide HD) hRB) hRB) hR0) hR0) hR0) hR0) hR0) hR0) hR0) hR0) hR0), (by omega), ⟨hs9, he9⟩⟩
          · go_wp2_with fail
            have hS : (wv38.alloc (.cells #[.int .i64 (-1), .int .i64 0, .int .i64 1, .int .i64 1500, .int .i64 1501] 3)).heap[wv38.heap.size]? = some (.cells #[.int .i64 (-1), .int .i64 0, .int .i64 1, .int .i64 1500, .int .i64 1501] 3 (0, 0)) := heap_alloc_new _ _
            have hbA : Below wv38.heap.size wv38 (wv38.alloc (.cells #[.int .i64 (-1), .int .i64 0, .int .i64 1, .int .i64 1500, .int .i64 1501] 3)) := bel_one _ _
            have hRo : R < wv38.heap.size := by omega
            have hsz : wv38.heap.size < (wv38.alloc (.cells #[.int .i64 (-1), .int .i64 0, .int .i64 1, .int .i64 1500, .int .i64 1501] 3)).heap.size := by simp
            have neo : wv38.heap.size ≠ R := by omega
            replace HX := hide (show (wv38.alloc (.cells #[.int .i64 (-1), .int .i64 0, .int .i64 1, .int .i64 1500, .int .i64 1501] 3)).heap[B]? = some (.cells #[.int .i64 c0, .int .i64 c1, .int .i64 c2, .int .i64 c3, .int .i64 c4, .int .i64 c5, .int .i64 c6, .int .i64 c7, .int .i64 c8] 35 (0, 0)) from (hbA.block _ ltB).trans (unhide HX))
            replace HR := hide (show (wv38.alloc (.cells #[.int .i64 (-1), .int .i64 0, .int .i64 1, .int .i64 1500, .int .i64 1501] 3)).heap[w.heap.size]? = some (.cells #[.int .i64 0, .int .i64 0, .int .i64 0, .int .i64 0, .int .i64 0, .int .i64 0, .int .i64 0, .int .i64 0, .int .i64 0] 35 (0, 0)) from (hbA.block _ ltR).trans (unhide HR))
            replace HK := hide (show Kp R w (wv38.alloc (.cells #[.int .i64 (-1), .int .i64 0, .int .i64 1, .int .i64 1500, .int .i64 1501] 3)) from (unhide HK).trans (Kp.of_bel (by omega) hbA))
            replace HD := hide (show Rd R (wv38.alloc (.cells #[.int .i64 (-1), .int .i64 0, .int .i64 1, .int .i64 1500, .int .i64 1501] 3)) a len cap (p1 + 1 + 1 + 1 + 1) from (unhide HD).kp (by omega) hbA)
            have HS := hide hS
            clear ltB ltR hbA hS
            generalize (wv38.alloc (.cells #[.int .i64 (-1), .int .i64 0, .int .i64 1, .int .i64 1500, .int .i64 1501] 3)) = wv42 at HX HR HK HD HS hsz ⊢
            have ltB : B < wv42.heap.size := heap_lt (unhide HX)
            have ltR : w.heap.size < wv42.heap.size := heap_lt (unhide HR)
            clear qx0 qf0 rx0 rf0 qx1 qf1 rx1 rf1 qx2 qf2 rx2 rf2 qx3 qf3 rx3 rf3 qx4 qf4 rx4 rf4 qx5 qf5 rx5 rf5 qx6 qf6 rx6 rf6 qx7 qf7 rx7 rf7 qx8 qf8 rx8 rf8
            refine (pick_any R a len cap (p1 + 1 + 1 + 1 + 1) 5 _ (by decide) (by decide) (unhide HD)).mono ?_
            rintro e' wv43 ⟨x9, rfl, x9l, x9u, k9, r9⟩
            replace HX := hide (show wv43.heap[B]? = some (.cells #[.int .i64 c0, .int .i64 c1, .int .i64 c2, .int .i64 c3, .int .i64 c4, .int .i64 c5, .int .i64 c6, .int .i64 c7, .int .i64 c8] 35 (0, 0)) from (k9.all _ ltB (by omega)).trans (unhide HX))
            replace HR := hide (show wv43.heap[w.heap.size]? = some (.cells #[.int .i64 0, .int .i64 0, .int .i64 0, .int .i64 0, .int .i64 0, .int .i64 0, .int .i64 0, .int .i64 0, .int .i64 0] 35 (0, 0)) from (k9.all _ ltR (by omega)).trans (unhide HR))
            replace HK := hide ((unhide HK).trans k9)
            replace HD := hide (r9 (by omega))
            have hS9 := (k9.all _ hsz neo).trans (unhide HS)
            clear k9 r9 ltB ltR
            have ltB : B < wv43.heap.size := heap_lt (unhide HX)
            have ltR : w.heap.size < wv43.heap.size := heap_lt (unhide HR)
            obtain ⟨qx0, qf0⟩ := cells_blk (n := 0) (unhide HX) 0
            obtain ⟨qx1, qf1⟩ := cells_blk (n := 0) (unhide HX) 1
            obtain ⟨qx2, qf2⟩ := cells_blk (n := 0) (unhide HX) 2
            obtain ⟨qx3, qf3⟩ := cells_blk (n := 0) (unhide HX) 3
            obtain ⟨qx4, qf4⟩ := cells_blk (n := 0) (unhide HX) 4
            obtain ⟨qx5, qf5⟩ := cells_blk (n := 0) (unhide HX) 5
            obtain ⟨qx6, qf6⟩ := cells_blk (n := 0) (unhide HX) 6
            obtain ⟨qx7, qf7⟩ := cells_blk (n := 0) (unhide HX) 7
            obtain ⟨qx8, qf8⟩ := cells_blk (n := 0) (unhide HX) 8
            simp only [gA, gZ, gS] at qx0 qx1 qx2 qx3 qx4 qx5 qx6 qx7 qx8
            obtain ⟨rx0, rf0⟩ := cells_blk (n := 0) (unhide HR) 0
            obtain ⟨rx1, rf1⟩ := cells_blk (n := 0) (unhide HR) 1
            obtain ⟨rx2, rf2⟩ := cells_blk (n := 0) (unhide HR) 2
            obtain ⟨rx3, rf3⟩ := cells_blk (n := 0) (unhide HR) 3
            obtain ⟨rx4, rf4⟩ := cells_blk (n := 0) (unhide HR) 4
            obtain ⟨rx5, rf5⟩ := cells_blk (n := 0) (unhide HR) 5
            obtain ⟨rx6, rf6⟩ := cells_blk (n := 0) (unhide HR) 6
            obtain ⟨rx7, rf7⟩ := cells_blk (n := 0) (unhide HR) 7
            obtain ⟨rx8, rf8⟩ := cells_blk (n := 0) (unhide HR) 8
            simp only [gA, gZ, gS] at rx0 rx1 rx2 rx3 rx4 rx5 rx6 rx7 rx8
            obtain ⟨t9, hz9, ht9a, ht9b⟩ := elm1_0_1_1500_1501_ x9 x9l (by omega)
            have hc9 := (cells_blk (n := 0) hS9 x9.toNat).1.trans hz9
            have hix1 : ¬ x9 < 0 := by omega
            have hix2 : x9.toNat < 5 := by omega
            have hix3 : x9 < 5 := by omega
            clear hS9 HS
            go_wp2
            refine bodyPost_ret (v := .agg #[.int .i64 c0, .int .i64 c1, .int .i64 c2, .int .i64 t9, .int .i64 c4, .int .i64 c5, .int .i64 c6, .int .i64 c7, .int .i64 c8]) (by simp (maxDischargeDepth := 9) [results, Try.results31, go_sem, *]) rfl ?_
            exact ⟨_, _, _, _, _, _, _, _, _, rfl, (kp_setB (kp_setB (kp_setB (kp_setB (kp_setB (kp_setB (kp_setB (kp_setB (kp_setB (kp_setB (o := 3) (unhide HK) hRB hwB) hR0 (Nat.le_refl _)) hR0 (Nat.le_refl _)) hR0 (Nat.le_refl _)) hR0 (Nat.le_refl _)) hR0 (Nat.le_refl _)) hR0 (Nat.le_refl _)) hR0 (Nat.le_refl _)) hR0 (Nat.le_refl _)) hR0 (Nat.le_refl _)), _, (by omega), (rd_setB (rd_setB (rd_setB (rd_setB (rd_setB (rd_setB (rd_setB (rd_setB (rd_setB (rd_setB (o := 3) (unhide HD) hRB) hR0) hR0) hR0) hR0) hR0) hR0) hR0) hR0) hR0), (by omega), (unhide HW)⟩
          · go_wp2_with fail
            clear qx0 qf0 rx0 rf0 qx1 qf1 rx1 rf1 qx2 qf2 rx2 rf2 qx3 qf3 rx3 rf3 qx4 qf4 rx4 rf4 qx5 qf5 rx5 rf5 qx6 qf6 rx6 rf6 qx7 qf7 rx7 rf7 qx8 qf8 rx8 rf8
            refine (pick_any R a len cap (p1 + 1 + 1 + 1 + 1) 5 _ (by decide) (by decide) (unhide HD)).mono ?_
            rintro e' wv44 ⟨x7, rfl, x7l, x7u, k9, r9⟩
            replace HX := hide (show wv44.heap[B]? = some (.cells #[.int .i64 c0, .int .i64 c1, .int .i64 c2, .int .i64 c3, .int .i64 c4, .int .i64 c5, .int .i64 c6, .int .i64 c7, .int .i64 c8] 35 (0, 0)) from (k9.all _ ltB (by omega)).trans (unhide HX))
            replace HR := hide (show wv44.heap[w.heap.size]? = some (.cells #[.int .i64 0, .int .i64 0, .int .i64 0, .int .i64 0, .int .i64 0, .int .i64 0, .int .i64 0, .int .i64 0, .int .i64 0] 35 (0, 0)) from (k9.all _ ltR (by omega)).trans (unhide HR))
            replace HK := hide ((unhide HK).trans k9)
            replace HD := hide (r9 (by omega))
            clear k9 r9 ltB ltR
            have ltB : B < wv44.heap.size := heap_lt (unhide HX)
            have ltR : w.heap.size < wv44.heap.size := heap_lt (unhide HR)
            obtain ⟨qx0, qf0⟩ := cells_blk (n := 0) (unhide HX) 0
            obtain ⟨qx1, qf1⟩ := cells_blk (n := 0) (unhide HX) 1
            obtain ⟨qx2, qf2⟩ := cells_blk (n := 0) (unhide HX) 2
            obtain ⟨qx3, qf3⟩ := cells_blk (n := 0) (unhide HX) 3
            obtain ⟨qx4, qf4⟩ := cells_blk (n := 0) (unhide HX) 4
            obtain ⟨qx5, qf5⟩ := cells_blk (n := 0) (unhide HX) 5
            obtain ⟨qx6, qf6⟩ := cells_blk (n := 0) (unhide HX) 6
            obtain ⟨qx7, qf7⟩ := cells_blk (n := 0) (unhide HX) 7
            obtain ⟨qx8, qf8⟩ := cells_blk (n := 0) (unhide HX) 8
            simp only [gA, gZ, gS] at qx0 qx1 qx2 qx3 qx4 qx5 qx6 qx7 qx8
            obtain ⟨rx0, rf0⟩ := cells_blk (n := 0) (unhide HR) 0
            obtain ⟨rx1, rf1⟩ := cells_blk (n := 0) (unhide HR) 1
            obtain ⟨rx2, rf2⟩ := cells_blk (n := 0) (unhide HR) 2
            obtain ⟨rx3, rf3⟩ := cells_blk (n := 0) (unhide HR) 3
            obtain ⟨rx4, rf4⟩ := cells_blk (n := 0) (unhide HR) 4
            obtain ⟨rx5, rf5⟩ := cells_blk (n := 0) (unhide HR) 5
            obtain ⟨rx6, rf6⟩ := cells_blk (n := 0) (unhide HR) 6
            obtain ⟨rx7, rf7⟩ := cells_blk (n := 0) (unhide HR) 7
            obtain ⟨rx8, rf8⟩ := cells_blk (n := 0) (unhide HR) 8
            simp only [gA, gZ, gS] at rx0 rx1 rx2 rx3 rx4 rx5 rx6 rx7 rx8
            go_wp2
            refine bodyPost_ret (v := .agg #[.int .i64 c0, .int .i64 c1, .int .i64 c2, .int .i64 c3, .int .i64 x7, .int .i64 c5, .int .i64 c6, .int .i64 c7, .int .i64 c8]) (by simp (maxDischargeDepth := 9) [results, Try.results31, go_sem, *]) rfl ?_
            exact ⟨_, _, _, _, _, _, _, _, _, rfl, (kp_setB (kp_setB (kp_setB (kp_setB (kp_setB (kp_setB (kp_setB (kp_setB (kp_setB (kp_setB (o := 4) (unhide HK) hRB hwB) hR0 (Nat.le_refl _)) hR0 (Nat.le_refl _)) hR0 (Nat.le_refl _)) hR0 (Nat.le_refl _)) hR0 (Nat.le_refl _)) hR0 (Nat.le_refl _)) hR0 (Nat.le_refl _)) hR0 (Nat.le_refl _)) hR0 (Nat.le_refl _)), _, (by omega), (rd_setB (rd_setB (rd_setB (rd_setB (rd_setB (rd_setB (rd_setB (rd_setB (rd_setB (rd_setB (o := 4) (unhide HD) hRB) hR0) hR0) hR0) hR0) hR0) hR0) hR0) hR0) hR0), (by omega), (unhide HW)⟩
          · go_wp2_with fail
            clear qx0 qf0 rx0 rf0 qx1 qf1 rx1 rf1 qx2 qf2 rx2 rf2 qx3 qf3 rx3 rf3 qx4 qf4 rx4 rf4 qx5 qf5 rx5 rf5 qx6 qf6 rx6 rf6 qx7 qf7 rx7 rf7 qx8 qf8 rx8 rf8
            refine (agg_any R a len cap (p1 + 1 + 1 + 1 + 1) 1 _ (by decide) (by decide) (by omega) (by omega) (unhide HD)).mono ?_
            rintro e' wv45 ⟨n9, m9, l9, t9, rfl, _, _, _, _, k9, p9, hp9, r9⟩
            replace HX := hide (show wv45.heap[B]? = some (.cells #[.int .i64 c0, .int .i64 c1, .int .i64 c2, .int .i64 c3, .int .i64 c4, .int .i64 c5, .int .i64 c6, .int .i64 c7, .int .i64 c8] 35 (0, 0)) from (k9.all _ ltB (by omega)).trans (unhide HX))
            replace HR := hide (show wv45.heap[w.heap.size]? = some (.cells #[.int .i64 0, .int .i64 0, .int .i64 0, .int .i64 0, .int .i64 0, .int .i64 0, .int .i64 0, .int .i64 0, .int .i64 0] 35 (0, 0)) from (k9.all _ ltR (by omega)).trans (unhide HR))
            replace HK := hide ((unhide HK).trans k9)
            replace HD := hide r9
            clear k9 r9 ltB ltR
            have ltB : B < wv45.heap.size := heap_lt (unhide HX)
            have ltR : w.heap.size < wv45.heap.size := heap_lt (unhide HR)
            obtain ⟨qx0, qf0⟩ := cells_blk (n := 0) (unhide HX) 0
            obtain ⟨qx1, qf1⟩ := cells_blk (n := 0) (unhide HX) 1
            obtain ⟨qx2, qf2⟩ := cells_blk (n := 0) (unhide HX) 2
            obtain ⟨qx3, qf3⟩ := cells_blk (n := 0) (unhide HX) 3
            obtain ⟨qx4, qf4⟩ := cells_blk (n := 0) (unhide HX) 4
            obtain ⟨qx5, qf5⟩ := cells_blk (n := 0) (unhide HX) 5
            obtain ⟨qx6, qf6⟩ := cells_blk (n := 0) (unhide HX) 6
            obtain ⟨qx7, qf7⟩ := cells_blk (n := 0) (unhide HX) 7
            obtain ⟨qx8, qf8⟩ := cells_blk (n := 0) (unhide HX) 8
            simp only [gA, gZ, gS] at qx0 qx1 qx2 qx3 qx4 qx5 qx6 qx7 qx8
            obtain ⟨rx0, rf0⟩ := cells_blk (n := 0) (unhide HR) 0
            obtain ⟨rx1, rf1⟩ := cells_blk (n := 0) (unhide HR) 1
            obtain ⟨rx2, rf2⟩ := cells_blk (n := 0) (unhide HR) 2
            obtain ⟨rx3, rf3⟩ := cells_blk (n := 0) (unhide HR) 3
            obtain ⟨rx4, rf4⟩ := cells_blk (n := 0) (unhide HR) 4
            obtain ⟨rx5, rf5⟩ := cells_blk (n := 0) (unhide HR) 5
            obtain ⟨rx6, rf6⟩ := cells_blk (n := 0) (unhide HR) 6
            obtain ⟨rx7, rf7⟩ := cells_blk (n := 0) (unhide HR) 7
            obtain ⟨rx8, rf8⟩ := cells_blk (n := 0) (unhide HR) 8
            simp only [gA, gZ, gS] at rx0 rx1 rx2 rx3 rx4 rx5 rx6 rx7 rx8
            go_wp2
            refine bodyPost_ret (v := .agg #[.int .i64 c0, .int .i64 c1, .int .i64 c2, .int .i64 c3, .int .i64 c4, .int .i64 n9, .int .i64 m9, .int .i64 l9, .int .i64 t9]) (by simp (maxDischargeDepth := 9) [results, Try.results31, go_sem, *]) rfl ?_
            exact ⟨_, _, _, _, _, _, _, _, _, rfl, (kp_setB (kp_setB (kp_setB (kp_setB (kp_setB (kp_setB (kp_setB (kp_setB (kp_setB (kp_setB (o := 8) (kp_setB (o := 7) (kp_setB (o := 6) (kp_setB (o := 5) (unhide HK) hRB hwB) hRB hwB) hRB hwB) hRB hwB) hR0 (Nat.le_refl _)) hR0 (Nat.le_refl _)) hR0 (Nat.le_refl _)) hR0 (Nat.le_refl _)) hR0 (Nat.le_refl _)) hR0 (Nat.le_refl _)) hR0 (Nat.le_refl _)) hR0 (Nat.le_refl _)) hR0 (Nat.le_refl _)), _, (by omega), (rd_setB (rd_setB (rd_setB (rd_setB (rd_setB (rd_setB (rd_setB (rd_setB (rd_setB (rd_setB (o := 8) (rd_setB (o := 7) (rd_setB (o := 6) (rd_setB (o := 5) (unhide HD) hRB) hRB) hRB) hRB) hR0) hR0) hR0) hR0) hR0) hR0) hR0) hR0) hR0), (by omega), (unhide HW)⟩
end Go.Proofs.Ytblmhpngaccllaa
