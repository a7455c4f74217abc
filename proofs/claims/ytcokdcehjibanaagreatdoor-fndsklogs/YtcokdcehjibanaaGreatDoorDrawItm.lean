/- Proved here: an item is drawn, with something wrong in it or not. -/
import Derived.Test.YtcokdcehjibanaaGreatDoorDrawInv
import Derived.Test.YtcokdcehjibanaaGreatDoorDraw3
import Derived.Deep.DeepCutAuto
import Derived.Deep.CutBlock
import Derived.Lib.SmallJoins
import Derived.RangeFuncRecord
namespace Go.Proofs.YtcokdcehjibanaaGreatDoor
open Go.ChangeShapes Go.WideShapes Go.ChangeAt Go.RowKit
set_option linter.unusedVariables false

theorem Rd.kpS {R : Nat} {w w' : World} {a : Option Addr} {len cap p : Nat} (h : Rd R w a len cap p) (hR : R < w.heap.size) (hb : Below (R + 1) w w') : Rd R w' a len cap p := h.up hb

set_option linter.unusedSimpArgs false
/-- What a drawn item is. -/
def ItmP (R : Nat) (w : World) (a : Option Addr) (len cap p : Nat) (e : Ending) (w' : World) : Prop := ∃ q t k v n : Int, e = .returned (.agg #[.int .i64 q, .int .i64 t, .int .i64 k, .int .i64 v, .int .i64 n]) ∧ Kp R w w' ∧ ∃ p', p' ≤ p + 12 ∧ Rd R w' a len cap p'
/-- An item while it is drawn: the result's box, its own. -/
structure ItI (R : Nat) (w W : World) (a : Option Addr) (len cap p X : Nat) (q t k v n : Int) : Prop where
  Z : W.heap[w.heap.size]? = some (.cells #[.int .i64 0, .int .i64 0, .int .i64 0, .int .i64 0, .int .i64 0] 45 (0, 0))
  It : W.heap[X]? = some (.cells #[.int .i64 q, .int .i64 t, .int .i64 k, .int .i64 v, .int .i64 n] 45 (0, 0))
  nX : w.heap.size < X
  K : Kp R w W
  D : Rd R W a len cap p
theorem ItI.kp {R X : Nat} {w W : World} {a : Option Addr} {len cap p : Nat} {q t k v n : Int} {W2 : World} {p2 : Nat} (h : ItI R w W a len cap p X q t k v n) (hR : R < w.heap.size) (k9 : Kp R W W2) (d : Rd R W2 a len cap p2) : ItI R w W2 a len cap p2 X q t k v n :=
  ⟨(k9.all _ (heap_lt h.Z) (by omega)).trans h.Z, (k9.all _ (heap_lt h.It) (by have := h.nX; omega)).trans h.It, h.nX, h.K.trans k9, d⟩
theorem ItI.bel {R X : Nat} {w W : World} {a : Option Addr} {len cap p : Nat} {q t k v n : Int} {W2 : World} (h : ItI R w W a len cap p X q t k v n) (hR : R < w.heap.size) (hb : Below W.heap.size W W2) : ItI R w W2 a len cap p X q t k v n :=
  h.kp hR (Kp.of_bel (by have := h.K.low.size; omega) hb) (h.D.kp (by have := h.K.low.size; omega) hb)
theorem ItI.set {R X : Nat} {w W : World} {a : Option Addr} {len cap p : Nat} {q t k v n : Int} {q2 t2 k2 v2 n2 : Int} (h : ItI R w W a len cap p X q t k v n) (hR : R < w.heap.size) (o : Nat) (u : Value) (hx : (#[.int .i64 q, .int .i64 t, .int .i64 k, .int .i64 v, .int .i64 n] : Array Value).setIfInBounds o u = #[.int .i64 q2, .int .i64 t2, .int .i64 k2, .int .i64 v2, .int .i64 n2]) : ItI R w (W.setCell ⟨X, o, none⟩ u) a len cap p X q2 t2 k2 v2 n2 :=
  ⟨(Below.heap_setCell _ _ _ _ (by have := h.nX; show _ ≠ X; omega)).trans h.Z, by have h9 := Joins.block_setCell (i := o) h.It u; rw [hx] at h9; exact h9, h.nX, kp_setB h.K (by have := h.nX; omega) (by have := h.nX; omega), rd_setB h.D (by have := h.nX; omega)⟩
theorem ItI.done {R X : Nat} {w W : World} {a : Option Addr} {len cap p : Nat} {q t k v n : Int} {p0 : Nat} (h : ItI R w W a len cap p X q t k v n) (hR : R < w.heap.size) (hp : p ≤ p0 + 12) : ItmP R w a len cap p0 (.returned (.agg #[.int .i64 q, .int .i64 t, .int .i64 k, .int .i64 v, .int .i64 n])) (((((W.setCell ⟨w.heap.size, 0, none⟩ (.int .i64 q)).setCell ⟨w.heap.size, 1, none⟩ (.int .i64 t)).setCell ⟨w.heap.size, 2, none⟩ (.int .i64 k)).setCell ⟨w.heap.size, 3, none⟩ (.int .i64 v)).setCell ⟨w.heap.size, 4, none⟩ (.int .i64 n)) :=
  ⟨q, t, k, v, n, rfl, kp_setB (kp_setB (kp_setB (kp_setB (kp_setB h.K hR (Nat.le_refl _)) hR (Nat.le_refl _)) hR (Nat.le_refl _)) hR (Nat.le_refl _)) hR (Nat.le_refl _), p, hp, rd_setB (rd_setB (rd_setB (rd_setB (rd_setB h.D hR) hR) hR) hR) hR⟩
theorem pickL {W : World} {Y y : Nat} (l : List Int) (h : W.heap[Y]? = some (.cells (l.map (Value.int .i64)).toArray 3 (0, 0))) (hy : y < l.length) : ∃ t : Int, W.cell? ⟨Y, y, none⟩ = some (.int .i64 t) := by
  refine ⟨l[y], ?_⟩
  rw [Joins.cell_of_block h y]
  simp [List.getElem?_eq_getElem hy]
set_option maxRecDepth 100000 in
set_option maxHeartbeats 8000000 in
theorem item_any (R : Nat) (a : Option Addr) (len cap p : Nat) (n : Int) (w : World) (hn : 1 ≤ n) (hn2 : n ≤ 100000) (hp : p ≤ 700000) (hR : R < w.heap.size) (h : Rd R w a len cap p) : Calls Tryz.prog 29 #[.pointer (some ⟨R, 0, none⟩), .int .i64 n] w fun e w' => ItmP R w a len cap p e w' := by
  have hb0 : Below w.heap.size w (w.alloc (.cells #[.int .i64 0, .int .i64 0, .int .i64 0, .int .i64 0, .int .i64 0] 45)) := bel_one _ _
  have eZ : (w.alloc (.cells #[.int .i64 0, .int .i64 0, .int .i64 0, .int .i64 0, .int .i64 0] 45)).heap[w.heap.size]? = some (.cells #[.int .i64 0, .int .i64 0, .int .i64 0, .int .i64 0, .int .i64 0] 45 (0, 0)) := (by have h9 := World.alloc_heap_new w (.cells #[.int .i64 0, .int .i64 0, .int .i64 0, .int .i64 0, .int .i64 0] 45); exact h9)
  have hz : (w.alloc (.cells #[.int .i64 0, .int .i64 0, .int .i64 0, .int .i64 0, .int .i64 0] 45)).heap.size = w.heap.size + 1 := by simp
  go_enter Tryz.func29, Tryz.ntmps29
  go_wp2_with fail
  refine (rec_any R a len cap p _ (by omega) (by rw [hz]; omega) (h.kp hR hb0)).mono ?_
  rintro e' w1 ⟨t, k, v, rfl, bt, bk, bv, k9, r9⟩
  have fZ := (k9.all w.heap.size (by rw [hz]; omega) (by omega)).trans eZ
  have z1 := k9.low.size
  rw [hz] at z1
  have HK := hide ((Kp.of_bel (Nat.le_of_lt hR) hb0).trans k9)
  have HZ := hide fZ
  have HD := hide r9
  have HX := hide (World.alloc_heap_new w1 (.cells #[.int .i64 1, .int .i64 t, .int .i64 k, .int .i64 v, .int .i64 0] 45))
  clear eZ hb0 hz h k9 r9 fZ
  go_wp2_with fail
  have HI : Hid (ItI R w (w1.alloc (.cells #[.int .i64 1, .int .i64 t, .int .i64 k, .int .i64 v, .int .i64 0] 45)) a len cap (p + 4) w1.heap.size 1 t k v 0) := hide (by
    have hRw : R < w1.heap.size := by omega
    exact ⟨(Below.heap_alloc w1 _ _ (by omega)).trans (unhide HZ), unhide HX, by omega, (unhide HK).trans (Kp.of_bel (Nat.le_of_lt hRw) (bel_one _ _)), (unhide HD).kp hRw (bel_one _ _)⟩)
  clear HK HZ HD HX z1
  generalize w1.heap.size = X at HI ⊢
  generalize w1.alloc (.cells #[.int .i64 1, .int .i64 t, .int .i64 k, .int .i64 v, .int .i64 0] 45) = w2 at HI ⊢
  refine (pick_any R a len cap (p + 4) 4 _ (by decide) (by decide) (unhide HI).D).mono ?_
  rintro e' w3 ⟨y, rfl, yl, yu, k9, r9⟩
  have H3 := hide ((unhide HI).kp hR k9 (r9 (by omega)))
  clear HI k9 r9
  by_cases h0 : y = 0
  · subst h0
    go_wp2_with fail
    have HA := hide ((unhide H3).bel hR (bel_one w3 (.cells #[.int .i64 1, .int .i64 10, .int .i64 60, .int .i64 1000] 3)))
    have hYA : (w3.alloc (.cells #[.int .i64 1, .int .i64 10, .int .i64 60, .int .i64 1000] 3)).heap[w3.heap.size]? = some (.cells #[.int .i64 1, .int .i64 10, .int .i64 60, .int .i64 1000] 3 (0, 0)) := World.alloc_heap_new w3 _
    have neY : w3.heap.size ≠ R := by have := (unhide H3).K.low.size; omega
    clear H3
    generalize w3.heap.size = Y at hYA neY ⊢
    generalize w3.alloc (.cells #[.int .i64 1, .int .i64 10, .int .i64 60, .int .i64 1000] 3) = wl at HA hYA ⊢
    refine (pick_any R a len cap (p + 4 + 1) 4 _ (by decide) (by decide) (unhide HA).D).mono ?_
    rintro e' w4 ⟨y9, rfl, y9l, y9u, k9, r9⟩
    obtain ⟨y8, rfl⟩ := Int.eq_ofNat_of_zero_le y9l
    have y8u : y8 < 4 := by omega
    have H4 := hide ((unhide HA).kp hR k9 (r9 (by omega)))
    have hYB := (k9.all Y (heap_lt hYA) neY).trans hYA
    obtain ⟨t9, ht9⟩ := pickL [1, 10, 60, 1000] hYB y8u
    have zY : Y < w4.heap.size := heap_lt hYB
    clear HA k9 r9 hYA hYB y9l
    have xc0 := Joins.cell_of_block (unhide H4).It 0
    have xc1 := Joins.cell_of_block (unhide H4).It 1
    have xc2 := Joins.cell_of_block (unhide H4).It 2
    have xc3 := Joins.cell_of_block (unhide H4).It 3
    have xc4 := Joins.cell_of_block (unhide H4).It 4
    have zc0 := Joins.cell_of_block (unhide H4).Z 0
    have zc1 := Joins.cell_of_block (unhide H4).Z 1
    have zc2 := Joins.cell_of_block (unhide H4).Z 2
    have zc3 := Joins.cell_of_block (unhide H4).Z 3
    have zc4 := Joins.cell_of_block (unhide H4).Z 4
    simp only [List.getElem?_toArray, List.getElem?_cons_zero, List.getElem?_cons_succ] at xc0 xc1 xc2 xc3 xc4 zc0 zc1 zc2 zc3 zc4
    have xf0 : w4.frozen? ⟨X, 0, none⟩ = false := by simp [World.frozen?, (unhide H4).It]
    have zf0 : w4.frozen? ⟨w.heap.size, 0, none⟩ = false := by simp [World.frozen?, (unhide H4).Z]
    have xf1 : w4.frozen? ⟨X, 1, none⟩ = false := by simp [World.frozen?, (unhide H4).It]
    have zf1 : w4.frozen? ⟨w.heap.size, 1, none⟩ = false := by simp [World.frozen?, (unhide H4).Z]
    have xf2 : w4.frozen? ⟨X, 2, none⟩ = false := by simp [World.frozen?, (unhide H4).It]
    have zf2 : w4.frozen? ⟨w.heap.size, 2, none⟩ = false := by simp [World.frozen?, (unhide H4).Z]
    have xf3 : w4.frozen? ⟨X, 3, none⟩ = false := by simp [World.frozen?, (unhide H4).It]
    have zf3 : w4.frozen? ⟨w.heap.size, 3, none⟩ = false := by simp [World.frozen?, (unhide H4).Z]
    have xf4 : w4.frozen? ⟨X, 4, none⟩ = false := by simp [World.frozen?, (unhide H4).It]
    have zf4 : w4.frozen? ⟨w.heap.size, 4, none⟩ = false := by simp [World.frozen?, (unhide H4).Z]
    have xz : X < w4.heap.size := heap_lt (unhide H4).It
    have zz : w.heap.size < w4.heap.size := heap_lt (unhide H4).Z
    go_upto_region 7 with fail
    clear xc0 xf0 xc1 xf1 xc2 xf2 xc3 xf3 xc4 xf4 xz zc0 zf0 zc1 zf1 zc2 zf2 zc3 zf3 zc4 zf4 zz ht9 zY
    have H5 : Hid (ItI R w (((((w4.setCell ⟨X, 0, none⟩ (.int .i64 2)).setCell ⟨X, 1, none⟩ (.int .i64 t9)).setCell ⟨X, 2, none⟩ (.int .i64 0)).setCell ⟨X, 3, none⟩ (.int .i64 0)).setCell ⟨X, 4, none⟩ (.int .i64 0)) a len cap (p + 4 + 1 + 1) X 2 t9 0 0 0) := hide ((((((unhide H4).set (q2 := 2) (t2 := t) (k2 := k) (v2 := v) (n2 := 0) hR 0 (.int .i64 2) rfl).set (q2 := 2) (t2 := t9) (k2 := k) (v2 := v) (n2 := 0) hR 1 (.int .i64 t9) rfl).set (q2 := 2) (t2 := t9) (k2 := 0) (v2 := v) (n2 := 0) hR 2 (.int .i64 0) rfl).set (q2 := 2) (t2 := t9) (k2 := 0) (v2 := 0) (n2 := 0) hR 3 (.int .i64 0) rfl).set (q2 := 2) (t2 := t9) (k2 := 0) (v2 := 0) (n2 := 0) hR 4 (.int .i64 0) rfl)
    clear H4
    generalize (((((w4.setCell ⟨X, 0, none⟩ (.int .i64 2)).setCell ⟨X, 1, none⟩ (.int .i64 t9)).setCell ⟨X, 2, none⟩ (.int .i64 0)).setCell ⟨X, 3, none⟩ (.int .i64 0)).setCell ⟨X, 4, none⟩ (.int .i64 0)) = w9 at H5 ⊢
    go_wp2_with fail
    refine (pick_any R a len cap (p + 4 + 1 + 1) n _ hn hn2 (unhide H5).D).mono ?_
    rintro e' w5 ⟨y2, rfl, y2l, y2u, k9, r9⟩
    have H7 := hide ((unhide H5).kp hR k9 (r9 (by omega)))
    clear H5 k9 r9
    by_cases hy : 0 < y2
    · have hy1 : decide (0 < y2) = true := decide_eq_true hy
      have xc0 := Joins.cell_of_block (unhide H7).It 0
      have xc1 := Joins.cell_of_block (unhide H7).It 1
      have xc2 := Joins.cell_of_block (unhide H7).It 2
      have xc3 := Joins.cell_of_block (unhide H7).It 3
      have xc4 := Joins.cell_of_block (unhide H7).It 4
      have zc0 := Joins.cell_of_block (unhide H7).Z 0
      have zc1 := Joins.cell_of_block (unhide H7).Z 1
      have zc2 := Joins.cell_of_block (unhide H7).Z 2
      have zc3 := Joins.cell_of_block (unhide H7).Z 3
      have zc4 := Joins.cell_of_block (unhide H7).Z 4
      simp only [List.getElem?_toArray, List.getElem?_cons_zero, List.getElem?_cons_succ] at xc0 xc1 xc2 xc3 xc4 zc0 zc1 zc2 zc3 zc4
      have xf0 : w5.frozen? ⟨X, 0, none⟩ = false := by simp [World.frozen?, (unhide H7).It]
      have zf0 : w5.frozen? ⟨w.heap.size, 0, none⟩ = false := by simp [World.frozen?, (unhide H7).Z]
      have xf1 : w5.frozen? ⟨X, 1, none⟩ = false := by simp [World.frozen?, (unhide H7).It]
      have zf1 : w5.frozen? ⟨w.heap.size, 1, none⟩ = false := by simp [World.frozen?, (unhide H7).Z]
      have xf2 : w5.frozen? ⟨X, 2, none⟩ = false := by simp [World.frozen?, (unhide H7).It]
      have zf2 : w5.frozen? ⟨w.heap.size, 2, none⟩ = false := by simp [World.frozen?, (unhide H7).Z]
      have xf3 : w5.frozen? ⟨X, 3, none⟩ = false := by simp [World.frozen?, (unhide H7).It]
      have zf3 : w5.frozen? ⟨w.heap.size, 3, none⟩ = false := by simp [World.frozen?, (unhide H7).Z]
      have xf4 : w5.frozen? ⟨X, 4, none⟩ = false := by simp [World.frozen?, (unhide H7).It]
      have zf4 : w5.frozen? ⟨w.heap.size, 4, none⟩ = false := by simp [World.frozen?, (unhide H7).Z]
      have xz : X < w5.heap.size := heap_lt (unhide H7).It
      have zz : w.heap.size < w5.heap.size := heap_lt (unhide H7).Z
      go_wp2
      refine bodyPost_ret (v := .agg #[.int .i64 2, .int .i64 t9, .int .i64 0, .int .i64 0, .int .i64 0]) (by simp (maxDischargeDepth := 9) [results, Tryz.results29, go_sem, *]) rfl ?_
      exact (unhide H7).done (p0 := p) hR (by omega)
    · have hy1 : decide (0 < y2) = false := decide_eq_false hy
      go_wp2_with fail
      have HA := hide ((unhide H7).bel hR (bel_one w5 (.cells #[.int .i64 (-1), .int .i64 0, .int .i64 61, .int .i64 4, .int .i64 10, .int .i64 1000, .int .i64 901] 3)))
      have hYA : (w5.alloc (.cells #[.int .i64 (-1), .int .i64 0, .int .i64 61, .int .i64 4, .int .i64 10, .int .i64 1000, .int .i64 901] 3)).heap[w5.heap.size]? = some (.cells #[.int .i64 (-1), .int .i64 0, .int .i64 61, .int .i64 4, .int .i64 10, .int .i64 1000, .int .i64 901] 3 (0, 0)) := World.alloc_heap_new w5 _
      have neY : w5.heap.size ≠ R := by have := (unhide H7).K.low.size; omega
      clear H7
      generalize w5.heap.size = Y at hYA neY ⊢
      generalize w5.alloc (.cells #[.int .i64 (-1), .int .i64 0, .int .i64 61, .int .i64 4, .int .i64 10, .int .i64 1000, .int .i64 901] 3) = wl at HA hYA ⊢
      refine (pick_any R a len cap (p + 4 + 1 + 1 + 1) 7 _ (by decide) (by decide) (unhide HA).D).mono ?_
      rintro e' w6 ⟨y6, rfl, y6l, y6u, k9, r9⟩
      obtain ⟨y7, rfl⟩ := Int.eq_ofNat_of_zero_le y6l
      have y7u : y7 < 7 := by omega
      have H8 := hide ((unhide HA).kp hR k9 (r9 (by omega)))
      have hYB := (k9.all Y (heap_lt hYA) neY).trans hYA
      obtain ⟨t8, ht8⟩ := pickL [-1, 0, 61, 4, 10, 1000, 901] hYB y7u
      have zY : Y < w6.heap.size := heap_lt hYB
      clear HA k9 r9 hYA hYB y6l
      go_wp2_with fail
      clear ht8 zY
      refine (pick_any R a len cap (p + 4 + 1 + 1 + 1 + 1) 5 _ (by decide) (by decide) (unhide H8).D).mono ?_
      rintro e' w7 ⟨c, rfl, cl, cu9, k9, r9⟩
      have H9 := hide ((unhide H8).kp hR k9 (r9 (by omega)))
      clear H8 k9 r9
      have xc0 := Joins.cell_of_block (unhide H9).It 0
      have xc1 := Joins.cell_of_block (unhide H9).It 1
      have xc2 := Joins.cell_of_block (unhide H9).It 2
      have xc3 := Joins.cell_of_block (unhide H9).It 3
      have xc4 := Joins.cell_of_block (unhide H9).It 4
      have zc0 := Joins.cell_of_block (unhide H9).Z 0
      have zc1 := Joins.cell_of_block (unhide H9).Z 1
      have zc2 := Joins.cell_of_block (unhide H9).Z 2
      have zc3 := Joins.cell_of_block (unhide H9).Z 3
      have zc4 := Joins.cell_of_block (unhide H9).Z 4
      simp only [List.getElem?_toArray, List.getElem?_cons_zero, List.getElem?_cons_succ] at xc0 xc1 xc2 xc3 xc4 zc0 zc1 zc2 zc3 zc4
      have xf0 : w7.frozen? ⟨X, 0, none⟩ = false := by simp [World.frozen?, (unhide H9).It]
      have zf0 : w7.frozen? ⟨w.heap.size, 0, none⟩ = false := by simp [World.frozen?, (unhide H9).Z]
      have xf1 : w7.frozen? ⟨X, 1, none⟩ = false := by simp [World.frozen?, (unhide H9).It]
      have zf1 : w7.frozen? ⟨w.heap.size, 1, none⟩ = false := by simp [World.frozen?, (unhide H9).Z]
      have xf2 : w7.frozen? ⟨X, 2, none⟩ = false := by simp [World.frozen?, (unhide H9).It]
      have zf2 : w7.frozen? ⟨w.heap.size, 2, none⟩ = false := by simp [World.frozen?, (unhide H9).Z]
      have xf3 : w7.frozen? ⟨X, 3, none⟩ = false := by simp [World.frozen?, (unhide H9).It]
      have zf3 : w7.frozen? ⟨w.heap.size, 3, none⟩ = false := by simp [World.frozen?, (unhide H9).Z]
      have xf4 : w7.frozen? ⟨X, 4, none⟩ = false := by simp [World.frozen?, (unhide H9).It]
      have zf4 : w7.frozen? ⟨w.heap.size, 4, none⟩ = false := by simp [World.frozen?, (unhide H9).Z]
      have xz : X < w7.heap.size := heap_lt (unhide H9).It
      have zz : w.heap.size < w7.heap.size := heap_lt (unhide H9).Z
      have hc : c = 0 ∨ c = 1 ∨ c = 2 ∨ c = 3 ∨ c = 4 := by omega
      rcases hc with rfl | rfl | rfl | rfl | rfl
      · have nX9 := (unhide H9).nX
        have nX8 : ¬ w.heap.size = X := by omega
        have nX7 : ¬ X = w.heap.size := by omega
        clear y2l y2u cl cu9
        have HF := hide ((unhide H9).set (q2 := t8) (t2 := t9) (k2 := 0) (v2 := 0) (n2 := 0) hR 0 (.int .i64 t8) rfl)
        go_wp2
        refine bodyPost_ret (v := .agg #[.int .i64 t8, .int .i64 t9, .int .i64 0, .int .i64 0, .int .i64 0]) (by simp (maxDischargeDepth := 9) [results, Tryz.results29, go_sem, *]) rfl ?_
        exact (unhide HF).done (p0 := p) hR (by omega)
      · have nX9 := (unhide H9).nX
        have nX8 : ¬ w.heap.size = X := by omega
        have nX7 : ¬ X = w.heap.size := by omega
        clear y2l y2u cl cu9
        have HF := hide ((unhide H9).set (q2 := 2) (t2 := t8) (k2 := 0) (v2 := 0) (n2 := 0) hR 1 (.int .i64 t8) rfl)
        go_wp2
        refine bodyPost_ret (v := .agg #[.int .i64 2, .int .i64 t8, .int .i64 0, .int .i64 0, .int .i64 0]) (by simp (maxDischargeDepth := 9) [results, Tryz.results29, go_sem, *]) rfl ?_
        exact (unhide HF).done (p0 := p) hR (by omega)
      · have nX9 := (unhide H9).nX
        have nX8 : ¬ w.heap.size = X := by omega
        have nX7 : ¬ X = w.heap.size := by omega
        clear y2l y2u cl cu9
        have HF := hide ((unhide H9).set (q2 := 2) (t2 := t9) (k2 := t8) (v2 := 0) (n2 := 0) hR 2 (.int .i64 t8) rfl)
        go_wp2
        refine bodyPost_ret (v := .agg #[.int .i64 2, .int .i64 t9, .int .i64 t8, .int .i64 0, .int .i64 0]) (by simp (maxDischargeDepth := 9) [results, Tryz.results29, go_sem, *]) rfl ?_
        exact (unhide HF).done (p0 := p) hR (by omega)
      · have nX9 := (unhide H9).nX
        have nX8 : ¬ w.heap.size = X := by omega
        have nX7 : ¬ X = w.heap.size := by omega
        clear y2l y2u cl cu9
        have HF := hide ((unhide H9).set (q2 := 2) (t2 := t9) (k2 := 0) (v2 := t8) (n2 := 0) hR 3 (.int .i64 t8) rfl)
        go_wp2
        refine bodyPost_ret (v := .agg #[.int .i64 2, .int .i64 t9, .int .i64 0, .int .i64 t8, .int .i64 0]) (by simp (maxDischargeDepth := 9) [results, Tryz.results29, go_sem, *]) rfl ?_
        exact (unhide HF).done (p0 := p) hR (by omega)
      · have nX9 := (unhide H9).nX
        have nX8 : ¬ w.heap.size = X := by omega
        have nX7 : ¬ X = w.heap.size := by omega
        clear y2l y2u cl cu9
        have HF := hide ((unhide H9).set (q2 := 2) (t2 := t9) (k2 := 0) (v2 := 0) (n2 := t8) hR 4 (.int .i64 t8) rfl)
        go_wp2
        refine bodyPost_ret (v := .agg #[.int .i64 2, .int .i64 t9, .int .i64 0, .int .i64 0, .int .i64 t8]) (by simp (maxDischargeDepth := 9) [results, Tryz.results29, go_sem, *]) rfl ?_
        exact (unhide HF).done (p0 := p) hR (by omega)
  · have h01 : (y == 0) = false := by simp [h0]
    by_cases h1 : y = 1
    · subst h1
      go_wp2_with fail
      have HA := hide ((unhide H3).bel hR (bel_one w3 (.cells #[.int .i64 1, .int .i64 2, .int .i64 900] 3)))
      have hYA : (w3.alloc (.cells #[.int .i64 1, .int .i64 2, .int .i64 900] 3)).heap[w3.heap.size]? = some (.cells #[.int .i64 1, .int .i64 2, .int .i64 900] 3 (0, 0)) := World.alloc_heap_new w3 _
      have neY : w3.heap.size ≠ R := by have := (unhide H3).K.low.size; omega
      clear H3
      generalize w3.heap.size = Y at hYA neY ⊢
      generalize w3.alloc (.cells #[.int .i64 1, .int .i64 2, .int .i64 900] 3) = wl at HA hYA ⊢
      refine (pick_any R a len cap (p + 4 + 1) 3 _ (by decide) (by decide) (unhide HA).D).mono ?_
      rintro e' w4 ⟨y9, rfl, y9l, y9u, k9, r9⟩
      obtain ⟨y8, rfl⟩ := Int.eq_ofNat_of_zero_le y9l
      have y8u : y8 < 3 := by omega
      have H4 := hide ((unhide HA).kp hR k9 (r9 (by omega)))
      have hYB := (k9.all Y (heap_lt hYA) neY).trans hYA
      obtain ⟨t9, ht9⟩ := pickL [1, 2, 900] hYB y8u
      have zY : Y < w4.heap.size := heap_lt hYB
      clear HA k9 r9 hYA hYB y9l
      have xc0 := Joins.cell_of_block (unhide H4).It 0
      have xc1 := Joins.cell_of_block (unhide H4).It 1
      have xc2 := Joins.cell_of_block (unhide H4).It 2
      have xc3 := Joins.cell_of_block (unhide H4).It 3
      have xc4 := Joins.cell_of_block (unhide H4).It 4
      have zc0 := Joins.cell_of_block (unhide H4).Z 0
      have zc1 := Joins.cell_of_block (unhide H4).Z 1
      have zc2 := Joins.cell_of_block (unhide H4).Z 2
      have zc3 := Joins.cell_of_block (unhide H4).Z 3
      have zc4 := Joins.cell_of_block (unhide H4).Z 4
      simp only [List.getElem?_toArray, List.getElem?_cons_zero, List.getElem?_cons_succ] at xc0 xc1 xc2 xc3 xc4 zc0 zc1 zc2 zc3 zc4
      have xf0 : w4.frozen? ⟨X, 0, none⟩ = false := by simp [World.frozen?, (unhide H4).It]
      have zf0 : w4.frozen? ⟨w.heap.size, 0, none⟩ = false := by simp [World.frozen?, (unhide H4).Z]
      have xf1 : w4.frozen? ⟨X, 1, none⟩ = false := by simp [World.frozen?, (unhide H4).It]
      have zf1 : w4.frozen? ⟨w.heap.size, 1, none⟩ = false := by simp [World.frozen?, (unhide H4).Z]
      have xf2 : w4.frozen? ⟨X, 2, none⟩ = false := by simp [World.frozen?, (unhide H4).It]
      have zf2 : w4.frozen? ⟨w.heap.size, 2, none⟩ = false := by simp [World.frozen?, (unhide H4).Z]
      have xf3 : w4.frozen? ⟨X, 3, none⟩ = false := by simp [World.frozen?, (unhide H4).It]
      have zf3 : w4.frozen? ⟨w.heap.size, 3, none⟩ = false := by simp [World.frozen?, (unhide H4).Z]
      have xf4 : w4.frozen? ⟨X, 4, none⟩ = false := by simp [World.frozen?, (unhide H4).It]
      have zf4 : w4.frozen? ⟨w.heap.size, 4, none⟩ = false := by simp [World.frozen?, (unhide H4).Z]
      have xz : X < w4.heap.size := heap_lt (unhide H4).It
      have zz : w.heap.size < w4.heap.size := heap_lt (unhide H4).Z
      go_upto_region 7 with fail
      clear xc0 xf0 xc1 xf1 xc2 xf2 xc3 xf3 xc4 xf4 xz zc0 zf0 zc1 zf1 zc2 zf2 zc3 zf3 zc4 zf4 zz ht9 zY
      have H5 : Hid (ItI R w (((((w4.setCell ⟨X, 0, none⟩ (.int .i64 3)).setCell ⟨X, 1, none⟩ (.int .i64 0)).setCell ⟨X, 2, none⟩ (.int .i64 0)).setCell ⟨X, 3, none⟩ (.int .i64 0)).setCell ⟨X, 4, none⟩ (.int .i64 t9)) a len cap (p + 4 + 1 + 1) X 3 0 0 0 t9) := hide ((((((unhide H4).set (q2 := 3) (t2 := t) (k2 := k) (v2 := v) (n2 := 0) hR 0 (.int .i64 3) rfl).set (q2 := 3) (t2 := 0) (k2 := k) (v2 := v) (n2 := 0) hR 1 (.int .i64 0) rfl).set (q2 := 3) (t2 := 0) (k2 := 0) (v2 := v) (n2 := 0) hR 2 (.int .i64 0) rfl).set (q2 := 3) (t2 := 0) (k2 := 0) (v2 := 0) (n2 := 0) hR 3 (.int .i64 0) rfl).set (q2 := 3) (t2 := 0) (k2 := 0) (v2 := 0) (n2 := t9) hR 4 (.int .i64 t9) rfl)
      clear H4
      generalize (((((w4.setCell ⟨X, 0, none⟩ (.int .i64 3)).setCell ⟨X, 1, none⟩ (.int .i64 0)).setCell ⟨X, 2, none⟩ (.int .i64 0)).setCell ⟨X, 3, none⟩ (.int .i64 0)).setCell ⟨X, 4, none⟩ (.int .i64 t9)) = w9 at H5 ⊢
      go_wp2_with fail
      refine (pick_any R a len cap (p + 4 + 1 + 1) n _ hn hn2 (unhide H5).D).mono ?_
      rintro e' w5 ⟨y2, rfl, y2l, y2u, k9, r9⟩
      have H7 := hide ((unhide H5).kp hR k9 (r9 (by omega)))
      clear H5 k9 r9
      by_cases hy : 0 < y2
      · have hy1 : decide (0 < y2) = true := decide_eq_true hy
        have xc0 := Joins.cell_of_block (unhide H7).It 0
        have xc1 := Joins.cell_of_block (unhide H7).It 1
        have xc2 := Joins.cell_of_block (unhide H7).It 2
        have xc3 := Joins.cell_of_block (unhide H7).It 3
        have xc4 := Joins.cell_of_block (unhide H7).It 4
        have zc0 := Joins.cell_of_block (unhide H7).Z 0
        have zc1 := Joins.cell_of_block (unhide H7).Z 1
        have zc2 := Joins.cell_of_block (unhide H7).Z 2
        have zc3 := Joins.cell_of_block (unhide H7).Z 3
        have zc4 := Joins.cell_of_block (unhide H7).Z 4
        simp only [List.getElem?_toArray, List.getElem?_cons_zero, List.getElem?_cons_succ] at xc0 xc1 xc2 xc3 xc4 zc0 zc1 zc2 zc3 zc4
        have xf0 : w5.frozen? ⟨X, 0, none⟩ = false := by simp [World.frozen?, (unhide H7).It]
        have zf0 : w5.frozen? ⟨w.heap.size, 0, none⟩ = false := by simp [World.frozen?, (unhide H7).Z]
        have xf1 : w5.frozen? ⟨X, 1, none⟩ = false := by simp [World.frozen?, (unhide H7).It]
        have zf1 : w5.frozen? ⟨w.heap.size, 1, none⟩ = false := by simp [World.frozen?, (unhide H7).Z]
        have xf2 : w5.frozen? ⟨X, 2, none⟩ = false := by simp [World.frozen?, (unhide H7).It]
        have zf2 : w5.frozen? ⟨w.heap.size, 2, none⟩ = false := by simp [World.frozen?, (unhide H7).Z]
        have xf3 : w5.frozen? ⟨X, 3, none⟩ = false := by simp [World.frozen?, (unhide H7).It]
        have zf3 : w5.frozen? ⟨w.heap.size, 3, none⟩ = false := by simp [World.frozen?, (unhide H7).Z]
        have xf4 : w5.frozen? ⟨X, 4, none⟩ = false := by simp [World.frozen?, (unhide H7).It]
        have zf4 : w5.frozen? ⟨w.heap.size, 4, none⟩ = false := by simp [World.frozen?, (unhide H7).Z]
        have xz : X < w5.heap.size := heap_lt (unhide H7).It
        have zz : w.heap.size < w5.heap.size := heap_lt (unhide H7).Z
        go_wp2
        refine bodyPost_ret (v := .agg #[.int .i64 3, .int .i64 0, .int .i64 0, .int .i64 0, .int .i64 t9]) (by simp (maxDischargeDepth := 9) [results, Tryz.results29, go_sem, *]) rfl ?_
        exact (unhide H7).done (p0 := p) hR (by omega)
      · have hy1 : decide (0 < y2) = false := decide_eq_false hy
        go_wp2_with fail
        have HA := hide ((unhide H7).bel hR (bel_one w5 (.cells #[.int .i64 (-1), .int .i64 0, .int .i64 61, .int .i64 4, .int .i64 10, .int .i64 1000, .int .i64 901] 3)))
        have hYA : (w5.alloc (.cells #[.int .i64 (-1), .int .i64 0, .int .i64 61, .int .i64 4, .int .i64 10, .int .i64 1000, .int .i64 901] 3)).heap[w5.heap.size]? = some (.cells #[.int .i64 (-1), .int .i64 0, .int .i64 61, .int .i64 4, .int .i64 10, .int .i64 1000, .int .i64 901] 3 (0, 0)) := World.alloc_heap_new w5 _
        have neY : w5.heap.size ≠ R := by have := (unhide H7).K.low.size; omega
        clear H7
        generalize w5.heap.size = Y at hYA neY ⊢
        generalize w5.alloc (.cells #[.int .i64 (-1), .int .i64 0, .int .i64 61, .int .i64 4, .int .i64 10, .int .i64 1000, .int .i64 901] 3) = wl at HA hYA ⊢
        refine (pick_any R a len cap (p + 4 + 1 + 1 + 1) 7 _ (by decide) (by decide) (unhide HA).D).mono ?_
        rintro e' w6 ⟨y6, rfl, y6l, y6u, k9, r9⟩
        obtain ⟨y7, rfl⟩ := Int.eq_ofNat_of_zero_le y6l
        have y7u : y7 < 7 := by omega
        have H8 := hide ((unhide HA).kp hR k9 (r9 (by omega)))
        have hYB := (k9.all Y (heap_lt hYA) neY).trans hYA
        obtain ⟨t8, ht8⟩ := pickL [-1, 0, 61, 4, 10, 1000, 901] hYB y7u
        have zY : Y < w6.heap.size := heap_lt hYB
        clear HA k9 r9 hYA hYB y6l
        go_wp2_with fail
        clear ht8 zY
        refine (pick_any R a len cap (p + 4 + 1 + 1 + 1 + 1) 5 _ (by decide) (by decide) (unhide H8).D).mono ?_
        rintro e' w7 ⟨c, rfl, cl, cu9, k9, r9⟩
        have H9 := hide ((unhide H8).kp hR k9 (r9 (by omega)))
        clear H8 k9 r9
        have xc0 := Joins.cell_of_block (unhide H9).It 0
        have xc1 := Joins.cell_of_block (unhide H9).It 1
        have xc2 := Joins.cell_of_block (unhide H9).It 2
        have xc3 := Joins.cell_of_block (unhide H9).It 3
        have xc4 := Joins.cell_of_block (unhide H9).It 4
        have zc0 := Joins.cell_of_block (unhide H9).Z 0
        have zc1 := Joins.cell_of_block (unhide H9).Z 1
        have zc2 := Joins.cell_of_block (unhide H9).Z 2
        have zc3 := Joins.cell_of_block (unhide H9).Z 3
        have zc4 := Joins.cell_of_block (unhide H9).Z 4
        simp only [List.getElem?_toArray, List.getElem?_cons_zero, List.getElem?_cons_succ] at xc0 xc1 xc2 xc3 xc4 zc0 zc1 zc2 zc3 zc4
        have xf0 : w7.frozen? ⟨X, 0, none⟩ = false := by simp [World.frozen?, (unhide H9).It]
        have zf0 : w7.frozen? ⟨w.heap.size, 0, none⟩ = false := by simp [World.frozen?, (unhide H9).Z]
        have xf1 : w7.frozen? ⟨X, 1, none⟩ = false := by simp [World.frozen?, (unhide H9).It]
        have zf1 : w7.frozen? ⟨w.heap.size, 1, none⟩ = false := by simp [World.frozen?, (unhide H9).Z]
        have xf2 : w7.frozen? ⟨X, 2, none⟩ = false := by simp [World.frozen?, (unhide H9).It]
        have zf2 : w7.frozen? ⟨w.heap.size, 2, none⟩ = false := by simp [World.frozen?, (unhide H9).Z]
        have xf3 : w7.frozen? ⟨X, 3, none⟩ = false := by simp [World.frozen?, (unhide H9).It]
        have zf3 : w7.frozen? ⟨w.heap.size, 3, none⟩ = false := by simp [World.frozen?, (unhide H9).Z]
        have xf4 : w7.frozen? ⟨X, 4, none⟩ = false := by simp [World.frozen?, (unhide H9).It]
        have zf4 : w7.frozen? ⟨w.heap.size, 4, none⟩ = false := by simp [World.frozen?, (unhide H9).Z]
        have xz : X < w7.heap.size := heap_lt (unhide H9).It
        have zz : w.heap.size < w7.heap.size := heap_lt (unhide H9).Z
        have hc : c = 0 ∨ c = 1 ∨ c = 2 ∨ c = 3 ∨ c = 4 := by omega
        rcases hc with rfl | rfl | rfl | rfl | rfl
        · have nX9 := (unhide H9).nX
          have nX8 : ¬ w.heap.size = X := by omega
          have nX7 : ¬ X = w.heap.size := by omega
          clear y2l y2u cl cu9
          have HF := hide ((unhide H9).set (q2 := t8) (t2 := 0) (k2 := 0) (v2 := 0) (n2 := t9) hR 0 (.int .i64 t8) rfl)
          go_wp2
          refine bodyPost_ret (v := .agg #[.int .i64 t8, .int .i64 0, .int .i64 0, .int .i64 0, .int .i64 t9]) (by simp (maxDischargeDepth := 9) [results, Tryz.results29, go_sem, *]) rfl ?_
          exact (unhide HF).done (p0 := p) hR (by omega)
        · have nX9 := (unhide H9).nX
          have nX8 : ¬ w.heap.size = X := by omega
          have nX7 : ¬ X = w.heap.size := by omega
          clear y2l y2u cl cu9
          have HF := hide ((unhide H9).set (q2 := 3) (t2 := t8) (k2 := 0) (v2 := 0) (n2 := t9) hR 1 (.int .i64 t8) rfl)
          go_wp2
          refine bodyPost_ret (v := .agg #[.int .i64 3, .int .i64 t8, .int .i64 0, .int .i64 0, .int .i64 t9]) (by simp (maxDischargeDepth := 9) [results, Tryz.results29, go_sem, *]) rfl ?_
          exact (unhide HF).done (p0 := p) hR (by omega)
        · have nX9 := (unhide H9).nX
          have nX8 : ¬ w.heap.size = X := by omega
          have nX7 : ¬ X = w.heap.size := by omega
          clear y2l y2u cl cu9
          have HF := hide ((unhide H9).set (q2 := 3) (t2 := 0) (k2 := t8) (v2 := 0) (n2 := t9) hR 2 (.int .i64 t8) rfl)
          go_wp2
          refine bodyPost_ret (v := .agg #[.int .i64 3, .int .i64 0, .int .i64 t8, .int .i64 0, .int .i64 t9]) (by simp (maxDischargeDepth := 9) [results, Tryz.results29, go_sem, *]) rfl ?_
          exact (unhide HF).done (p0 := p) hR (by omega)
        · have nX9 := (unhide H9).nX
          have nX8 : ¬ w.heap.size = X := by omega
          have nX7 : ¬ X = w.heap.size := by omega
          clear y2l y2u cl cu9
          have HF := hide ((unhide H9).set (q2 := 3) (t2 := 0) (k2 := 0) (v2 := t8) (n2 := t9) hR 3 (.int .i64 t8) rfl)
          go_wp2
          refine bodyPost_ret (v := .agg #[.int .i64 3, .int .i64 0, .int .i64 0, .int .i64 t8, .int .i64 t9]) (by simp (maxDischargeDepth := 9) [results, Tryz.results29, go_sem, *]) rfl ?_
          exact (unhide HF).done (p0 := p) hR (by omega)
        · have nX9 := (unhide H9).nX
          have nX8 : ¬ w.heap.size = X := by omega
          have nX7 : ¬ X = w.heap.size := by omega
          clear y2l y2u cl cu9
          have HF := hide ((unhide H9).set (q2 := 3) (t2 := 0) (k2 := 0) (v2 := 0) (n2 := t8) hR 4 (.int .i64 t8) rfl)
          go_wp2
          refine bodyPost_ret (v := .agg #[.int .i64 3, .int .i64 0, .int .i64 0, .int .i64 0, .int .i64 t8]) (by simp (maxDischargeDepth := 9) [results, Tryz.results29, go_sem, *]) rfl ?_
          exact (unhide HF).done (p0 := p) hR (by omega)
    · have h11 : (y == 1) = false := by simp [h1]
      go_wp2_with fail
      refine (pick_any R a len cap (p + 4 + 1) n _ hn hn2 (unhide H3).D).mono ?_
      rintro e' w5 ⟨y2, rfl, y2l, y2u, k9, r9⟩
      have H7 := hide ((unhide H3).kp hR k9 (r9 (by omega)))
      clear H3 k9 r9
      by_cases hy : 0 < y2
      · have hy1 : decide (0 < y2) = true := decide_eq_true hy
        have xc0 := Joins.cell_of_block (unhide H7).It 0
        have xc1 := Joins.cell_of_block (unhide H7).It 1
        have xc2 := Joins.cell_of_block (unhide H7).It 2
        have xc3 := Joins.cell_of_block (unhide H7).It 3
        have xc4 := Joins.cell_of_block (unhide H7).It 4
        have zc0 := Joins.cell_of_block (unhide H7).Z 0
        have zc1 := Joins.cell_of_block (unhide H7).Z 1
        have zc2 := Joins.cell_of_block (unhide H7).Z 2
        have zc3 := Joins.cell_of_block (unhide H7).Z 3
        have zc4 := Joins.cell_of_block (unhide H7).Z 4
        simp only [List.getElem?_toArray, List.getElem?_cons_zero, List.getElem?_cons_succ] at xc0 xc1 xc2 xc3 xc4 zc0 zc1 zc2 zc3 zc4
        have xf0 : w5.frozen? ⟨X, 0, none⟩ = false := by simp [World.frozen?, (unhide H7).It]
        have zf0 : w5.frozen? ⟨w.heap.size, 0, none⟩ = false := by simp [World.frozen?, (unhide H7).Z]
        have xf1 : w5.frozen? ⟨X, 1, none⟩ = false := by simp [World.frozen?, (unhide H7).It]
        have zf1 : w5.frozen? ⟨w.heap.size, 1, none⟩ = false := by simp [World.frozen?, (unhide H7).Z]
        have xf2 : w5.frozen? ⟨X, 2, none⟩ = false := by simp [World.frozen?, (unhide H7).It]
        have zf2 : w5.frozen? ⟨w.heap.size, 2, none⟩ = false := by simp [World.frozen?, (unhide H7).Z]
        have xf3 : w5.frozen? ⟨X, 3, none⟩ = false := by simp [World.frozen?, (unhide H7).It]
        have zf3 : w5.frozen? ⟨w.heap.size, 3, none⟩ = false := by simp [World.frozen?, (unhide H7).Z]
        have xf4 : w5.frozen? ⟨X, 4, none⟩ = false := by simp [World.frozen?, (unhide H7).It]
        have zf4 : w5.frozen? ⟨w.heap.size, 4, none⟩ = false := by simp [World.frozen?, (unhide H7).Z]
        have xz : X < w5.heap.size := heap_lt (unhide H7).It
        have zz : w.heap.size < w5.heap.size := heap_lt (unhide H7).Z
        go_wp2
        refine bodyPost_ret (v := .agg #[.int .i64 1, .int .i64 t, .int .i64 k, .int .i64 v, .int .i64 0]) (by simp (maxDischargeDepth := 9) [results, Tryz.results29, go_sem, *]) rfl ?_
        exact (unhide H7).done (p0 := p) hR (by omega)
      · have hy1 : decide (0 < y2) = false := decide_eq_false hy
        go_wp2_with fail
        have HA := hide ((unhide H7).bel hR (bel_one w5 (.cells #[.int .i64 (-1), .int .i64 0, .int .i64 61, .int .i64 4, .int .i64 10, .int .i64 1000, .int .i64 901] 3)))
        have hYA : (w5.alloc (.cells #[.int .i64 (-1), .int .i64 0, .int .i64 61, .int .i64 4, .int .i64 10, .int .i64 1000, .int .i64 901] 3)).heap[w5.heap.size]? = some (.cells #[.int .i64 (-1), .int .i64 0, .int .i64 61, .int .i64 4, .int .i64 10, .int .i64 1000, .int .i64 901] 3 (0, 0)) := World.alloc_heap_new w5 _
        have neY : w5.heap.size ≠ R := by have := (unhide H7).K.low.size; omega
        clear H7
        generalize w5.heap.size = Y at hYA neY ⊢
        generalize w5.alloc (.cells #[.int .i64 (-1), .int .i64 0, .int .i64 61, .int .i64 4, .int .i64 10, .int .i64 1000, .int .i64 901] 3) = wl at HA hYA ⊢
        refine (pick_any R a len cap (p + 4 + 1 + 1) 7 _ (by decide) (by decide) (unhide HA).D).mono ?_
        rintro e' w6 ⟨y6, rfl, y6l, y6u, k9, r9⟩
        obtain ⟨y7, rfl⟩ := Int.eq_ofNat_of_zero_le y6l
        have y7u : y7 < 7 := by omega
        have H8 := hide ((unhide HA).kp hR k9 (r9 (by omega)))
        have hYB := (k9.all Y (heap_lt hYA) neY).trans hYA
        obtain ⟨t8, ht8⟩ := pickL [-1, 0, 61, 4, 10, 1000, 901] hYB y7u
        have zY : Y < w6.heap.size := heap_lt hYB
        clear HA k9 r9 hYA hYB y6l
        go_wp2_with fail
        clear ht8 zY
        refine (pick_any R a len cap (p + 4 + 1 + 1 + 1) 5 _ (by decide) (by decide) (unhide H8).D).mono ?_
        rintro e' w7 ⟨c, rfl, cl, cu9, k9, r9⟩
        have H9 := hide ((unhide H8).kp hR k9 (r9 (by omega)))
        clear H8 k9 r9
        have xc0 := Joins.cell_of_block (unhide H9).It 0
        have xc1 := Joins.cell_of_block (unhide H9).It 1
        have xc2 := Joins.cell_of_block (unhide H9).It 2
        have xc3 := Joins.cell_of_block (unhide H9).It 3
        have xc4 := Joins.cell_of_block (unhide H9).It 4
        have zc0 := Joins.cell_of_block (unhide H9).Z 0
        have zc1 := Joins.cell_of_block (unhide H9).Z 1
        have zc2 := Joins.cell_of_block (unhide H9).Z 2
        have zc3 := Joins.cell_of_block (unhide H9).Z 3
        have zc4 := Joins.cell_of_block (unhide H9).Z 4
        simp only [List.getElem?_toArray, List.getElem?_cons_zero, List.getElem?_cons_succ] at xc0 xc1 xc2 xc3 xc4 zc0 zc1 zc2 zc3 zc4
        have xf0 : w7.frozen? ⟨X, 0, none⟩ = false := by simp [World.frozen?, (unhide H9).It]
        have zf0 : w7.frozen? ⟨w.heap.size, 0, none⟩ = false := by simp [World.frozen?, (unhide H9).Z]
        have xf1 : w7.frozen? ⟨X, 1, none⟩ = false := by simp [World.frozen?, (unhide H9).It]
        have zf1 : w7.frozen? ⟨w.heap.size, 1, none⟩ = false := by simp [World.frozen?, (unhide H9).Z]
        have xf2 : w7.frozen? ⟨X, 2, none⟩ = false := by simp [World.frozen?, (unhide H9).It]
        have zf2 : w7.frozen? ⟨w.heap.size, 2, none⟩ = false := by simp [World.frozen?, (unhide H9).Z]
        have xf3 : w7.frozen? ⟨X, 3, none⟩ = false := by simp [World.frozen?, (unhide H9).It]
        have zf3 : w7.frozen? ⟨w.heap.size, 3, none⟩ = false := by simp [World.frozen?, (unhide H9).Z]
        have xf4 : w7.frozen? ⟨X, 4, none⟩ = false := by simp [World.frozen?, (unhide H9).It]
        have zf4 : w7.frozen? ⟨w.heap.size, 4, none⟩ = false := by simp [World.frozen?, (unhide H9).Z]
        have xz : X < w7.heap.size := heap_lt (unhide H9).It
        have zz : w.heap.size < w7.heap.size := heap_lt (unhide H9).Z
        have hc : c = 0 ∨ c = 1 ∨ c = 2 ∨ c = 3 ∨ c = 4 := by omega
        rcases hc with rfl | rfl | rfl | rfl | rfl
        · have nX9 := (unhide H9).nX
          have nX8 : ¬ w.heap.size = X := by omega
          have nX7 : ¬ X = w.heap.size := by omega
          clear y2l y2u cl cu9
          have HF := hide ((unhide H9).set (q2 := t8) (t2 := t) (k2 := k) (v2 := v) (n2 := 0) hR 0 (.int .i64 t8) rfl)
          go_wp2
          refine bodyPost_ret (v := .agg #[.int .i64 t8, .int .i64 t, .int .i64 k, .int .i64 v, .int .i64 0]) (by simp (maxDischargeDepth := 9) [results, Tryz.results29, go_sem, *]) rfl ?_
          exact (unhide HF).done (p0 := p) hR (by omega)
        · have nX9 := (unhide H9).nX
          have nX8 : ¬ w.heap.size = X := by omega
          have nX7 : ¬ X = w.heap.size := by omega
          clear y2l y2u cl cu9
          have HF := hide ((unhide H9).set (q2 := 1) (t2 := t8) (k2 := k) (v2 := v) (n2 := 0) hR 1 (.int .i64 t8) rfl)
          go_wp2
          refine bodyPost_ret (v := .agg #[.int .i64 1, .int .i64 t8, .int .i64 k, .int .i64 v, .int .i64 0]) (by simp (maxDischargeDepth := 9) [results, Tryz.results29, go_sem, *]) rfl ?_
          exact (unhide HF).done (p0 := p) hR (by omega)
        · have nX9 := (unhide H9).nX
          have nX8 : ¬ w.heap.size = X := by omega
          have nX7 : ¬ X = w.heap.size := by omega
          clear y2l y2u cl cu9
          have HF := hide ((unhide H9).set (q2 := 1) (t2 := t) (k2 := t8) (v2 := v) (n2 := 0) hR 2 (.int .i64 t8) rfl)
          go_wp2
          refine bodyPost_ret (v := .agg #[.int .i64 1, .int .i64 t, .int .i64 t8, .int .i64 v, .int .i64 0]) (by simp (maxDischargeDepth := 9) [results, Tryz.results29, go_sem, *]) rfl ?_
          exact (unhide HF).done (p0 := p) hR (by omega)
        · have nX9 := (unhide H9).nX
          have nX8 : ¬ w.heap.size = X := by omega
          have nX7 : ¬ X = w.heap.size := by omega
          clear y2l y2u cl cu9
          have HF := hide ((unhide H9).set (q2 := 1) (t2 := t) (k2 := k) (v2 := t8) (n2 := 0) hR 3 (.int .i64 t8) rfl)
          go_wp2
          refine bodyPost_ret (v := .agg #[.int .i64 1, .int .i64 t, .int .i64 k, .int .i64 t8, .int .i64 0]) (by simp (maxDischargeDepth := 9) [results, Tryz.results29, go_sem, *]) rfl ?_
          exact (unhide HF).done (p0 := p) hR (by omega)
        · have nX9 := (unhide H9).nX
          have nX8 : ¬ w.heap.size = X := by omega
          have nX7 : ¬ X = w.heap.size := by omega
          clear y2l y2u cl cu9
          have HF := hide ((unhide H9).set (q2 := 1) (t2 := t) (k2 := k) (v2 := v) (n2 := t8) hR 4 (.int .i64 t8) rfl)
          go_wp2
          refine bodyPost_ret (v := .agg #[.int .i64 1, .int .i64 t, .int .i64 k, .int .i64 v, .int .i64 t8]) (by simp (maxDischargeDepth := 9) [results, Tryz.results29, go_sem, *]) rfl ?_
          exact (unhide HF).done (p0 := p) hR (by omega)
end Go.Proofs.YtcokdcehjibanaaGreatDoor
