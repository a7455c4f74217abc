/- Laid together: what the claim needs of the texts that were built one by one. -/
import Derived.Test.YtbjhpiannjepkaaGreatPsCkpM2
import Derived.Test.YtbjhpiannjepkaaGreatPsBase
namespace Go.Proofs.YtbjhpiannjepkaaGreat
open Go.ChangeShapes Go.WideShapes Go.ChangeAt Go.RowKit Go.Deep
set_option linter.unusedVariables false

theorem SnS_alloc {W : World} (o : Obj) {b : Nat} (hb : b < W.heap.size) : (W.alloc o).heap[b]? = W.heap[b]? := Below.heap_alloc _ _ _ hb

set_option maxRecDepth 20000 in
set_option maxHeartbeats 1000000 in
theorem markCs_any (K : Int) (h0K : 0 ≤ K) (hK : K ≤ 140737488355328) (sfn : Int) (a6 : Option Addr) (l6 c6 : Nat) (a7 : Option Addr) (l7 c7 : Nat) (v7 : List SnV) (w : World) (h6 : WrC w 3 a6 l6 c6) (h7 : WrSn w a7 l7 c7 v7) (hl6 : l6 ≤ 1048576) (hl7 : l7 ≤ 1048576) (d : ∀ b, rowC a6 l6 = some b → ¬ SnS a7 l7 v7 b) : Calls Tryz.prog 39 #[.agg #[.int .i64 sfn, .slice a6 l6 c6, .slice a7 l7 c7], .int .i64 K] w fun e w' => e = .returned (.int .i64 (kSn (K + (l6 : Int)) v7)) ∧ MkIn w' a6 l6 K ∧ MkSn w' a7 l7 (K + (l6 : Int)) v7 ∧ Kept (fun b => rowC a6 l6 = some b ∨ SnS a7 l7 v7 b) w w' := by
  have H6 : WrC (w.alloc (.cells #[.int .i64 sfn, .slice a6 l6 c6, .slice a7 l7 c7] 34)) 3 a6 l6 c6 := h6.below (bel_one _ _)
  have kA : Kept (fun b => rowC a6 l6 = some b ∨ SnS a7 l7 v7 b) w (w.alloc (.cells #[.int .i64 sfn, .slice a6 l6 c6, .slice a7 l7 c7] 34)) := Kept.of_below (bel_one _ _)
  go_enter Tryz.func39, Tryz.ntmps39
  go_wp2_with fail
  refine (markIn_c K h0K (by omega) a6 l6 c6 _ H6 hl6).mono ?_
  rintro e w2 ⟨rfl, m6, _, k6⟩
  have z2 : w.heap.size < w2.heap.size := by have h9 := k6.size; simp at h9; omega
  have eb : w2.heap[w.heap.size]? = (w.alloc (.cells #[.int .i64 sfn, .slice a6 l6 c6, .slice a7 l7 c7] 34)).heap[w.heap.size]? := k6.blk _ (by simp) (fun e9 => by have h9 := h6.lt _ e9; omega)
  have t0 : w2.cell? ⟨w.heap.size, 0, none⟩ = some (.int .i64 sfn) := (World.cell?_of_block (a := ⟨w.heap.size, 0, none⟩) eb).trans (by simp [go_sem])
  have t1 : w2.cell? ⟨w.heap.size, 1, none⟩ = some (.slice a6 l6 c6) := (World.cell?_of_block (a := ⟨w.heap.size, 1, none⟩) eb).trans (by simp [go_sem])
  have t2 : w2.cell? ⟨w.heap.size, 2, none⟩ = some (.slice a7 l7 c7) := (World.cell?_of_block (a := ⟨w.heap.size, 2, none⟩) eb).trans (by simp [go_sem])
  have H7 : WrSn w2 a7 l7 c7 v7 := h7.keep (fun b hb => (k6.blk b (by have h9 := h7.ltS b hb; simp; omega) (fun e9 => d b e9 hb)).trans (SnS_alloc _ (h7.ltS b hb)))
  go_wp2_with fail
  refine (markSn_any (K + (l6 : Int)) (by omega) (by omega) a7 l7 c7 v7 _ H7 hl7).mono ?_
  rintro e w3 ⟨rfl, m7, k7⟩
  go_wp2
  go_ret
  refine ⟨rfl, m6.keep (fun b hb => k7.blk b (Nat.lt_of_lt_of_le (Nat.lt_of_lt_of_le (H6.lt b hb) k6.size) (Nat.le_refl _)) (d b hb)), m7, (kA.trans (k6.mono (fun b hb => Or.inl hb))).trans (k7.mono (fun b hb => Or.inr hb))⟩

set_option maxRecDepth 20000 in
set_option maxHeartbeats 1000000 in
theorem heldCs_any (K : Int) (h0K : 0 ≤ K) (hK : K ≤ 140737488355328) (sfn : Int) (a6 : Option Addr) (l6 c6 : Nat) (a7 : Option Addr) (l7 c7 : Nat) (v7 : List SnV) (w : World) (h6 : MkIn w a6 l6 K) (h7 : MkSn w a7 l7 (K + (l6 : Int)) v7) (hl6 : l6 ≤ 1048576) (hl7 : l7 ≤ 1048576) (hv : v7.length = l7) (hl : ∀ (i : Nat) (v : SnV), v7[i]? = some v → v.l1 ≤ 1048576 ∧ v.l2 ≤ 1048576) (hlt : ∀ b, (rowC a6 l6 = some b ∨ SnS a7 l7 v7 b) → b < w.heap.size) : Calls Tryz.prog 43 #[.agg #[.int .i64 sfn, .slice a6 l6 c6, .slice a7 l7 c7], .int .i64 K] w fun e w' => e = .returned (.int .i64 (kSn (K + (l6 : Int)) v7)) ∧ Below w.heap.size w w' := by
  have H6 : MkIn (w.alloc (.cells #[.int .i64 sfn, .slice a6 l6 c6, .slice a7 l7 c7] 34)) a6 l6 K := h6.keep (fun b hb => SnS_alloc _ (hlt b (Or.inl hb)))
  have H7 : MkSn (w.alloc (.cells #[.int .i64 sfn, .slice a6 l6 c6, .slice a7 l7 c7] 34)) a7 l7 (K + (l6 : Int)) v7 := h7.keep (fun b hb => SnS_alloc _ (hlt b (Or.inr hb)))
  have hkb := kSn_bd (K + (l6 : Int)) v7 hl
  have n1 : ¬ (K + (l6 : Int)) < 0 := by omega
  have n2 : ¬ kSn (K + (l6 : Int)) v7 < 0 := by omega
  go_enter Tryz.func43, Tryz.ntmps43
  go_wp2_with (first
    | (go_at_call 40; refine (heldIn_c K h0K (by omega) a6 l6 c6 _ H6 hl6).mono ?_; rintro e w5 ⟨rfl, hw⟩; obtain rfl := hw.symm; clear hw)
    | (go_at_call 42; refine (heldSn_any (K + (l6 : Int)) (by omega) (by omega) a7 l7 c7 v7 _ H7 hv hl7 hl).mono ?_; rintro e w6 ⟨rfl, hw⟩; obtain rfl := hw.symm; clear hw))
  go_ret
  exact ⟨rfl, (belA)⟩

set_option maxRecDepth 20000 in
set_option maxHeartbeats 2000000 in
theorem markCk_any (xn : Int) (xop : Bool) (sfn : Int) (a2 : Option Addr) (l2 c2 : Nat) (a3 : Option Addr) (l3 c3 : Nat) (a4 : Option Addr) (l4 c4 : Nat) (a6 : Option Addr) (l6 c6 : Nat) (a7 : Option Addr) (l7 c7 : Nat) (v4 v7 : List SnV) (w : World) (h : WrCk w a2 l2 c2 a3 l3 c3 a4 l4 c4 a6 l6 c6 a7 l7 c7 v4 v7) : Calls Tryz.prog 11 #[.agg #[.int .i64 xn, .bool xop, .slice a2 l2 c2, .slice a3 l3 c3, .slice a4 l4 c4, .int .i64 sfn, .slice a6 l6 c6, .slice a7 l7 c7], .int .i64 1] w fun e w' => e = .returned (.int .i64 (kCk l2 l3 v4 l6 v7)) ∧ MkCk w' a2 l2 a3 l3 a4 l4 a6 l6 a7 l7 v4 v7 ∧ Kept (CkS a2 l2 a3 l3 a4 l4 a6 l6 a7 l7 v4 v7) w w' := by
  obtain ⟨q2, q3, q4, q6, q7⟩ := h.lims
  have lt2 := h.r2.lt
  have lt3 := h.r3.lt
  have lt4 := h.r4.ltS
  have lt6 := h.r6.lt
  have lt7 := h.r7.ltS
  have hk4 := kSn_bd (1 + (l2 : Int) + (l3 : Int)) v4 h.r4.lims
  have hv4 := h.r4.len
  have kA : Kept (CkS a2 l2 a3 l3 a4 l4 a6 l6 a7 l7 v4 v7) w (w.alloc (.cells #[.int .i64 xn, .bool xop, .slice a2 l2 c2, .slice a3 l3 c3, .slice a4 l4 c4, .int .i64 sfn, .slice a6 l6 c6, .slice a7 l7 c7] 36)) := Kept.of_below (bel_one _ _)
  have H2 : WrC (w.alloc (.cells #[.int .i64 xn, .bool xop, .slice a2 l2 c2, .slice a3 l3 c3, .slice a4 l4 c4, .int .i64 sfn, .slice a6 l6 c6, .slice a7 l7 c7] 36)) 3 a2 l2 c2 := h.r2.below (bel_one _ _)
  go_enter Tryz.func11, Tryz.ntmps11
  go_wp2_with fail
  refine (markIn_c 1 (by omega) (by omega) a2 l2 c2 _ H2 q2).mono ?_
  rintro e w2 ⟨rfl, m2, _, k2⟩
  have z2 : w.heap.size < w2.heap.size := by have h9 := k2.size; simp at h9; omega
  have e2 : w2.heap[w.heap.size]? = (w.alloc (.cells #[.int .i64 xn, .bool xop, .slice a2 l2 c2, .slice a3 l3 c3, .slice a4 l4 c4, .int .i64 sfn, .slice a6 l6 c6, .slice a7 l7 c7] 36)).heap[w.heap.size]? := k2.blk _ (by simp) (fun e9 => by have h9 := lt2 _ e9; omega)
  have t0 : w2.cell? ⟨w.heap.size, 0, none⟩ = some (.int .i64 xn) := (World.cell?_of_block (a := ⟨w.heap.size, 0, none⟩) e2).trans (by simp [go_sem])
  have t1 : w2.cell? ⟨w.heap.size, 1, none⟩ = some (.bool xop) := (World.cell?_of_block (a := ⟨w.heap.size, 1, none⟩) e2).trans (by simp [go_sem])
  have t2 : w2.cell? ⟨w.heap.size, 2, none⟩ = some (.slice a2 l2 c2) := (World.cell?_of_block (a := ⟨w.heap.size, 2, none⟩) e2).trans (by simp [go_sem])
  have t3 : w2.cell? ⟨w.heap.size, 3, none⟩ = some (.slice a3 l3 c3) := (World.cell?_of_block (a := ⟨w.heap.size, 3, none⟩) e2).trans (by simp [go_sem])
  have t4 : w2.cell? ⟨w.heap.size, 4, none⟩ = some (.slice a4 l4 c4) := (World.cell?_of_block (a := ⟨w.heap.size, 4, none⟩) e2).trans (by simp [go_sem])
  have t5 : w2.cell? ⟨w.heap.size, 5, none⟩ = some (.int .i64 sfn) := (World.cell?_of_block (a := ⟨w.heap.size, 5, none⟩) e2).trans (by simp [go_sem])
  have t6 : w2.cell? ⟨w.heap.size, 6, none⟩ = some (.slice a6 l6 c6) := (World.cell?_of_block (a := ⟨w.heap.size, 6, none⟩) e2).trans (by simp [go_sem])
  have t7 : w2.cell? ⟨w.heap.size, 7, none⟩ = some (.slice a7 l7 c7) := (World.cell?_of_block (a := ⟨w.heap.size, 7, none⟩) e2).trans (by simp [go_sem])
  have s2 : ∀ b, b < w.heap.size → ¬ rowC a2 l2 = some b → w2.heap[b]? = w.heap[b]? := fun b hb hn => (k2.blk b (by simp; omega) hn).trans (SnS_alloc _ hb)
  have H3 : WrC w2 4 a3 l3 c3 := h.r3.keep (fun b hb => s2 b (lt3 b hb) (fun e9 => h.d1 b e9 (Or.inl hb)))
  go_wp2_with fail
  refine (markBo_c (1 + (l2 : Int)) (by omega) (by omega) a3 l3 c3 _ H3 q3).mono ?_
  rintro e w3 ⟨rfl, m3, _, k3⟩
  have z3 : w2.heap.size ≤ w3.heap.size := k3.size
  have e3 : w3.heap[w.heap.size]? = w2.heap[w.heap.size]? := k3.blk _ z2 (fun e9 => by have h9 := lt3 _ e9; omega)
  have u0 : w3.cell? ⟨w.heap.size, 0, none⟩ = some (.int .i64 xn) := (World.cell?_of_block (a := ⟨w.heap.size, 0, none⟩) e3).trans t0
  have u1 : w3.cell? ⟨w.heap.size, 1, none⟩ = some (.bool xop) := (World.cell?_of_block (a := ⟨w.heap.size, 1, none⟩) e3).trans t1
  have u2 : w3.cell? ⟨w.heap.size, 2, none⟩ = some (.slice a2 l2 c2) := (World.cell?_of_block (a := ⟨w.heap.size, 2, none⟩) e3).trans t2
  have u3 : w3.cell? ⟨w.heap.size, 3, none⟩ = some (.slice a3 l3 c3) := (World.cell?_of_block (a := ⟨w.heap.size, 3, none⟩) e3).trans t3
  have u4 : w3.cell? ⟨w.heap.size, 4, none⟩ = some (.slice a4 l4 c4) := (World.cell?_of_block (a := ⟨w.heap.size, 4, none⟩) e3).trans t4
  have u5 : w3.cell? ⟨w.heap.size, 5, none⟩ = some (.int .i64 sfn) := (World.cell?_of_block (a := ⟨w.heap.size, 5, none⟩) e3).trans t5
  have u6 : w3.cell? ⟨w.heap.size, 6, none⟩ = some (.slice a6 l6 c6) := (World.cell?_of_block (a := ⟨w.heap.size, 6, none⟩) e3).trans t6
  have u7 : w3.cell? ⟨w.heap.size, 7, none⟩ = some (.slice a7 l7 c7) := (World.cell?_of_block (a := ⟨w.heap.size, 7, none⟩) e3).trans t7
  have s3 : ∀ b, b < w.heap.size → ¬ rowC a3 l3 = some b → w3.heap[b]? = w2.heap[b]? := fun b hb hn => k3.blk b (by omega) hn
  have H4 : WrSn w3 a4 l4 c4 v4 := h.r4.keep (fun b hb => (s3 b (lt4 b hb) (fun e9 => h.d2 b e9 (Or.inl hb))).trans (s2 b (lt4 b hb) (fun e9 => h.d1 b e9 (Or.inr (Or.inl hb)))))
  clear t0 t1 t2 t3 t4 t5 t6 t7
  go_wp2_with fail
  refine (markSn_any (1 + (l2 : Int) + (l3 : Int)) (by omega) (by omega) a4 l4 c4 v4 _ H4 q4).mono ?_
  rintro e w4 ⟨rfl, m4, k4⟩
  have z4 : w3.heap.size ≤ w4.heap.size := k4.size
  have e4 : w4.heap[w.heap.size]? = w3.heap[w.heap.size]? := k4.blk _ (by omega) (fun e9 => by have h9 := lt4 _ e9; omega)
  have x0 : w4.cell? ⟨w.heap.size, 0, none⟩ = some (.int .i64 xn) := (World.cell?_of_block (a := ⟨w.heap.size, 0, none⟩) e4).trans u0
  have x1 : w4.cell? ⟨w.heap.size, 1, none⟩ = some (.bool xop) := (World.cell?_of_block (a := ⟨w.heap.size, 1, none⟩) e4).trans u1
  have x2 : w4.cell? ⟨w.heap.size, 2, none⟩ = some (.slice a2 l2 c2) := (World.cell?_of_block (a := ⟨w.heap.size, 2, none⟩) e4).trans u2
  have x3 : w4.cell? ⟨w.heap.size, 3, none⟩ = some (.slice a3 l3 c3) := (World.cell?_of_block (a := ⟨w.heap.size, 3, none⟩) e4).trans u3
  have x4 : w4.cell? ⟨w.heap.size, 4, none⟩ = some (.slice a4 l4 c4) := (World.cell?_of_block (a := ⟨w.heap.size, 4, none⟩) e4).trans u4
  have x5 : w4.cell? ⟨w.heap.size, 5, none⟩ = some (.int .i64 sfn) := (World.cell?_of_block (a := ⟨w.heap.size, 5, none⟩) e4).trans u5
  have x6 : w4.cell? ⟨w.heap.size, 6, none⟩ = some (.slice a6 l6 c6) := (World.cell?_of_block (a := ⟨w.heap.size, 6, none⟩) e4).trans u6
  have x7 : w4.cell? ⟨w.heap.size, 7, none⟩ = some (.slice a7 l7 c7) := (World.cell?_of_block (a := ⟨w.heap.size, 7, none⟩) e4).trans u7
  have s4 : ∀ b, b < w.heap.size → ¬ SnS a4 l4 v4 b → w4.heap[b]? = w3.heap[b]? := fun b hb hn => k4.blk b (by omega) hn
  have H6 : WrC w4 3 a6 l6 c6 := h.r6.keep (fun b hb => ((s4 b (lt6 b hb) (fun e9 => h.d3 b e9 (Or.inl hb))).trans (s3 b (lt6 b hb) (fun e9 => h.d2 b e9 (Or.inr (Or.inl hb))))).trans (s2 b (lt6 b hb) (fun e9 => h.d1 b e9 (Or.inr (Or.inr (Or.inl hb))))))
  have H7 : WrSn w4 a7 l7 c7 v7 := h.r7.keep (fun b hb => ((s4 b (lt7 b hb) (fun e9 => h.d3 b e9 (Or.inr hb))).trans (s3 b (lt7 b hb) (fun e9 => h.d2 b e9 (Or.inr (Or.inr hb))))).trans (s2 b (lt7 b hb) (fun e9 => h.d1 b e9 (Or.inr (Or.inr (Or.inr hb))))))
  clear u0 u1 u2 u3 u4 u5 u6 u7
  have hkb : 0 ≤ kSn (1 + (l2 : Int) + (l3 : Int)) v4 ∧ kSn (1 + (l2 : Int) + (l3 : Int)) v4 ≤ 140737488355328 := by omega
  obtain ⟨k6v, hk6v⟩ : ∃ k6v, k6v = kSn (1 + (l2 : Int) + (l3 : Int)) v4 := ⟨_, rfl⟩
  rw [← hk6v] at hkb
  rw [← hk6v]
  have HK := hide hk6v
  clear hk6v hk4
  go_wp2_with fail
  refine (markCs_any k6v hkb.1 hkb.2 sfn a6 l6 c6 a7 l7 c7 v7 _ H6 H7 q6 q7 h.d4).mono ?_
  rintro e w5 ⟨rfl, m6, m7, k7⟩
  have z5 : w4.heap.size ≤ w5.heap.size := k7.size
  have s5 : ∀ b, b < w.heap.size → ¬ (rowC a6 l6 = some b ∨ SnS a7 l7 v7 b) → w5.heap[b]? = w4.heap[b]? := fun b hb hn => k7.blk b (by omega) hn
  go_wp2
  go_ret
  have hK6 : k6v = kC6 l2 l3 v4 := unhide HK
  subst hK6
  refine ⟨rfl, ⟨?_, ?_, ?_, m6, m7, h.lims, ⟨h.r4.len, h.r7.len⟩, h.r4.lims, h.r7.lims⟩, ?_⟩
  · exact m2.keep (fun b hb => ((s5 b (lt2 b hb) (fun e9 => h.d1 b hb (Or.inr (Or.inr e9)))).trans (s4 b (lt2 b hb) (fun e9 => h.d1 b hb (Or.inr (Or.inl e9))))).trans (s3 b (lt2 b hb) (fun e9 => h.d1 b hb (Or.inl e9))))
  · exact m3.keep (fun b hb => (s5 b (lt3 b hb) (fun e9 => h.d2 b hb (Or.inr e9))).trans (s4 b (lt3 b hb) (fun e9 => h.d2 b hb (Or.inl e9))))
  · exact m4.keep (fun b hb => s5 b (lt4 b hb) (fun e9 => h.d3 b hb e9))
  · exact (((kA.trans (k2.mono (fun b hb => Or.inl hb))).trans (k3.mono (fun b hb => Or.inr (Or.inl hb)))).trans (k4.mono (fun b hb => Or.inr (Or.inr (Or.inl hb))))).trans (k7.mono (fun b hb => Or.inr (Or.inr (Or.inr hb))))

set_option maxRecDepth 20000 in
set_option maxHeartbeats 2000000 in
theorem heldCk_any (xn : Int) (xop : Bool) (sfn : Int) (a2 : Option Addr) (l2 c2 : Nat) (a3 : Option Addr) (l3 c3 : Nat) (a4 : Option Addr) (l4 c4 : Nat) (a6 : Option Addr) (l6 c6 : Nat) (a7 : Option Addr) (l7 c7 : Nat) (v4 v7 : List SnV) (w : World) (h : MkCk w a2 l2 a3 l3 a4 l4 a6 l6 a7 l7 v4 v7) (hlt : ∀ b, CkS a2 l2 a3 l3 a4 l4 a6 l6 a7 l7 v4 v7 b → b < w.heap.size) : Calls Tryz.prog 12 #[.agg #[.int .i64 xn, .bool xop, .slice a2 l2 c2, .slice a3 l3 c3, .slice a4 l4 c4, .int .i64 sfn, .slice a6 l6 c6, .slice a7 l7 c7], .int .i64 1] w fun e w' => e = .returned (.int .i64 (kCk l2 l3 v4 l6 v7)) ∧ Below w.heap.size w w' := by
  obtain ⟨q2, q3, q4, q6, q7⟩ := h.lims
  obtain ⟨g4, g7⟩ := h.lens
  have hk4 := kSn_bd (1 + (l2 : Int) + (l3 : Int)) v4 h.vl.1
  have H := h.keep (W' := w.alloc (.cells #[.int .i64 xn, .bool xop, .slice a2 l2 c2, .slice a3 l3 c3, .slice a4 l4 c4, .int .i64 sfn, .slice a6 l6 c6, .slice a7 l7 c7] 36)) (fun b hb => SnS_alloc _ (hlt b hb))
  have hz : ∀ b, (rowC a6 l6 = some b ∨ SnS a7 l7 v7 b) → b < (w.alloc (.cells #[.int .i64 xn, .bool xop, .slice a2 l2 c2, .slice a3 l3 c3, .slice a4 l4 c4, .int .i64 sfn, .slice a6 l6 c6, .slice a7 l7 c7] 36)).heap.size := fun b hb => by
    have h9 := hlt b (by rcases hb with hb | hb; exact Or.inr (Or.inr (Or.inr (Or.inl hb))); exact Or.inr (Or.inr (Or.inr (Or.inr hb))))
    simp; omega
  have n2 : ¬ (1 + (l2 : Int)) < 0 := by omega
  have n3 : ¬ (1 + (l2 : Int) + (l3 : Int)) < 0 := by omega
  have hkb : 0 ≤ kC6 l2 l3 v4 ∧ kC6 l2 l3 v4 ≤ 140737488355328 := by unfold kC6; omega
  have h7b := kSn_bd (kC7 l2 l3 v4 l6) v7 h.vl.2
  have n4 : ¬ kC6 l2 l3 v4 < 0 := by omega
  have n5 : ¬ kCk l2 l3 v4 l6 v7 < 0 := by unfold kCk; have h9 : kC7 l2 l3 v4 l6 = kC6 l2 l3 v4 + (l6 : Int) := rfl; omega
  go_enter Tryz.func12, Tryz.ntmps12
  go_wp2_with (first
    | (go_at_call 40; refine (heldIn_c 1 (by omega) (by omega) a2 l2 c2 _ H.r2 q2).mono ?_; rintro e w5 ⟨rfl, hw⟩; obtain rfl := hw.symm; clear hw)
    | (go_at_call 41; refine (heldBo_c (1 + (l2 : Int)) (by omega) (by omega) a3 l3 c3 _ H.r3 q3).mono ?_; rintro e w6 ⟨rfl, hw⟩; obtain rfl := hw.symm; clear hw)
    | (go_at_call 42; refine (heldSn_any (1 + (l2 : Int) + (l3 : Int)) (by omega) (by omega) a4 l4 c4 v4 _ H.r4 g4 q4 h.vl.1).mono ?_; rw [show kSn (1 + (l2 : Int) + (l3 : Int)) v4 = kC6 l2 l3 v4 from rfl]; rintro e w7 ⟨rfl, hw⟩; obtain rfl := hw.symm; clear hw)
    | (go_at_call 43; refine (heldCs_any (kC6 l2 l3 v4) hkb.1 hkb.2 sfn a6 l6 c6 a7 l7 c7 v7 _ H.r6 H.r7 q6 q7 g7 h.vl.2 hz).mono ?_; rw [show kSn (kC6 l2 l3 v4 + (l6 : Int)) v7 = kCk l2 l3 v4 l6 v7 from rfl]; rintro e w8 ⟨rfl, hb8⟩))
  go_ret
  exact ⟨rfl, (belA)⟩
end Go.Proofs.YtbjhpiannjepkaaGreat
