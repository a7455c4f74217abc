/- Laid together: what the claim needs of the texts that were built one by one. -/
import Derived.Test.YtabphkmhafflbaaPkCkpB
import Derived.Test.YtabphkmhafflbaaPkCkpS3
import Derived.Test.YtabphkmhafflbaaPkBase
namespace Go.Proofs.Ytabphkmhafflbaa
open Go.ChangeShapes Go.WideShapes Go.ChangeAt Go.RowKit Go.Deep
set_option linter.unusedVariables false

theorem noth_any (x : SnD) (a1 : Option Addr) (l1 c1 : Nat) (a2 : Option Addr) (l2 c2 : Nat) (w : World) (h1 : x.rows.length = l1) (h2 : x.marks.length = l2) : Calls Try.prog 41 #[.agg #[.int .i64 x.ma, .slice a1 l1 c1, .slice a2 l2 c2]] w fun e' w' => e' = .returned (.bool (nothSn x)) ∧ Below w.heap.size w w' := by
  by_cases hm : x.ma = 0
  rotate_left
  · have hm1 : (x.ma == 0) = false := beq_eq_false_iff_ne.2 hm
    have HE : Hid (nothSn x = false) := hide (by unfold nothSn; rw [hm1]; rfl)
    go_enter Try.func41, Try.ntmps41
    go_wp2
    go_ret
    exact ⟨ret_b (unhide HE).symm, (belA)⟩
  have hm1 : (x.ma == 0) = true := by simp [hm]
  by_cases hr : l1 = 0
  rotate_left
  · have hr1 : ((l1 : Int) == 0) = false := beq_eq_false_iff_ne.2 (by omega)
    have HE : Hid (nothSn x = false) := hide (by unfold nothSn; rw [decide_eq_false (by omega)]; simp)
    go_enter Try.func41, Try.ntmps41
    go_wp2
    go_ret
    exact ⟨ret_b (unhide HE).symm, (belA)⟩
  subst hr
  by_cases hk : l2 = 0
  rotate_left
  · have hr1 : ((l2 : Int) == 0) = false := beq_eq_false_iff_ne.2 (by omega)
    have HE : Hid (nothSn x = false) := hide (by unfold nothSn; rw [decide_eq_false (by omega)]; simp)
    go_enter Try.func41, Try.ntmps41
    go_wp2
    go_ret
    exact ⟨ret_b (unhide HE).symm, (belA)⟩
  subst hk
  have HE : Hid (nothSn x = true) := hide (by unfold nothSn; rw [hm1, decide_eq_true (by omega)]; rfl)
  go_enter Try.func41, Try.ntmps41
  go_wp2
  go_ret
  exact ⟨ret_b (unhide HE).symm, (belA)⟩

/-- Whether a task may have told that, if one is under way. -/
def okT2 (s t k z p l e v r : Int) (q : Bool × SnD) : Bool := match q.1 with
  | true => okSn s t k z p l e v r q.2
  | false => nothSn q.2

def toldB (s t k z p l e v r : Int) (x : CkD) : Bool := decide ((x.src.length : Int) = s) && decide ((x.tsk.length : Int) = t) && decide ((x.sn.length : Int) = t) && x.src.all okRngI && (x.tsk.zip x.sn).all (okT2 s t k z p l e v r) && (x.op || decide (toldN x.src x.tsk = 0))

theorem toldB_and {s t k z p l e v r : Int} {x : CkD} (h : toldB s t k z p l e v r x = true) : (x.src.length : Int) = s ∧ (x.tsk.length : Int) = t ∧ (x.sn.length : Int) = t ∧ x.src.all okRngI = true ∧ (x.tsk.zip x.sn).all (okT2 s t k z p l e v r) = true := by
  unfold toldB at h
  simp only [Bool.and_eq_true, decide_eq_true_eq] at h
  exact ⟨h.1.1.1.1.1, h.1.1.1.1.2, h.1.1.1.2, h.1.1.2, h.1.2⟩

theorem toldB_val {s t k z p l e v r : Int} {x : CkD} (h1 : (x.src.length : Int) = s) (h2 : (x.tsk.length : Int) = t) (h3 : (x.sn.length : Int) = t) (h4 : x.src.all okRngI = true) : toldB s t k z p l e v r x = ((x.tsk.zip x.sn).all (okT2 s t k z p l e v r) && (x.op || decide (toldN x.src x.tsk = 0))) := by
  unfold toldB
  rw [decide_eq_true h1, decide_eq_true h2, decide_eq_true h3, h4]
  rfl

set_option linter.unusedSimpArgs false in
set_option maxRecDepth 20000 in
set_option maxHeartbeats 8000000 in
theorem toldok_any (s t k z p l e : Int) (b : Bool) (v r : Int) (x : CkD) (a2 : Option Addr) (l2 c2 : Nat) (a3 : Option Addr) (l3 c3 : Nat) (a4 : Option Addr) (l4 c4 : Nat) (a6 : Option Addr) (l6 c6 : Nat) (a7 : Option Addr) (l7 c7 : Nat) (B : Nat) (w : World) (h : CkIs w B a2 l2 a3 l3 a4 l4 a6 l6 a7 l7 x) (hs3 : s ≤ 3) (ht2 : t ≤ 2) : Calls Try.prog 22 #[.agg #[.int .i64 x.n, .bool x.op, .slice a2 l2 c2, .slice a3 l3 c3, .slice a4 l4 c4, .int .i64 x.sfn, .slice a6 l6 c6, .slice a7 l7 c7], .agg #[.int .i64 s, .int .i64 t, .int .i64 k, .int .i64 z, .int .i64 p, .int .i64 l, .int .i64 e, .bool b, .int .i64 v, .int .i64 r]] w fun e' w' => e' = .returned (.bool (toldB s t k z p l e v r x)) ∧ Below w.heap.size w w' := by
  have le2 := h.src.len.1
  have hm2 := h.src.len.2
  have le3 := h.tsk.len.1
  have hm3 := h.tsk.len.2
  have le4 := h.sn.len.1
  have hm4 := h.sn.len.2
  unfold maxLen at hm2 hm3 hm4
  by_cases hl : (l2 : Int) = s
  rotate_left
  · skip
    have hl1 : ((l2 : Int) == s) = false := beq_eq_false_iff_ne.2 hl
    have hl2 : ((l2 : Int) != s) = true := by simp [hl]
    have HE : Hid (toldB s t k z p l e v r x = false) := hide (Bool.eq_false_iff.2 (fun hc => hl (by rw [← le2]; exact (toldB_and hc).1)))
    go_enter Try.func22, Try.ntmps22
    go_wp2
    go_ret
    exact ⟨ret_b (unhide HE).symm, (belA)⟩
  subst hl
  by_cases ht : (l3 : Int) = t
  rotate_left
  · skip
    have ht1 : ((l3 : Int) == t) = false := beq_eq_false_iff_ne.2 ht
    have ht2 : ((l3 : Int) != t) = true := by simp [ht]
    have HE : Hid (toldB (l2 : Int) t k z p l e v r x = false) := hide (Bool.eq_false_iff.2 (fun hc => ht (by rw [← le3]; exact (toldB_and hc).2.1)))
    go_enter Try.func22, Try.ntmps22
    go_wp2
    go_ret
    exact ⟨ret_b (unhide HE).symm, (belA)⟩
  subst ht
  by_cases hu : (l4 : Int) = (l3 : Int)
  rotate_left
  · skip
    have hu1 : ((l4 : Int) == (l3 : Int)) = false := beq_eq_false_iff_ne.2 hu
    have hu2 : ((l4 : Int) != (l3 : Int)) = true := by simp [hu]
    have HE : Hid (toldB (l2 : Int) (l3 : Int) k z p l e v r x = false) := hide (Bool.eq_false_iff.2 (fun hc => hu (by rw [← le4]; exact (toldB_and hc).2.2.1)))
    go_enter Try.func22, Try.ntmps22
    go_wp2
    go_ret
    exact ⟨ret_b (unhide HE).symm, (belA)⟩
  obtain rfl : l3 = l4 := by omega
  clear hu
  cases ha : x.src.all okRngI
  · skip
    have HE : Hid (toldB (l2 : Int) (l3 : Int) k z p l e v r x = false) := hide (Bool.eq_false_iff.2 (fun hc => by have h9 := (toldB_and hc).2.2.2.1; rw [ha] at h9; cases h9))
    go_enter Try.func22, Try.ntmps22
    go_wp2_with (go_at_call 32; refine (everyRng a2 l2 c2 x.src _ (h.src.1.below (belA))).mono ?_; rw [ha]; rintro e' y2 ⟨rfl, hb2⟩; obtain ⟨hc2, hf2, hs2⟩ := bcell hb2; have hz20 : w.heap.size < y2.heap.size := (by have h9 := hb2.size; (try simp at h9); omega); have hz21 : w.heap.size + 1 < y2.heap.size := (by have h9 := hb2.size; (try simp at h9); omega))
    go_ret
    exact ⟨ret_b (unhide HE).symm, (belA)⟩
  have HV : Hid (toldB (l2 : Int) (l3 : Int) k z p l e v r x = ((x.tsk.zip x.sn).all (okT2 (l2 : Int) (l3 : Int) k z p l e v r) && (x.op || decide (toldN x.src x.tsk = 0)))) := hide (toldB_val (by rw [le2]) (by rw [le3]) (by rw [le4]) ha)
  obtain ⟨tn, HT⟩ : ∃ tn, Hid (tn = toldN x.src x.tsk) := ⟨_, hide rfl⟩
  have ht32 : tn < 32 := by rw [unhide HT]; exact bB_lt _ _ (by simp; omega) (by omega)
  have HAT : Hid (∀ (i : Nat) (q : Bool), x.tsk[i]? = some q → decide (tn &&& 2 ^ (3 + i) = 2 ^ (3 + i)) = q) := hide (fun i q hq => by rw [unhide HT]; exact told_at (by omega) (by omega) hq)
  go_enter Try.func22, Try.ntmps22
  go_wp2_with (first
    | (go_at_call 32; refine (everyRng a2 l2 c2 x.src _ (h.src.1.below (belA))).mono ?_; rw [ha]; rintro e' y2 ⟨rfl, hb2⟩; obtain ⟨hc2, hf2, hs2⟩ := bcell hb2; have hz20 : w.heap.size < y2.heap.size := (by have h9 := hb2.size; (try simp at h9); omega); have hz21 : w.heap.size + 1 < y2.heap.size := (by have h9 := hb2.size; (try simp at h9); omega))
    | (go_at_call 38; refine (told_any x a2 l2 c2 a3 l3 c3 a4 l3 c4 a6 l6 c6 a7 l7 c7 B _ (h.src.below (belA)) (h.tsk.below (belA)) (by omega) (by omega)).mono ?_; rw [← unhide HT]; rintro e' y3 ⟨rfl, hb3⟩; obtain ⟨hc3, hf3, hs3⟩ := bcell hb3; have hz30 : w.heap.size < y3.heap.size := (by have h9 := hb3.size; (try simp at h9); omega); have hz31 : w.heap.size + 1 < y3.heap.size := (by have h9 := hb3.size; (try simp at h9); omega)))
  have hQ : Below ((w.alloc (.cells #[.int .i64 x.n, .bool x.op, .slice a2 l2 c2, .slice a3 l3 c3, .slice a4 l3 c4, .int .i64 x.sfn, .slice a6 l6 c6, .slice a7 l7 c7] 32)).alloc (.cells #[.int .i64 (l2 : Int), .int .i64 (l3 : Int), .int .i64 k, .int .i64 z, .int .i64 p, .int .i64 l, .int .i64 e, .bool b, .int .i64 v, .int .i64 r] 24)).heap.size ((w.alloc (.cells #[.int .i64 x.n, .bool x.op, .slice a2 l2 c2, .slice a3 l3 c3, .slice a4 l3 c4, .int .i64 x.sfn, .slice a6 l6 c6, .slice a7 l7 c7] 32)).alloc (.cells #[.int .i64 (l2 : Int), .int .i64 (l3 : Int), .int .i64 k, .int .i64 z, .int .i64 p, .int .i64 l, .int .i64 e, .bool b, .int .i64 v, .int .i64 r] 24)) y3 := bel_trans hb2 hb3
  have hW : Below w.heap.size w y3 := bel_trans (bel_alloc (bel_one _ _) _) hQ
  have H3 := h.tsk.1.below hW
  have H4 := h.sn.below hW
  have kb0 : y3.cell? ⟨w.heap.size, 0, none⟩ = some (.int .i64 x.n) := (hQ.cell (p := ⟨w.heap.size, 0, none⟩) (by simp <;> omega)).trans (by simp [go_sem])
  have kb1 : y3.cell? ⟨w.heap.size, 1, none⟩ = some (.bool x.op) := (hQ.cell (p := ⟨w.heap.size, 1, none⟩) (by simp <;> omega)).trans (by simp [go_sem])
  have kb2 : y3.cell? ⟨w.heap.size, 2, none⟩ = some (.slice a2 l2 c2) := (hQ.cell (p := ⟨w.heap.size, 2, none⟩) (by simp <;> omega)).trans (by simp [go_sem])
  have kb3 : y3.cell? ⟨w.heap.size, 3, none⟩ = some (.slice a3 l3 c3) := (hQ.cell (p := ⟨w.heap.size, 3, none⟩) (by simp <;> omega)).trans (by simp [go_sem])
  have kb4 : y3.cell? ⟨w.heap.size, 4, none⟩ = some (.slice a4 l3 c4) := (hQ.cell (p := ⟨w.heap.size, 4, none⟩) (by simp <;> omega)).trans (by simp [go_sem])
  have kb5 : y3.cell? ⟨w.heap.size, 5, none⟩ = some (.int .i64 x.sfn) := (hQ.cell (p := ⟨w.heap.size, 5, none⟩) (by simp <;> omega)).trans (by simp [go_sem])
  have kb6 : y3.cell? ⟨w.heap.size, 6, none⟩ = some (.slice a6 l6 c6) := (hQ.cell (p := ⟨w.heap.size, 6, none⟩) (by simp <;> omega)).trans (by simp [go_sem])
  have kb7 : y3.cell? ⟨w.heap.size, 7, none⟩ = some (.slice a7 l7 c7) := (hQ.cell (p := ⟨w.heap.size, 7, none⟩) (by simp <;> omega)).trans (by simp [go_sem])
  have jb0 : y3.cell? ⟨w.heap.size + 1, 0, none⟩ = some (.int .i64 (l2 : Int)) := (hQ.cell (p := ⟨w.heap.size + 1, 0, none⟩) (by simp <;> omega)).trans (by simp [go_sem])
  have jb1 : y3.cell? ⟨w.heap.size + 1, 1, none⟩ = some (.int .i64 (l3 : Int)) := (hQ.cell (p := ⟨w.heap.size + 1, 1, none⟩) (by simp <;> omega)).trans (by simp [go_sem])
  have jb2 : y3.cell? ⟨w.heap.size + 1, 2, none⟩ = some (.int .i64 k) := (hQ.cell (p := ⟨w.heap.size + 1, 2, none⟩) (by simp <;> omega)).trans (by simp [go_sem])
  have jb3 : y3.cell? ⟨w.heap.size + 1, 3, none⟩ = some (.int .i64 z) := (hQ.cell (p := ⟨w.heap.size + 1, 3, none⟩) (by simp <;> omega)).trans (by simp [go_sem])
  have jb4 : y3.cell? ⟨w.heap.size + 1, 4, none⟩ = some (.int .i64 p) := (hQ.cell (p := ⟨w.heap.size + 1, 4, none⟩) (by simp <;> omega)).trans (by simp [go_sem])
  have jb5 : y3.cell? ⟨w.heap.size + 1, 5, none⟩ = some (.int .i64 l) := (hQ.cell (p := ⟨w.heap.size + 1, 5, none⟩) (by simp <;> omega)).trans (by simp [go_sem])
  have jb6 : y3.cell? ⟨w.heap.size + 1, 6, none⟩ = some (.int .i64 e) := (hQ.cell (p := ⟨w.heap.size + 1, 6, none⟩) (by simp <;> omega)).trans (by simp [go_sem])
  have jb7 : y3.cell? ⟨w.heap.size + 1, 7, none⟩ = some (.bool b) := (hQ.cell (p := ⟨w.heap.size + 1, 7, none⟩) (by simp <;> omega)).trans (by simp [go_sem])
  have jb8 : y3.cell? ⟨w.heap.size + 1, 8, none⟩ = some (.int .i64 v) := (hQ.cell (p := ⟨w.heap.size + 1, 8, none⟩) (by simp <;> omega)).trans (by simp [go_sem])
  have jb9 : y3.cell? ⟨w.heap.size + 1, 9, none⟩ = some (.int .i64 r) := (hQ.cell (p := ⟨w.heap.size + 1, 9, none⟩) (by simp <;> omega)).trans (by simp [go_sem])
  clear hc2 hf2 hs2 hb2 hc3 hf3 hs3 hb3 hQ hz20 hz21 ha
  go_loopw [39] (fun i wr => ∃ ix : Nat, ix ≤ l3 ∧ i = .int .i64 ix ∧ Hid (((x.tsk.zip x.sn).take ix).all (okT2 (l2 : Int) (l3 : Int) k z p l e v r) = true) ∧ Below y3.heap.size y3 wr) (fun i _ => l3 - (intOf i).toNat)
  case atStart => exact ⟨0, Nat.zero_le _, rfl, hide (by simp), Below.refl _ _⟩
  case round =>
    obtain ⟨ix, hk, rfl, hA, hbq⟩ := hrel
    have tc0 : wr.cell? ⟨w.heap.size, 0, none⟩ = some (.int .i64 x.n) := (hbq.cell (p := ⟨w.heap.size, 0, none⟩) (by simp <;> omega)).trans kb0
    have tc1 : wr.cell? ⟨w.heap.size, 1, none⟩ = some (.bool x.op) := (hbq.cell (p := ⟨w.heap.size, 1, none⟩) (by simp <;> omega)).trans kb1
    have tc2 : wr.cell? ⟨w.heap.size, 2, none⟩ = some (.slice a2 l2 c2) := (hbq.cell (p := ⟨w.heap.size, 2, none⟩) (by simp <;> omega)).trans kb2
    have tc3 : wr.cell? ⟨w.heap.size, 3, none⟩ = some (.slice a3 l3 c3) := (hbq.cell (p := ⟨w.heap.size, 3, none⟩) (by simp <;> omega)).trans kb3
    have tc4 : wr.cell? ⟨w.heap.size, 4, none⟩ = some (.slice a4 l3 c4) := (hbq.cell (p := ⟨w.heap.size, 4, none⟩) (by simp <;> omega)).trans kb4
    have tc5 : wr.cell? ⟨w.heap.size, 5, none⟩ = some (.int .i64 x.sfn) := (hbq.cell (p := ⟨w.heap.size, 5, none⟩) (by simp <;> omega)).trans kb5
    have tc6 : wr.cell? ⟨w.heap.size, 6, none⟩ = some (.slice a6 l6 c6) := (hbq.cell (p := ⟨w.heap.size, 6, none⟩) (by simp <;> omega)).trans kb6
    have tc7 : wr.cell? ⟨w.heap.size, 7, none⟩ = some (.slice a7 l7 c7) := (hbq.cell (p := ⟨w.heap.size, 7, none⟩) (by simp <;> omega)).trans kb7
    have jc0 : wr.cell? ⟨w.heap.size + 1, 0, none⟩ = some (.int .i64 (l2 : Int)) := (hbq.cell (p := ⟨w.heap.size + 1, 0, none⟩) (by simp <;> omega)).trans jb0
    have jc1 : wr.cell? ⟨w.heap.size + 1, 1, none⟩ = some (.int .i64 (l3 : Int)) := (hbq.cell (p := ⟨w.heap.size + 1, 1, none⟩) (by simp <;> omega)).trans jb1
    have jc2 : wr.cell? ⟨w.heap.size + 1, 2, none⟩ = some (.int .i64 k) := (hbq.cell (p := ⟨w.heap.size + 1, 2, none⟩) (by simp <;> omega)).trans jb2
    have jc3 : wr.cell? ⟨w.heap.size + 1, 3, none⟩ = some (.int .i64 z) := (hbq.cell (p := ⟨w.heap.size + 1, 3, none⟩) (by simp <;> omega)).trans jb3
    have jc4 : wr.cell? ⟨w.heap.size + 1, 4, none⟩ = some (.int .i64 p) := (hbq.cell (p := ⟨w.heap.size + 1, 4, none⟩) (by simp <;> omega)).trans jb4
    have jc5 : wr.cell? ⟨w.heap.size + 1, 5, none⟩ = some (.int .i64 l) := (hbq.cell (p := ⟨w.heap.size + 1, 5, none⟩) (by simp <;> omega)).trans jb5
    have jc6 : wr.cell? ⟨w.heap.size + 1, 6, none⟩ = some (.int .i64 e) := (hbq.cell (p := ⟨w.heap.size + 1, 6, none⟩) (by simp <;> omega)).trans jb6
    have jc7 : wr.cell? ⟨w.heap.size + 1, 7, none⟩ = some (.bool b) := (hbq.cell (p := ⟨w.heap.size + 1, 7, none⟩) (by simp <;> omega)).trans jb7
    have jc8 : wr.cell? ⟨w.heap.size + 1, 8, none⟩ = some (.int .i64 v) := (hbq.cell (p := ⟨w.heap.size + 1, 8, none⟩) (by simp <;> omega)).trans jb8
    have jc9 : wr.cell? ⟨w.heap.size + 1, 9, none⟩ = some (.int .i64 r) := (hbq.cell (p := ⟨w.heap.size + 1, 9, none⟩) (by simp <;> omega)).trans jb9
    have hz2 : w.heap.size + 1 < wr.heap.size := by have h9 := hbq.size; omega
    have hz1 : w.heap.size < wr.heap.size := by omega
    by_cases hlt : ix < l3
    · obtain ⟨hxl, _, hx⟩ := H3
      obtain ⟨hxl4, _, hx4⟩ := H4
      obtain ⟨g2, o2, rfl, _, hrr4⟩ := hx4.resolve_left (by omega)
      obtain ⟨qb, hqk⟩ : ∃ y, x.tsk[ix]? = some y := ⟨_, List.getElem?_eq_getElem (by omega)⟩
      obtain ⟨y, hyk⟩ : ∃ y, x.sn[ix]? = some y := ⟨_, List.getElem?_eq_getElem (by omega)⟩
      have t1 := (hrr4 ix _ hyk).below hbq
      have hg2 := t1.lt
      have hX := hide (zip_at hqk hyk)
      obtain ⟨qa1, ql1, qc1, qa2, ql2, qc2, ⟨d0, d1, d2⟩, k1, k2⟩ := t1
      obtain ⟨pb, hpb⟩ : ∃ pb : Nat, Hid (pb = 2 ^ (3 + ix)) := ⟨_, hide rfl⟩
      have hp32 : pb < 32 := by
        rw [unhide hpb]
        have : ix = 0 ∨ ix = 1 := by omega
        rcases this with rfl | rfl <;> decide
      have HD : Hid (decide (tn &&& pb = pb) = qb) := hide (by rw [unhide hpb]; exact unhide HAT ix qb hqk)
      clear hx hyk hx4 hqk hrr4
      cases qb
      · cases hB : nothSn y
        · have HE : Hid ((x.tsk.zip x.sn).all (okT2 (l2 : Int) (l3 : Int) k z p l e v r) = false) := hide (all_ff (unhide hX) hB)
          go_wp2_with (first
            | (go_at_call 40; refine (tbit_any ix (by omega) pb hpb _).mono ?_; rintro e' w5 ⟨rfl, hw⟩; obtain rfl := hw.symm; clear hw)
            | (go_at_call 39; refine (has_any tn pb ht32 hp32 _).mono ?_; rw [unhide HD]; rintro e' w6 ⟨rfl, hw⟩; obtain rfl := hw.symm; clear hw)
            | (go_at_call 41; refine (noth_any y qa1 ql1 qc1 qa2 ql2 qc2 _ k1.len.1 k2.len.1).mono ?_; rw [hB]; rintro e' w7 ⟨rfl, hb7⟩; obtain ⟨hc7, hf7, hs7⟩ := bcell hb7))
          go_ret
          exact ⟨ret_b (by rw [unhide HV, unhide HE]; rfl), (belA)⟩
        · have HE : Hid (((x.tsk.zip x.sn).take (ix + 1)).all (okT2 (l2 : Int) (l3 : Int) k z p l e v r) = true) := hide (all_tt (unhide hA) (unhide hX) hB)
          go_wp2_with (first
            | (go_at_call 40; refine (tbit_any ix (by omega) pb hpb _).mono ?_; rintro e' w5 ⟨rfl, hw⟩; obtain rfl := hw.symm; clear hw)
            | (go_at_call 39; refine (has_any tn pb ht32 hp32 _).mono ?_; rw [unhide HD]; rintro e' w6 ⟨rfl, hw⟩; obtain rfl := hw.symm; clear hw)
            | (go_at_call 41; refine (noth_any y qa1 ql1 qc1 qa2 ql2 qc2 _ k1.len.1 k2.len.1).mono ?_; rw [hB]; rintro e' w7 ⟨rfl, hb7⟩; obtain ⟨hc7, hf7, hs7⟩ := bcell hb7))
          go_roundw
          case rel => exact ⟨ix + 1, by omega, by go_num, HE, (belA)⟩
          case measure => simp [intOf]; omega
      · cases hB : okSn (l2 : Int) (l3 : Int) k z p l e v r y
        · have HE : Hid ((x.tsk.zip x.sn).all (okT2 (l2 : Int) (l3 : Int) k z p l e v r) = false) := hide (all_ff (unhide hX) hB)
          go_wp2_with (first
            | (go_at_call 40; refine (tbit_any ix (by omega) pb hpb _).mono ?_; rintro e' w5 ⟨rfl, hw⟩; obtain rfl := hw.symm; clear hw)
            | (go_at_call 39; refine (has_any tn pb ht32 hp32 _).mono ?_; rw [unhide HD]; rintro e' w6 ⟨rfl, hw⟩; obtain rfl := hw.symm; clear hw)
            | (go_at_call 36; refine (snapok_any (l2 : Int) (l3 : Int) k z p l e b v r y qa1 ql1 qc1 qa2 ql2 qc2 B _ (k1.below (belA)) (k2.below (belA))).mono ?_; rw [hB]; rintro e' w7 ⟨rfl, hb7⟩; obtain ⟨hc7, hf7, hs7⟩ := bcell hb7))
          go_ret
          exact ⟨ret_b (by rw [unhide HV, unhide HE]; rfl), (belA)⟩
        · have HE : Hid (((x.tsk.zip x.sn).take (ix + 1)).all (okT2 (l2 : Int) (l3 : Int) k z p l e v r) = true) := hide (all_tt (unhide hA) (unhide hX) hB)
          go_wp2_with (first
            | (go_at_call 40; refine (tbit_any ix (by omega) pb hpb _).mono ?_; rintro e' w5 ⟨rfl, hw⟩; obtain rfl := hw.symm; clear hw)
            | (go_at_call 39; refine (has_any tn pb ht32 hp32 _).mono ?_; rw [unhide HD]; rintro e' w6 ⟨rfl, hw⟩; obtain rfl := hw.symm; clear hw)
            | (go_at_call 36; refine (snapok_any (l2 : Int) (l3 : Int) k z p l e b v r y qa1 ql1 qc1 qa2 ql2 qc2 B _ (k1.below (belA)) (k2.below (belA))).mono ?_; rw [hB]; rintro e' w7 ⟨rfl, hb7⟩; obtain ⟨hc7, hf7, hs7⟩ := bcell hb7))
          go_roundw
          case rel => exact ⟨ix + 1, by omega, by go_num, HE, (belA)⟩
          case measure => simp [intOf]; omega
    · have HE : Hid (toldB (l2 : Int) (l3 : Int) k z p l e v r x = (x.op || decide (tn = 0))) := hide (by rw [unhide HV, all_end (unhide hA) (by simp; omega), unhide HT]; rfl)
      cases hop : x.op
      · rw [hop] at HE tc1
        by_cases hz : tn = 0
        · have HE2 : Hid (toldB (l2 : Int) (l3 : Int) k z p l e v r x = true) := hide (by rw [unhide HE, decide_eq_true hz]; rfl)
          have hz9 : ((tn : Int) == 0) = true := by simp [hz]
          clear hz
          go_wp2
          go_ret
          exact ⟨ret_b (unhide HE2).symm, (belA)⟩
        · have HE2 : Hid (toldB (l2 : Int) (l3 : Int) k z p l e v r x = false) := hide (by rw [unhide HE, decide_eq_false hz]; rfl)
          have hz9 : ((tn : Int) == 0) = false := beq_eq_false_iff_ne.2 (by omega)
          go_wp2
          go_ret
          exact ⟨ret_b (unhide HE2).symm, (belA)⟩
      · rw [hop] at HE tc1
        have HE2 : Hid (toldB (l2 : Int) (l3 : Int) k z p l e v r x = true) := hide (by rw [unhide HE]; rfl)
        go_wp2
        go_ret
        exact ⟨ret_b (unhide HE2).symm, (belA)⟩
end Go.Proofs.Ytabphkmhafflbaa
