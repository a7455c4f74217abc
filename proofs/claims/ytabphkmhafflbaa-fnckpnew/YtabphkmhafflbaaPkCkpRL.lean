/- Laid together: what the claim needs of the texts that were built one by one. -/
import Derived.Test.YtabphkmhafflbaaPkCkpRd
import Derived.Test.YtabphkmhafflbaaPkBase
namespace Go.Proofs.Ytabphkmhafflbaa
open Go.ChangeShapes Go.WideShapes Go.ChangeAt Go.RowKit Go.Deep
set_option linter.unusedVariables false

set_option maxRecDepth 20000 in
set_option maxHeartbeats 2000000 in
theorem implckpready_any (s t k z p l e : Int) (b : Bool) (v r : Int) (x : CkD) (a2 : Option Addr) (l2 c2 : Nat) (a3 : Option Addr) (l3 c3 : Nat) (a4 : Option Addr) (l4 c4 : Nat) (a6 : Option Addr) (l6 c6 : Nat) (a7 : Option Addr) (l7 c7 : Nat) (B : Nat) (w : World) (h : CkIs w B a2 l2 a3 l3 a4 l4 a6 l6 a7 l7 x) (hsm : ∀ y ∈ x.sn, y.sm) : Calls Try.prog 12 #[.agg #[.int .i64 s, .int .i64 t, .int .i64 k, .int .i64 z, .int .i64 p, .int .i64 l, .int .i64 e, .bool b, .int .i64 v, .int .i64 r], .agg #[.int .i64 x.n, .bool x.op, .slice a2 l2 c2, .slice a3 l3 c3, .slice a4 l4 c4, .int .i64 x.sfn, .slice a6 l6 c6, .slice a7 l7 c7]] w fun e' w' => e' = .returned (.bool (okCk s t k z p l e v r x && rdyB x)) ∧ Below w.heap.size w w' := by
  cases ho : okCk s t k z p l e v r x
  · go_enter Try.func12, Try.ntmps12
    go_wp2_with (go_at_call 9; refine (implckpok_any s t k z p l e b v r x a2 l2 c2 a3 l3 c3 a4 l4 c4 a6 l6 c6 a7 l7 c7 B _ (h.below (belA))).mono ?_; rw [ho]; rintro e' y1 ⟨rfl, hb1⟩; obtain ⟨hc1, hf1, hs1⟩ := bcell hb1; have hz10 : w.heap.size < y1.heap.size := (by have h9 := hb1.size; (try simp at h9); omega); have hz11 : w.heap.size + 1 < y1.heap.size := (by have h9 := hb1.size; (try simp at h9); omega))
    go_ret
    exact ⟨rfl, (belA)⟩
  · have HR : Hid ((x.op && ((x.src.map hasT).all id && x.tsk.all id)) = rdyB x) := hide (rdy_eq ho)
    have hls := okCk_and ho
    have le2 := h.src.len.1
    have le3 := h.tsk.len.1
    obtain ⟨hs3, ht2⟩ : s ≤ 3 ∧ t ≤ 2 := by
      have h9 := ho
      unfold okCk at h9
      simp only [Bool.and_eq_true] at h9
      have h8 := h9.1.1.1.1.1.1.1.1
      unfold okJob at h8
      simp only [Bool.and_eq_true] at h8
      exact ⟨(inB_iff.1 h8.1.1.1.1.1.1.1.1).2, (inB_iff.1 h8.1.1.1.1.1.1.1.2).2⟩
    obtain ⟨hl1, hl2, _⟩ := hls
    rw [le2] at hl1
    rw [le3] at hl2
    subst hl1
    subst hl2
    go_enter Try.func12, Try.ntmps12
    go_wp2_with (first
      | (go_at_call 9; refine (implckpok_any (l2 : Int) (l3 : Int) k z p l e b v r x a2 l2 c2 a3 l3 c3 a4 l4 c4 a6 l6 c6 a7 l7 c7 B _ (h.below (belA))).mono ?_; rw [ho]; rintro e' y1 ⟨rfl, hb1⟩; obtain ⟨hc1, hf1, hs1⟩ := bcell hb1; have hz10 : w.heap.size < y1.heap.size := (by have h9 := hb1.size; (try simp at h9); omega); have hz11 : w.heap.size + 1 < y1.heap.size := (by have h9 := hb1.size; (try simp at h9); omega))
      | (go_at_call 26; refine (isready_any k z p l e b v r x.n x.op x.src x.tsk x.sn x.sfn x.at_ x.ssn a2 l2 c2 a3 l3 c3 a4 l4 c4 a6 l6 c6 a7 l7 c7 B _ (h.below (belA)) (by omega) (by omega)).mono ?_; rw [unhide HR]; rintro e' y2 ⟨rfl, hb2⟩))
    go_ret
    exact ⟨by simp, (belA)⟩

theorem implckpready_eq (s t k z p l e : Int) (b : Bool) (v r : Int) (x : CkD) (a2 : Option Addr) (l2 c2 : Nat) (a3 : Option Addr) (l3 c3 : Nat) (a4 : Option Addr) (l4 c4 : Nat) (a6 : Option Addr) (l6 c6 : Nat) (a7 : Option Addr) (l7 c7 : Nat) (B : Nat) (w : World) {ob : Bool} (h : CkIs w B a2 l2 a3 l3 a4 l4 a6 l6 a7 l7 x) (hsm : ∀ y ∈ x.sn, y.sm) (hV : Hid ((okCk s t k z p l e v r x && rdyB x) = ob)) : Calls Try.prog 12 #[.agg #[.int .i64 s, .int .i64 t, .int .i64 k, .int .i64 z, .int .i64 p, .int .i64 l, .int .i64 e, .bool b, .int .i64 v, .int .i64 r], .agg #[.int .i64 x.n, .bool x.op, .slice a2 l2 c2, .slice a3 l3 c3, .slice a4 l4 c4, .int .i64 x.sfn, .slice a6 l6 c6, .slice a7 l7 c7]] w fun e' w' => e' = .returned (.bool ob) ∧ Below w.heap.size w w' := by
  rw [← unhide hV]; exact implckpready_any s t k z p l e b v r x a2 l2 c2 a3 l3 c3 a4 l4 c4 a6 l6 c6 a7 l7 c7 B w h hsm
end Go.Proofs.Ytabphkmhafflbaa
