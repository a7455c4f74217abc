/- Laid together: what the claim needs of the texts that were built one by one. -/
import Derived.Test.YtabphkmhafflbaaPkFrCkp
import Derived.Test.YtabphkmhafflbaaPkCkpW
import Derived.Test.YtabphkmhafflbaaPkCkpJ
import Derived.Test.YtabphkmhafflbaaPkCkpRL
import Derived.Test.YtabphkmhafflbaaPkAnyJob
import Derived.Test.YtabphkmhafflbaaPkFrOk
import Derived.Test.YtabphkmhafflbaaPkBase
namespace Go.Proofs.Ytabphkmhafflbaa
open Go.ChangeShapes Go.WideShapes Go.ChangeAt Go.RowKit
set_option linter.unusedVariables false
set_option linter.unusedSimpArgs false

theorem newC_m {w : World} {src : List Int} {tsk : List Bool} {sn : List SnD} {at_ : List Int} {ssn : List SnD} {e : Ending} {w' : World} (h : NewC w ⟨0, false, src, tsk, sn, 0, at_, ssn⟩ e w') : ∃ (a2 : Option Addr) (c2 : Nat) (a3 : Option Addr) (c3 : Nat) (a4 : Option Addr) (c4 : Nat) (a6 : Option Addr) (c6 : Nat) (a7 : Option Addr) (c7 : Nat), e = .returned (.agg #[.int .i64 0, .bool false, .slice a2 src.length c2, .slice a3 tsk.length c3, .slice a4 sn.length c4, .int .i64 0, .slice a6 at_.length c6, .slice a7 ssn.length c7]) ∧ CkM w' w.heap.size a2 a3 a4 a6 a7 ⟨0, false, src, tsk, sn, 0, at_, ssn⟩ ∧ Below w.heap.size w w' := by
  obtain ⟨a2, c2, a3, c3, a4, c4, a6, c6, a7, c7, v4, v7, rfl, hM, _, _, hb⟩ := h
  exact ⟨a2, c2, a3, c3, a4, c4, a6, c6, a7, c7, rfl, hM, hb⟩

theorem specnewc_is (s t k z p l e : Int) (b : Bool) (v r : Int) (src : List Int) (tsk : List Bool) (sn : List SnD) (at_ : List Int) (ssn : List SnD) (w : World) (h : Hid (ckOf s t k z p l e v r = ⟨0, false, src, tsk, sn, 0, at_, ssn⟩)) : Calls Try.prog 7 #[.agg #[.int .i64 s, .int .i64 t, .int .i64 k, .int .i64 z, .int .i64 p, .int .i64 l, .int .i64 e, .bool b, .int .i64 v, .int .i64 r]] w fun e' w' => ∃ (a2 : Option Addr) (c2 : Nat) (a3 : Option Addr) (c3 : Nat) (a4 : Option Addr) (c4 : Nat) (a6 : Option Addr) (c6 : Nat) (a7 : Option Addr) (c7 : Nat), e' = .returned (.agg #[.int .i64 0, .bool false, .slice a2 src.length c2, .slice a3 tsk.length c3, .slice a4 sn.length c4, .int .i64 0, .slice a6 at_.length c6, .slice a7 ssn.length c7]) ∧ CkM w' w.heap.size a2 a3 a4 a6 a7 ⟨0, false, src, tsk, sn, 0, at_, ssn⟩ ∧ Below w.heap.size w w' := by
  refine (specnewc_any s t k z p l e b v r w).mono (fun e' w' h9 => ?_)
  rw [unhide h] at h9
  exact newC_m h9

theorem implnewc_is (s t k z p l e : Int) (b : Bool) (v r : Int) (src : List Int) (tsk : List Bool) (sn : List SnD) (at_ : List Int) (ssn : List SnD) (w : World) (h : Hid (ckOf s t k z p l e v r = ⟨0, false, src, tsk, sn, 0, at_, ssn⟩)) : Calls Try.prog 5 #[.agg #[.int .i64 s, .int .i64 t, .int .i64 k, .int .i64 z, .int .i64 p, .int .i64 l, .int .i64 e, .bool b, .int .i64 v, .int .i64 r]] w fun e' w' => ∃ (a2 : Option Addr) (c2 : Nat) (a3 : Option Addr) (c3 : Nat) (a4 : Option Addr) (c4 : Nat) (a6 : Option Addr) (c6 : Nat) (a7 : Option Addr) (c7 : Nat), e' = .returned (.agg #[.int .i64 0, .bool false, .slice a2 src.length c2, .slice a3 tsk.length c3, .slice a4 sn.length c4, .int .i64 0, .slice a6 at_.length c6, .slice a7 ssn.length c7]) ∧ CkM w' w.heap.size a2 a3 a4 a6 a7 ⟨0, false, src, tsk, sn, 0, at_, ssn⟩ ∧ Below w.heap.size w w' := by
  refine (implnewc_any s t k z p l e b v r w).mono (fun e' w' h9 => ?_)
  rw [unhide h] at h9
  exact newC_m h9

theorem ckOf_is (s t k z p l e v r : Int) : ∃ (src : List Int) (tsk : List Bool) (sn : List SnD) (at_ : List Int) (ssn : List SnD), ckOf s t k z p l e v r = ⟨0, false, src, tsk, sn, 0, at_, ssn⟩ ∧ (∀ x ∈ sn, x.rows = []) ∧ (∀ x ∈ ssn, x.rows = []) ∧ CkLim ⟨0, false, src, tsk, sn, 0, at_, ssn⟩ ∧ (okJob s t k z p l e v r = true → (ssn.length : Int) = t ∧ okCk s t k z p l e v r ⟨0, false, src, tsk, sn, 0, at_, ssn⟩ = true) := by
  unfold ckOf
  by_cases hj : okJob s t k z p l e v r = true
  · rw [if_pos hj]
    obtain ⟨⟨h1, h2⟩, h3, h4⟩ := okJob_st hj
    have hs : s = 1 ∨ s = 2 ∨ s = 3 := by omega
    have ht : t = 1 ∨ t = 2 := by omega
    have hL : ∀ x ∈ List.replicate t.toNat (⟨0, [], []⟩ : SnD), x.rows = [] := fun x hx => by rw [(List.mem_replicate.1 hx).2]
    have hL2 : ∀ x ∈ List.replicate t.toNat (⟨0, [], List.replicate s.toNat 0⟩ : SnD), x.rows = [] := fun x hx => by rw [(List.mem_replicate.1 hx).2]
    refine ⟨_, _, _, _, _, rfl, hL, hL2, ?_, fun _ => ⟨by simp; omega, ?_⟩⟩
    · refine ⟨by simp; omega, by simp; omega, ⟨by simp; omega, fun y hy => ?_⟩, by simp; omega, ⟨by simp; omega, fun y hy => ?_⟩⟩
      · rw [(List.mem_replicate.1 hy).2]; simp
      · rw [(List.mem_replicate.1 hy).2]; simp; omega
    · clear h1 h2 h3 h4 hL hL2
      rcases hs with rfl | rfl | rfl <;> rcases ht with rfl | rfl <;> simp [okCk, okCs, okSn, okOp, okTk, okSrc, okAtI, okMk, lowM, hj, inB, List.replicate] <;> exact ⟨⟨rfl, by decide⟩, rfl⟩
  · rw [if_neg hj]
    exact ⟨[], [], [], [], [], rfl, fun x hx => (by cases hx), fun x hx => (by cases hx), ⟨by simp, by simp, ⟨by simp, fun y hy => (by cases hy)⟩, by simp, ⟨by simp, fun y hy => (by cases hy)⟩⟩, fun h => absurd h hj⟩

theorem specjob_is (s t k z p l e : Int) (b : Bool) (v r : Int) (w : World) {o : Bool} (h : Hid (okJob s t k z p l e v r = o)) : Calls Try.prog 8 #[.agg #[.int .i64 s, .int .i64 t, .int .i64 k, .int .i64 z, .int .i64 p, .int .i64 l, .int .i64 e, .bool b, .int .i64 v, .int .i64 r]] w fun e' w' => e' = .returned (.bool o) ∧ Below w.heap.size w w' := by
  have h9 := specjobok_any s t k z p l e b v r w
  rw [unhide h] at h9
  exact h9

theorem ckNo {s t k z p l e v r : Int} {x : CkD} (h : okJob s t k z p l e v r = false) : okCk s t k z p l e v r x = false := by simp [okCk, h]

theorem okck_is (s t k z p l e : Int) (b : Bool) (v r : Int) (src : List Int) (tsk : List Bool) (sn : List SnD) (at_ : List Int) (ssn : List SnD) (a2 a3 a4 a6 a7 : Option Addr) (c2 c3 c4 c6 c7 B : Nat) (w : World) {o : Bool} (h : CkM w B a2 a3 a4 a6 a7 ⟨0, false, src, tsk, sn, 0, at_, ssn⟩) (ho : Hid (okCk s t k z p l e v r ⟨0, false, src, tsk, sn, 0, at_, ssn⟩ = o)) : Calls Try.prog 9 #[.agg #[.int .i64 s, .int .i64 t, .int .i64 k, .int .i64 z, .int .i64 p, .int .i64 l, .int .i64 e, .bool b, .int .i64 v, .int .i64 r], .agg #[.int .i64 0, .bool false, .slice a2 src.length c2, .slice a3 tsk.length c3, .slice a4 sn.length c4, .int .i64 0, .slice a6 at_.length c6, .slice a7 ssn.length c7]] w fun e' w' => e' = .returned (.bool o) ∧ Below w.heap.size w w' := by
  have h9 := implckpok_any s t k z p l e b v r ⟨0, false, src, tsk, sn, 0, at_, ssn⟩ a2 src.length c2 a3 tsk.length c3 a4 sn.length c4 a6 at_.length c6 a7 ssn.length c7 B w ⟨h.1, h.2.1, h.2.2.1, h.2.2.2.1, h.2.2.2.2⟩
  rw [unhide ho] at h9
  exact h9

theorem ready_is (s t k z p l e : Int) (b : Bool) (v r : Int) (src : List Int) (tsk : List Bool) (sn : List SnD) (at_ : List Int) (ssn : List SnD) (a2 a3 a4 a6 a7 : Option Addr) (c2 c3 c4 c6 c7 B : Nat) (w : World) (h : CkM w B a2 a3 a4 a6 a7 ⟨0, false, src, tsk, sn, 0, at_, ssn⟩) (hL : CkLim ⟨0, false, src, tsk, sn, 0, at_, ssn⟩) : Calls Try.prog 12 #[.agg #[.int .i64 s, .int .i64 t, .int .i64 k, .int .i64 z, .int .i64 p, .int .i64 l, .int .i64 e, .bool b, .int .i64 v, .int .i64 r], .agg #[.int .i64 0, .bool false, .slice a2 src.length c2, .slice a3 tsk.length c3, .slice a4 sn.length c4, .int .i64 0, .slice a6 at_.length c6, .slice a7 ssn.length c7]] w fun e' w' => e' = .returned (.bool false) ∧ Below w.heap.size w w' :=
  implckpready_eq s t k z p l e b v r ⟨0, false, src, tsk, sn, 0, at_, ssn⟩ a2 src.length c2 a3 tsk.length c3 a4 sn.length c4 a6 at_.length c6 a7 ssn.length c7 B w (ob := false) ⟨h.1, h.2.1, h.2.2.1, h.2.2.2.1, h.2.2.2.2⟩ hL.2.2.1.2 (hide (by simp [rdyB]))

theorem save_is (s t k z p l e : Int) (b : Bool) (v r : Int) (src : List Int) (tsk : List Bool) (sn : List SnD) (at_ : List Int) (ssn : List SnD) (a2 a3 a4 a6 a7 : Option Addr) (c2 c3 c4 c6 c7 B : Nat) (w : World) (h : CkM w B a2 a3 a4 a6 a7 ⟨0, false, src, tsk, sn, 0, at_, ssn⟩) (hL : CkLim ⟨0, false, src, tsk, sn, 0, at_, ssn⟩) (ho : Hid (okCk s t k z p l e v r ⟨0, false, src, tsk, sn, 0, at_, ssn⟩ = true)) : Calls Try.prog 11 #[.agg #[.int .i64 s, .int .i64 t, .int .i64 k, .int .i64 z, .int .i64 p, .int .i64 l, .int .i64 e, .bool b, .int .i64 v, .int .i64 r], .agg #[.int .i64 0, .bool false, .slice a2 src.length c2, .slice a3 tsk.length c3, .slice a4 sn.length c4, .int .i64 0, .slice a6 at_.length c6, .slice a7 ssn.length c7]] w fun e' w' => ∃ (b2 : Option Addr) (d2 : Nat) (b3 : Option Addr) (d3 : Nat) (b4 : Option Addr) (d4 : Nat) (b6 : Option Addr) (d6 : Nat) (b7 : Option Addr) (d7 : Nat), e' = .returned (.tuple #[.agg #[.int .i64 0, .bool false, .slice b2 src.length d2, .slice b3 tsk.length d3, .slice b4 sn.length d4, .int .i64 0, .slice b6 at_.length d6, .slice b7 ssn.length d7], .bool false]) ∧ CkM w' w.heap.size b2 b3 b4 b6 b7 ⟨0, false, src, tsk, sn, 0, at_, ssn⟩ ∧ Below w.heap.size w w' := by
  have h9 := implsave_any s t k z p l e b v r ⟨0, false, src, tsk, sn, 0, at_, ssn⟩ a2 src.length c2 a3 tsk.length c3 a4 sn.length c4 a6 at_.length c6 a7 ssn.length c7 B w ⟨h.1, h.2.1, h.2.2.1, h.2.2.2.1, h.2.2.2.2⟩ hL
  have e1 : saveD (okCk s t k z p l e v r ⟨0, false, src, tsk, sn, 0, at_, ssn⟩) s t ⟨0, false, src, tsk, sn, 0, at_, ssn⟩ = (⟨0, false, src, tsk, sn, 0, at_, ssn⟩, false) := by
    unfold saveD; rw [unhide ho]; simp [rdyB]
  rw [e1] at h9
  refine h9.mono ?_
  rintro e' w' ⟨ev, rfl, b2, d2, b3, d3, b4, d4, b6, d6, b7, d7, v4, v7, hev, hM, hrest⟩
  simp only [Ending.returned.injEq] at hev
  subst hev
  exact ⟨b2, d2, b3, d3, b4, d4, b6, d6, b7, d7, rfl, hM, by first | exact hrest.2.2 | exact hrest.2⟩
end Go.Proofs.Ytabphkmhafflbaa
