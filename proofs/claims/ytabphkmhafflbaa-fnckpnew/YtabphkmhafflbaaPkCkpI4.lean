/- Laid together: what the claim needs of the texts that were built one by one. -/
import Derived.Test.YtabphkmhafflbaaPkCkpI3
import Derived.Test.YtabphkmhafflbaaPkBase
namespace Go.Proofs.Ytabphkmhafflbaa
open Go.ChangeShapes Go.WideShapes Go.ChangeAt Go.RowKit Go.Deep
set_option linter.unusedVariables false

/-- What the program asks is what the specification asks. -/
def okCkI (s t k z p l e v r : Int) (x : CkD) : Bool := okJob s t k z p l e v r && okCs s t k z p l e v r ⟨x.sfn, x.at_, x.ssn⟩ && toldB s t k z p l e v r x && inB x.n x.sfn 900 && (!x.op || decide (x.sfn < x.n))

theorem zip_all_f {s t k z p l e v r : Int} : ∀ (tk : List Bool) (sn : List SnD), tk.length = sn.length → (tk.zip sn).all (okTk s t k z p l e v r false) = ((tk.zip sn).all (okT2 s t k z p l e v r) && tk.all (!·))
  | [], [], _ => rfl
  | q :: tk, y :: sn, h => by
    have ih := zip_all_f (s := s) (t := t) (k := k) (z := z) (p := p) (l := l) (e := e) (v := v) (r := r) tk sn (by simpa using h)
    simp only [List.zip_cons_cons, List.all_cons, ih]
    cases q
    · show (nothSn y && _) = ((nothSn y && _) && (true && _))
      cases nothSn y <;> simp
    · show (false && _) = ((okSn s t k z p l e v r y && _) && (false && _))
      simp
  | [], _ :: _, h => by simp at h
  | _ :: _, [], h => by simp at h

theorem zip_all_t {s t k z p l e v r : Int} (l9 : List (Bool × SnD)) : l9.all (okTk s t k z p l e v r true) = l9.all (okT2 s t k z p l e v r) := by
  have e9 : okTk s t k z p l e v r true = okT2 s t k z p l e v r := by
    funext q
    obtain ⟨q1, y⟩ := q
    cases q1
    · rfl
    · show (true && okSn s t k z p l e v r y) = okSn s t k z p l e v r y
      simp
  rw [e9]

theorem src_f : ∀ (l : List Int), l.all (okSrc false) = (l.all okRngI && (l.map hasT).all (!·))
  | [] => rfl
  | m :: r => by
    simp only [List.all_cons, List.map_cons, src_f r]
    show ((inB m (-1) 40 && (false || m == -1)) && _) = ((inB m (-1) 40 && _) && ((!(!(m == -1))) && _))
    cases inB m (-1) 40 <;> cases (m == -1) <;> simp

theorem src_t (l : List Int) : l.all (okSrc true) = l.all okRngI := by
  have e9 : okSrc true = okRngI := by
    funext m
    show (inB m (-1) 40 && (true || m == -1)) = inB m (-1) 40
    simp
  rw [e9]

theorem okCkI_eq (s t k z p l e v r : Int) (x : CkD) : okCkI s t k z p l e v r x = okCk s t k z p l e v r x := by
  unfold okCkI okCk
  cases hj : okJob s t k z p l e v r
  · simp
  have hb : s ≤ 3 ∧ t ≤ 2 := by unfold okJob at hj; simp only [Bool.and_eq_true] at hj; exact ⟨(inB_iff.1 hj.1.1.1.1.1.1.1.1).2, (inB_iff.1 hj.1.1.1.1.1.1.1.2).2⟩
  cases hi : inB x.n x.sfn 900
  · simp
  have hq : (!x.op || decide (x.sfn < x.n)) = !(x.op && x.n == x.sfn) := by
    have h9 := (inB_iff.1 hi).1
    cases x.op
    · rfl
    · by_cases he : x.n = x.sfn
      · rw [decide_eq_false (by omega)]; simp [he]
      · rw [decide_eq_true (by omega)]; simp [he]
  rw [hq]
  cases hn : !(x.op && x.n == x.sfn)
  · simp
  cases hc : okCs s t k z p l e v r ⟨x.sfn, x.at_, x.ssn⟩
  · simp
  unfold toldB
  by_cases h1 : (x.src.length : Int) = s
  rotate_left
  · simp [h1]
  by_cases h2 : (x.tsk.length : Int) = t
  rotate_left
  · simp [h2]
  by_cases h3 : (x.sn.length : Int) = t
  rotate_left
  · simp [h3]
  rw [decide_eq_true h1, decide_eq_true h2, decide_eq_true h3]
  simp only [Bool.true_and, Bool.and_true]
  cases hop : x.op
  · rw [src_f, zip_all_f x.tsk x.sn (by omega), told_zero (by omega) (by omega)]
    cases x.src.all okRngI <;> cases (x.tsk.zip x.sn).all (okT2 s t k z p l e v r) <;> cases (x.src.map hasT).all (!·) <;> cases x.tsk.all (!·) <;> rfl
  · rw [src_t, zip_all_t]
    simp

set_option maxRecDepth 20000 in
set_option maxHeartbeats 4000000 in
theorem implckpok_any (s t k z p l e : Int) (b : Bool) (v r : Int) (x : CkD) (a2 : Option Addr) (l2 c2 : Nat) (a3 : Option Addr) (l3 c3 : Nat) (a4 : Option Addr) (l4 c4 : Nat) (a6 : Option Addr) (l6 c6 : Nat) (a7 : Option Addr) (l7 c7 : Nat) (B : Nat) (w : World) (h : CkIs w B a2 l2 a3 l3 a4 l4 a6 l6 a7 l7 x) : Calls Try.prog 9 #[.agg #[.int .i64 s, .int .i64 t, .int .i64 k, .int .i64 z, .int .i64 p, .int .i64 l, .int .i64 e, .bool b, .int .i64 v, .int .i64 r], .agg #[.int .i64 x.n, .bool x.op, .slice a2 l2 c2, .slice a3 l3 c3, .slice a4 l4 c4, .int .i64 x.sfn, .slice a6 l6 c6, .slice a7 l7 c7]] w fun e' w' => e' = .returned (.bool (okCk s t k z p l e v r x)) ∧ Below w.heap.size w w' := by
  rw [← okCkI_eq]
  cases hj : okJob s t k z p l e v r
  · skip
    have HE : Hid (okCkI s t k z p l e v r x = false) := hide (by unfold okCkI; rw [hj]; rfl)
    go_enter Try.func9, Try.ntmps9
    go_wp2_with (first
        | (go_at_call 15; refine (impljobok_any _ _ _ _ _ _ _ _ _ _ _).mono ?_; rw [hj]; rintro e' y1 ⟨rfl, hb1⟩; obtain ⟨hc1, hf1, hs1⟩ := bcell hb1; have hz10 : w.heap.size < y1.heap.size := (by have h9 := hb1.size; (try simp at h9); omega); have hz11 : w.heap.size + 1 < y1.heap.size := (by have h9 := hb1.size; (try simp at h9); omega)))
    go_ret
    exact ⟨ret_b (unhide HE).symm, (belA)⟩
  obtain ⟨hs3, ht2⟩ : s ≤ 3 ∧ t ≤ 2 := by have h9 := hj; unfold okJob at h9; simp only [Bool.and_eq_true] at h9; exact ⟨(inB_iff.1 h9.1.1.1.1.1.1.1.1).2, (inB_iff.1 h9.1.1.1.1.1.1.1.2).2⟩
  cases hc : okCs s t k z p l e v r ⟨x.sfn, x.at_, x.ssn⟩
  · skip
    have HE : Hid (okCkI s t k z p l e v r x = false) := hide (by unfold okCkI; rw [hj, hc]; rfl)
    go_enter Try.func9, Try.ntmps9
    go_wp2_with (first
        | (go_at_call 15; refine (impljobok_any _ _ _ _ _ _ _ _ _ _ _).mono ?_; rw [hj]; rintro e' y1 ⟨rfl, hb1⟩; obtain ⟨hc1, hf1, hs1⟩ := bcell hb1; have hz10 : w.heap.size < y1.heap.size := (by have h9 := hb1.size; (try simp at h9); omega); have hz11 : w.heap.size + 1 < y1.heap.size := (by have h9 := hb1.size; (try simp at h9); omega))
        | (go_at_call 21; refine (safeok_any s t k z p l e b v r ⟨x.sfn, x.at_, x.ssn⟩ a6 l6 c6 a7 l7 c7 B _ (h.at_.below (belA)) (h.ssn.below (belA))).mono ?_; rw [hc]; rintro e' y2 ⟨rfl, hb2⟩; obtain ⟨hc2, hf2, hs2⟩ := bcell hb2; have hz20 : w.heap.size < y2.heap.size := (by have h9 := hb2.size; (try simp at h9); omega); have hz21 : w.heap.size + 1 < y2.heap.size := (by have h9 := hb2.size; (try simp at h9); omega)))
    go_ret
    exact ⟨ret_b (unhide HE).symm, (belA)⟩
  cases hu : toldB s t k z p l e v r x
  · skip
    have HE : Hid (okCkI s t k z p l e v r x = false) := hide (by unfold okCkI; rw [hj, hc, hu]; rfl)
    go_enter Try.func9, Try.ntmps9
    go_wp2_with (first
        | (go_at_call 15; refine (impljobok_any _ _ _ _ _ _ _ _ _ _ _).mono ?_; rw [hj]; rintro e' y1 ⟨rfl, hb1⟩; obtain ⟨hc1, hf1, hs1⟩ := bcell hb1; have hz10 : w.heap.size < y1.heap.size := (by have h9 := hb1.size; (try simp at h9); omega); have hz11 : w.heap.size + 1 < y1.heap.size := (by have h9 := hb1.size; (try simp at h9); omega))
        | (go_at_call 21; refine (safeok_any s t k z p l e b v r ⟨x.sfn, x.at_, x.ssn⟩ a6 l6 c6 a7 l7 c7 B _ (h.at_.below (belA)) (h.ssn.below (belA))).mono ?_; rw [hc]; rintro e' y2 ⟨rfl, hb2⟩; obtain ⟨hc2, hf2, hs2⟩ := bcell hb2; have hz20 : w.heap.size < y2.heap.size := (by have h9 := hb2.size; (try simp at h9); omega); have hz21 : w.heap.size + 1 < y2.heap.size := (by have h9 := hb2.size; (try simp at h9); omega))
        | (go_at_call 22; refine (toldok_any s t k z p l e b v r x a2 l2 c2 a3 l3 c3 a4 l4 c4 a6 l6 c6 a7 l7 c7 B _ (h.below (belA)) hs3 ht2).mono ?_; rw [hu]; rintro e' y3 ⟨rfl, hb3⟩; obtain ⟨hc3, hf3, hs3'⟩ := bcell hb3; have hz30 : w.heap.size < y3.heap.size := (by have h9 := hb3.size; (try simp at h9); omega); have hz31 : w.heap.size + 1 < y3.heap.size := (by have h9 := hb3.size; (try simp at h9); omega)))
    go_ret
    exact ⟨ret_b (unhide HE).symm, (belA)⟩
  cases hi : inB x.n x.sfn 900
  · skip
    have HE : Hid (okCkI s t k z p l e v r x = false) := hide (by unfold okCkI; rw [hj, hc, hu, hi]; rfl)
    go_enter Try.func9, Try.ntmps9
    go_wp2_with (first
        | (go_at_call 15; refine (impljobok_any _ _ _ _ _ _ _ _ _ _ _).mono ?_; rw [hj]; rintro e' y1 ⟨rfl, hb1⟩; obtain ⟨hc1, hf1, hs1⟩ := bcell hb1; have hz10 : w.heap.size < y1.heap.size := (by have h9 := hb1.size; (try simp at h9); omega); have hz11 : w.heap.size + 1 < y1.heap.size := (by have h9 := hb1.size; (try simp at h9); omega))
        | (go_at_call 21; refine (safeok_any s t k z p l e b v r ⟨x.sfn, x.at_, x.ssn⟩ a6 l6 c6 a7 l7 c7 B _ (h.at_.below (belA)) (h.ssn.below (belA))).mono ?_; rw [hc]; rintro e' y2 ⟨rfl, hb2⟩; obtain ⟨hc2, hf2, hs2⟩ := bcell hb2; have hz20 : w.heap.size < y2.heap.size := (by have h9 := hb2.size; (try simp at h9); omega); have hz21 : w.heap.size + 1 < y2.heap.size := (by have h9 := hb2.size; (try simp at h9); omega))
        | (go_at_call 22; refine (toldok_any s t k z p l e b v r x a2 l2 c2 a3 l3 c3 a4 l4 c4 a6 l6 c6 a7 l7 c7 B _ (h.below (belA)) hs3 ht2).mono ?_; rw [hu]; rintro e' y3 ⟨rfl, hb3⟩; obtain ⟨hc3, hf3, hs3'⟩ := bcell hb3; have hz30 : w.heap.size < y3.heap.size := (by have h9 := hb3.size; (try simp at h9); omega); have hz31 : w.heap.size + 1 < y3.heap.size := (by have h9 := hb3.size; (try simp at h9); omega))
        | (go_at_call 23; refine (within_any _ _ _ _).mono ?_; rw [hi]; rintro e' w5 ⟨rfl, hw⟩; obtain rfl := hw.symm; clear hw))
    go_ret
    exact ⟨ret_b (unhide HE).symm, (belA)⟩
  obtain ⟨xn, xop, xsrc, xtsk, xsn, xsfn, xat, xssn⟩ := x
  dsimp only at *
  cases xop
  · skip
    have HE : Hid (okCkI s t k z p l e v r ⟨xn, false, xsrc, xtsk, xsn, xsfn, xat, xssn⟩ = true) := hide (by unfold okCkI; dsimp only; rw [hj, hc, hu, hi]; rfl)
    go_enter Try.func9, Try.ntmps9
    go_wp2_with (first
        | (go_at_call 15; refine (impljobok_any _ _ _ _ _ _ _ _ _ _ _).mono ?_; rw [hj]; rintro e' y1 ⟨rfl, hb1⟩; obtain ⟨hc1, hf1, hs1⟩ := bcell hb1; have hz10 : w.heap.size < y1.heap.size := (by have h9 := hb1.size; (try simp at h9); omega); have hz11 : w.heap.size + 1 < y1.heap.size := (by have h9 := hb1.size; (try simp at h9); omega))
        | (go_at_call 21; refine (safeok_any s t k z p l e b v r ⟨xsfn, xat, xssn⟩ a6 l6 c6 a7 l7 c7 B _ (h.at_.below (belA)) (h.ssn.below (belA))).mono ?_; rw [hc]; rintro e' y2 ⟨rfl, hb2⟩; obtain ⟨hc2, hf2, hs2⟩ := bcell hb2; have hz20 : w.heap.size < y2.heap.size := (by have h9 := hb2.size; (try simp at h9); omega); have hz21 : w.heap.size + 1 < y2.heap.size := (by have h9 := hb2.size; (try simp at h9); omega))
        | (go_at_call 22; refine (toldok_any s t k z p l e b v r ⟨xn, false, xsrc, xtsk, xsn, xsfn, xat, xssn⟩ a2 l2 c2 a3 l3 c3 a4 l4 c4 a6 l6 c6 a7 l7 c7 B _ (h.below (belA)) hs3 ht2).mono ?_; rw [hu]; rintro e' y3 ⟨rfl, hb3⟩; obtain ⟨hc3, hf3, hs3'⟩ := bcell hb3; have hz30 : w.heap.size < y3.heap.size := (by have h9 := hb3.size; (try simp at h9); omega); have hz31 : w.heap.size + 1 < y3.heap.size := (by have h9 := hb3.size; (try simp at h9); omega))
        | (go_at_call 23; refine (within_any _ _ _ _).mono ?_; rw [hi]; rintro e' w5 ⟨rfl, hw⟩; obtain rfl := hw.symm; clear hw))
    go_ret
    exact ⟨ret_b (unhide HE).symm, (belA)⟩
  · by_cases hg : xsfn < xn
    · skip
      have HE : Hid (okCkI s t k z p l e v r ⟨xn, true, xsrc, xtsk, xsn, xsfn, xat, xssn⟩ = true) := hide (by unfold okCkI; dsimp only; rw [hj, hc, hu, hi, decide_eq_true hg]; rfl)
      go_enter Try.func9, Try.ntmps9
      go_wp2_with (first
          | (go_at_call 15; refine (impljobok_any _ _ _ _ _ _ _ _ _ _ _).mono ?_; rw [hj]; rintro e' y1 ⟨rfl, hb1⟩; obtain ⟨hc1, hf1, hs1⟩ := bcell hb1; have hz10 : w.heap.size < y1.heap.size := (by have h9 := hb1.size; (try simp at h9); omega); have hz11 : w.heap.size + 1 < y1.heap.size := (by have h9 := hb1.size; (try simp at h9); omega))
          | (go_at_call 21; refine (safeok_any s t k z p l e b v r ⟨xsfn, xat, xssn⟩ a6 l6 c6 a7 l7 c7 B _ (h.at_.below (belA)) (h.ssn.below (belA))).mono ?_; rw [hc]; rintro e' y2 ⟨rfl, hb2⟩; obtain ⟨hc2, hf2, hs2⟩ := bcell hb2; have hz20 : w.heap.size < y2.heap.size := (by have h9 := hb2.size; (try simp at h9); omega); have hz21 : w.heap.size + 1 < y2.heap.size := (by have h9 := hb2.size; (try simp at h9); omega))
          | (go_at_call 22; refine (toldok_any s t k z p l e b v r ⟨xn, true, xsrc, xtsk, xsn, xsfn, xat, xssn⟩ a2 l2 c2 a3 l3 c3 a4 l4 c4 a6 l6 c6 a7 l7 c7 B _ (h.below (belA)) hs3 ht2).mono ?_; rw [hu]; rintro e' y3 ⟨rfl, hb3⟩; obtain ⟨hc3, hf3, hs3'⟩ := bcell hb3; have hz30 : w.heap.size < y3.heap.size := (by have h9 := hb3.size; (try simp at h9); omega); have hz31 : w.heap.size + 1 < y3.heap.size := (by have h9 := hb3.size; (try simp at h9); omega))
          | (go_at_call 23; refine (within_any _ _ _ _).mono ?_; rw [hi]; rintro e' w5 ⟨rfl, hw⟩; obtain rfl := hw.symm; clear hw))
      go_ret
      exact ⟨ret_b (unhide HE).symm, (belA)⟩
    · have hg' : decide (xsfn < xn) = false := decide_eq_false hg
      have HE : Hid (okCkI s t k z p l e v r ⟨xn, true, xsrc, xtsk, xsn, xsfn, xat, xssn⟩ = false) := hide (by unfold okCkI; dsimp only; rw [hj, hc, hu, hi, hg']; rfl)
      go_enter Try.func9, Try.ntmps9
      go_wp2_with (first
          | (go_at_call 15; refine (impljobok_any _ _ _ _ _ _ _ _ _ _ _).mono ?_; rw [hj]; rintro e' y1 ⟨rfl, hb1⟩; obtain ⟨hc1, hf1, hs1⟩ := bcell hb1; have hz10 : w.heap.size < y1.heap.size := (by have h9 := hb1.size; (try simp at h9); omega); have hz11 : w.heap.size + 1 < y1.heap.size := (by have h9 := hb1.size; (try simp at h9); omega))
          | (go_at_call 21; refine (safeok_any s t k z p l e b v r ⟨xsfn, xat, xssn⟩ a6 l6 c6 a7 l7 c7 B _ (h.at_.below (belA)) (h.ssn.below (belA))).mono ?_; rw [hc]; rintro e' y2 ⟨rfl, hb2⟩; obtain ⟨hc2, hf2, hs2⟩ := bcell hb2; have hz20 : w.heap.size < y2.heap.size := (by have h9 := hb2.size; (try simp at h9); omega); have hz21 : w.heap.size + 1 < y2.heap.size := (by have h9 := hb2.size; (try simp at h9); omega))
          | (go_at_call 22; refine (toldok_any s t k z p l e b v r ⟨xn, true, xsrc, xtsk, xsn, xsfn, xat, xssn⟩ a2 l2 c2 a3 l3 c3 a4 l4 c4 a6 l6 c6 a7 l7 c7 B _ (h.below (belA)) hs3 ht2).mono ?_; rw [hu]; rintro e' y3 ⟨rfl, hb3⟩; obtain ⟨hc3, hf3, hs3'⟩ := bcell hb3; have hz30 : w.heap.size < y3.heap.size := (by have h9 := hb3.size; (try simp at h9); omega); have hz31 : w.heap.size + 1 < y3.heap.size := (by have h9 := hb3.size; (try simp at h9); omega))
          | (go_at_call 23; refine (within_any _ _ _ _).mono ?_; rw [hi]; rintro e' w5 ⟨rfl, hw⟩; obtain rfl := hw.symm; clear hw))
      go_ret
      exact ⟨ret_b (unhide HE).symm, (belA)⟩
end Go.Proofs.Ytabphkmhafflbaa
