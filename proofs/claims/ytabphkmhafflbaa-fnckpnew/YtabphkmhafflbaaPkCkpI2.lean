/- Laid together: what the claim needs of the texts that were built one by one. -/
import Derived.Test.YtabphkmhafflbaaPkCkpI
import Derived.Test.YtabphkmhafflbaaPkBase
namespace Go.Proofs.Ytabphkmhafflbaa
open Go.ChangeShapes Go.WideShapes Go.ChangeAt Go.RowKit Go.Deep
set_option linter.unusedVariables false

/-- A job in a box. -/
def JobAt (s t k z p l e v r : Int) (b : Bool) (W : World) (jb : Nat) : Prop := (W.cell? ⟨jb, 0, none⟩ = some (.int .i64 s) ∧ W.cell? ⟨jb, 1, none⟩ = some (.int .i64 t) ∧ W.cell? ⟨jb, 2, none⟩ = some (.int .i64 k) ∧ W.cell? ⟨jb, 3, none⟩ = some (.int .i64 z) ∧ W.cell? ⟨jb, 4, none⟩ = some (.int .i64 p) ∧ W.cell? ⟨jb, 5, none⟩ = some (.int .i64 l) ∧ W.cell? ⟨jb, 6, none⟩ = some (.int .i64 e) ∧ W.cell? ⟨jb, 7, none⟩ = some (.bool b) ∧ W.cell? ⟨jb, 8, none⟩ = some (.int .i64 v) ∧ W.cell? ⟨jb, 9, none⟩ = some (.int .i64 r))

theorem JobAt.bel {s t k z p l e v r : Int} {b : Bool} {W W' : World} {jb B : Nat} (h : JobAt s t k z p l e v r b W jb) (hb : Below B W W') (hB : jb < B) : JobAt s t k z p l e v r b W' jb := by
  unfold JobAt at h ⊢
  obtain ⟨h0, h1, h2, h3, h4, h5, h6, h7, h8, h9⟩ := h
  exact ⟨(hb.cell (p := ⟨jb, 0, none⟩) hB).trans h0, (hb.cell (p := ⟨jb, 1, none⟩) hB).trans h1, (hb.cell (p := ⟨jb, 2, none⟩) hB).trans h2, (hb.cell (p := ⟨jb, 3, none⟩) hB).trans h3, (hb.cell (p := ⟨jb, 4, none⟩) hB).trans h4, (hb.cell (p := ⟨jb, 5, none⟩) hB).trans h5, (hb.cell (p := ⟨jb, 6, none⟩) hB).trans h6, (hb.cell (p := ⟨jb, 7, none⟩) hB).trans h7, (hb.cell (p := ⟨jb, 8, none⟩) hB).trans h8, (hb.cell (p := ⟨jb, 9, none⟩) hB).trans h9⟩

set_option maxRecDepth 20000 in
set_option maxHeartbeats 1000000 in
theorem clo_any (s t k z p l e : Int) (b : Bool) (v r : Int) (jb : Nat) (x : SnD) (a1 : Option Addr) (l1 c1 : Nat) (a2 : Option Addr) (l2 c2 : Nat) (B : Nat) (w : World) (h1 : OrB w B a1 l1 x.rows) (h2 : InB w B a2 l2 x.marks) (hj : JobAt s t k z p l e v r b w jb) (hjb : jb < w.heap.size) : Calls Try.prog 35 #[.agg #[.int .i64 x.ma, .slice a1 l1 c1, .slice a2 l2 c2], .pointer (some ⟨jb, 0, none⟩)] w fun e' w' => e' = .returned (.bool (okSn s t k z p l e v r x)) ∧ Below w.heap.size w w' := by
  have hj2 := hj.bel (bel_one w (.cells #[.int .i64 x.ma, .slice a1 l1 c1, .slice a2 l2 c2] 48)) hjb
  unfold JobAt at hj2
  obtain ⟨j0, j1, j2, j3, j4, j5, j6, j7, j8, j9⟩ := hj2
  go_enter Try.func35, Try.ntmps35
  go_wp2_with (go_at_call 36; refine (snapok_any s t k z p l e b v r x a1 l1 c1 a2 l2 c2 B _ (h1.below (belA)) (h2.below (belA))).mono ?_; rintro e' y1 ⟨rfl, hb1⟩)
  go_ret
  exact ⟨rfl, (belA)⟩

set_option maxRecDepth 20000 in
set_option maxHeartbeats 2000000 in
theorem everySn (s t k z p l e : Int) (b : Bool) (v r : Int) (jb : Nat) (a : Option Addr) (len cap : Nat) (xs : List SnD) (B : Nat) (w : World) (h : SnB w B a len xs) (hj : JobAt s t k z p l e v r b w jb) (hjb : jb < w.heap.size) : Calls Try.prog 34 #[.slice a len cap, .func (.func 35) #[] #[.pointer (some ⟨jb, 0, none⟩)]] w fun e' w' => e' = .returned (.bool (xs.all (okSn s t k z p l e v r))) ∧ Below w.heap.size w w' := by
  have hm := h.2.1
  unfold maxLen at hm
  go_enter Try.func34, Try.ntmps34
  go_wp2
  go_loopw [9] (fun i wr => ∃ ix : Nat, ix ≤ len ∧ i = .int .i64 ix ∧ Hid ((xs.take ix).all (okSn s t k z p l e v r) = true) ∧ Below w.heap.size w wr) (fun i _ => len - (intOf i).toNat)
  case atStart => exact ⟨0, Nat.zero_le _, rfl, hide (by simp), Below.refl _ _⟩
  case round =>
    obtain ⟨ix, hk, rfl, hA, hbw⟩ := hrel
    by_cases hlt : ix < len
    · obtain ⟨hxl, _, hx⟩ := h
      obtain ⟨g, o, rfl, _, hr⟩ := hx.resolve_left (by omega)
      obtain ⟨x, hxk⟩ : ∃ x, xs[ix]? = some x := ⟨_, List.getElem?_eq_getElem (by omega)⟩
      have hX := hide hxk
      obtain ⟨a1, l1, c1, a2, l2, c2, ⟨d0, d1, d2⟩, k1, k2⟩ := (hr ix _ hxk).below hbw
      have hjw := hj.bel hbw hjb
      have hjz : jb < wr.heap.size := Nat.lt_of_lt_of_le hjb hbw.size
      clear hx hxk hr
      cases hB : okSn s t k z p l e v r x
      · have HE : Hid (xs.all (okSn s t k z p l e v r) = false) := hide (all_ff (unhide hX) hB)
        go_wp2_with (go_at_call 35; refine (clo_any s t k z p l e b v r jb x a1 l1 c1 a2 l2 c2 B _ (k1.below (belA)) (k2.below (belA)) (hjw.bel (B := wr.heap.size) (belA) hjz) (by simp <;> omega)).mono ?_; rw [hB]; rintro e' wf ⟨rfl, hbf⟩)
        go_ret
        exact ⟨ret_b (unhide HE).symm, (belA)⟩
      · have HE : Hid ((xs.take (ix + 1)).all (okSn s t k z p l e v r) = true) := hide (all_tt (unhide hA) (unhide hX) hB)
        go_wp2_with (go_at_call 35; refine (clo_any s t k z p l e b v r jb x a1 l1 c1 a2 l2 c2 B _ (k1.below (belA)) (k2.below (belA)) (hjw.bel (B := wr.heap.size) (belA) hjz) (by simp <;> omega)).mono ?_; rw [hB]; rintro e' wf ⟨rfl, hbf⟩)
        go_roundw
        case rel => exact ⟨ix + 1, by omega, by go_num, HE, (belA)⟩
        case measure => simp [intOf]; omega
    · have HE : Hid (xs.all (okSn s t k z p l e v r) = true) := hide (all_end (unhide hA) (by have := h.1; omega))
      go_wp2
      go_ret
      exact ⟨ret_b (unhide HE).symm, hbw⟩

set_option maxRecDepth 20000 in
set_option maxHeartbeats 2000000 in
theorem safeok_any (s t k z p l e : Int) (b : Bool) (v r : Int) (x : CsD) (a1 : Option Addr) (l1 c1 : Nat) (a2 : Option Addr) (l2 c2 : Nat) (B : Nat) (w : World) (h1 : InB w B a1 l1 x.at_) (h2 : SnB w B a2 l2 x.ssn) : Calls Try.prog 21 #[.agg #[.int .i64 x.sfn, .slice a1 l1 c1, .slice a2 l2 c2], .agg #[.int .i64 s, .int .i64 t, .int .i64 k, .int .i64 z, .int .i64 p, .int .i64 l, .int .i64 e, .bool b, .int .i64 v, .int .i64 r]] w fun e' w' => e' = .returned (.bool (okCs s t k z p l e v r x)) ∧ Below w.heap.size w w' := by
  have le1 := h1.len.1
  have hm1 := h1.len.2
  have le2 := h2.len.1
  have hm2 := h2.len.2
  unfold maxLen at hm1 hm2
  cases hi : inB x.sfn 0 900
  · skip
    have HE : Hid (okCs s t k z p l e v r x = false) := hide (by unfold okCs; rw [hi]; rfl)
    go_enter Try.func21, Try.ntmps21
    go_wp2_with (first
        | (go_at_call 23; refine (within_any _ _ _ _).mono ?_; rw [hi]; rintro e' w5 ⟨rfl, hw⟩; obtain rfl := hw.symm; clear hw))
    go_ret
    exact ⟨ret_b (unhide HE).symm, (belA)⟩
  by_cases hl : (l1 : Int) = s
  rotate_left
  · have hl1 : ((l1 : Int) == s) = false := beq_eq_false_iff_ne.2 hl
    have HE : Hid (okCs s t k z p l e v r x = false) := hide (by unfold okCs; rw [hi, decide_eq_false (by rw [le1]; exact hl)]; rfl)
    go_enter Try.func21, Try.ntmps21
    go_wp2_with (first
        | (go_at_call 23; refine (within_any _ _ _ _).mono ?_; rw [hi]; rintro e' w5 ⟨rfl, hw⟩; obtain rfl := hw.symm; clear hw))
    go_ret
    exact ⟨ret_b (unhide HE).symm, (belA)⟩
  subst hl
  by_cases ht : (l2 : Int) = t
  rotate_left
  · have hl1 : ((l2 : Int) == t) = false := beq_eq_false_iff_ne.2 ht
    have HE : Hid (okCs (l1 : Int) t k z p l e v r x = false) := hide (by unfold okCs; rw [hi, decide_eq_true (by rw [le1]), decide_eq_false (by rw [le2]; exact ht)]; rfl)
    go_enter Try.func21, Try.ntmps21
    go_wp2_with (first
        | (go_at_call 23; refine (within_any _ _ _ _).mono ?_; rw [hi]; rintro e' w5 ⟨rfl, hw⟩; obtain rfl := hw.symm; clear hw))
    go_ret
    exact ⟨ret_b (unhide HE).symm, (belA)⟩
  subst ht
  cases ha : x.at_.all okAtI
  · skip
    have HE : Hid (okCs (l1 : Int) (l2 : Int) k z p l e v r x = false) := hide (by unfold okCs; rw [hi, ha]; simp)
    go_enter Try.func21, Try.ntmps21
    go_wp2_with (first
        | (go_at_call 23; refine (within_any _ _ _ _).mono ?_; rw [hi]; rintro e' w5 ⟨rfl, hw⟩; obtain rfl := hw.symm; clear hw)
        | (go_at_call 32; refine (everyAt a1 l1 c1 x.at_ _ (h1.1.below (belA))).mono ?_; rw [ha]; rintro e' y2 ⟨rfl, hb2⟩; obtain ⟨hc2, hf2, hs2⟩ := bcell hb2; have hz20 : w.heap.size < y2.heap.size := (by have h9 := hb2.size; (try simp at h9); omega); have hz21 : w.heap.size + 1 < y2.heap.size := (by have h9 := hb2.size; (try simp at h9); omega)))
    go_ret
    exact ⟨ret_b (unhide HE).symm, (belA)⟩
  have hJ : JobAt (l1 : Int) (l2 : Int) k z p l e v r b ((w.alloc (.cells #[.int .i64 x.sfn, .slice a1 l1 c1, .slice a2 l2 c2] 30)).alloc (.cells #[.int .i64 (l1 : Int), .int .i64 (l2 : Int), .int .i64 k, .int .i64 z, .int .i64 p, .int .i64 l, .int .i64 e, .bool b, .int .i64 v, .int .i64 r] 24)) (w.heap.size + 1) := by unfold JobAt; refine ⟨?_, ?_, ?_, ?_, ?_, ?_, ?_, ?_, ?_, ?_⟩ <;> simp [go_sem]
  have HE : Hid (okCs (l1 : Int) (l2 : Int) k z p l e v r x = x.ssn.all (okSn (l1 : Int) (l2 : Int) k z p l e v r)) := hide (by unfold okCs; rw [hi, ha, decide_eq_true (by rw [le1]), decide_eq_true (by rw [le2])]; rfl)
  go_enter Try.func21, Try.ntmps21
  go_wp2_with (first
      | (go_at_call 23; refine (within_any _ _ _ _).mono ?_; rw [hi]; rintro e' w5 ⟨rfl, hw⟩; obtain rfl := hw.symm; clear hw)
      | (go_at_call 32; refine (everyAt a1 l1 c1 x.at_ _ (h1.1.below (belA))).mono ?_; rw [ha]; rintro e' y2 ⟨rfl, hb2⟩; obtain ⟨hc2, hf2, hs2⟩ := bcell hb2; have hz20 : w.heap.size < y2.heap.size := (by have h9 := hb2.size; (try simp at h9); omega); have hz21 : w.heap.size + 1 < y2.heap.size := (by have h9 := hb2.size; (try simp at h9); omega))
      | (go_at_call 34; refine (everySn (l1 : Int) (l2 : Int) k z p l e b v r (w.heap.size + 1) a2 l2 c2 x.ssn B _ (h2.below (belA)) (JobAt.bel (W := ((w.alloc (.cells #[.int .i64 x.sfn, .slice a1 l1 c1, .slice a2 l2 c2] 30)).alloc (.cells #[.int .i64 (l1 : Int), .int .i64 (l2 : Int), .int .i64 k, .int .i64 z, .int .i64 p, .int .i64 l, .int .i64 e, .bool b, .int .i64 v, .int .i64 r] 24))) hJ hb2 (by simp)) (by omega)).mono ?_; rintro e' y3 ⟨rfl, hb3⟩))
  go_ret
  exact ⟨ret_b (unhide HE).symm, (belA)⟩
end Go.Proofs.Ytabphkmhafflbaa
