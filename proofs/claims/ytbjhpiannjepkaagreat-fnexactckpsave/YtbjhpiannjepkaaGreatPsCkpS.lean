/- Laid together: what the claim needs of the texts that were built one by one. -/
import Derived.Test.YtbjhpiannjepkaaGreatPsCkpT
import Derived.Test.YtbjhpiannjepkaaGreatPsOpOkS
import Derived.Test.YtbjhpiannjepkaaGreatPsJob
import Derived.Test.YtbjhpiannjepkaaGreatPsBase
namespace Go.Proofs.YtbjhpiannjepkaaGreat
open Go.ChangeShapes Go.WideShapes Go.ChangeAt Go.RowKit Go.Deep
set_option linter.unusedVariables false

/-- The least of marks, and 1000. -/
def lowM (ms : List Int) : Int := ms.foldl loI 1000

theorem lowM_take {ms : List Int} {k : Nat} {m : Int} (h : ms[k]? = some m) : lowM (ms.take (k + 1)) = loI (lowM (ms.take k)) m := by
  obtain ⟨hk, he⟩ := List.getElem?_eq_some_iff.1 h
  rw [List.take_succ_eq_append_getElem hk, he]
  simp [lowM, List.foldl_append]

def okMk (m : Int) : Bool := inB m 0 1000

/-- Whether what is kept of a task is ok. -/
def okSn (s t k z p l e v r : Int) (x : SnD) : Bool := okOp s t k z p l e v r x.ma x.rows && decide ((x.marks.length : Int) = s) && x.marks.all okMk && x.ma == lowM x.marks

/-- Whether what is safe is ok. -/
def okAtI (m : Int) : Bool := inB m 0 40

def okCs (s t k z p l e v r : Int) (x : CsD) : Bool := inB x.sfn 0 900 && decide ((x.at_.length : Int) = s) && decide ((x.ssn.length : Int) = t) && x.at_.all okAtI && x.ssn.all (okSn s t k z p l e v r)

theorem all_tt {α : Type} {xs : List α} {p : α → Bool} {k : Nat} {x : α} (h : (xs.take k).all p = true) (hx : xs[k]? = some x) (hp : p x = true) : (xs.take (k + 1)).all p = true := by
  obtain ⟨hk, he⟩ := List.getElem?_eq_some_iff.1 hx
  rw [List.take_succ_eq_append_getElem hk, List.all_append, h, he]
  simp [hp]

theorem all_ff {α : Type} {xs : List α} {p : α → Bool} {k : Nat} {x : α} (hx : xs[k]? = some x) (hp : p x = false) : xs.all p = false := by
  rw [List.all_eq_false]
  exact ⟨x, List.mem_of_getElem? hx, by simp [hp]⟩

theorem all_end {α : Type} {xs : List α} {p : α → Bool} {k : Nat} (h : (xs.take k).all p = true) (hk : xs.length ≤ k) : xs.all p = true := by rwa [List.take_of_length_le hk] at h

set_option maxRecDepth 20000 in
set_option maxHeartbeats 2000000 in
theorem l9snap_any (s t k z p l e : Int) (b : Bool) (v r : Int) (x : SnD) (a1 : Option Addr) (l1 c1 : Nat) (a2 : Option Addr) (l2 c2 : Nat) (B : Nat) (w : World) (h1 : OrB w B a1 l1 x.rows) (h2 : InB w B a2 l2 x.marks) : Calls Tryz.prog 48 #[.agg #[.int .i64 s, .int .i64 t, .int .i64 k, .int .i64 z, .int .i64 p, .int .i64 l, .int .i64 e, .bool b, .int .i64 v, .int .i64 r], .agg #[.int .i64 x.ma, .slice a1 l1 c1, .slice a2 l2 c2]] w fun e' w' => e' = .returned (.bool (okSn s t k z p l e v r x)) ∧ Below w.heap.size w w' := by
  have le2 := h2.len.1
  have hm2 := h2.len.2
  unfold maxLen at hm2
  cases ho : okOp s t k z p l e v r x.ma x.rows
  · have HE : Hid (okSn s t k z p l e v r x = false) := hide (by unfold okSn; rw [ho]; rfl)
    go_enter Tryz.func48, Tryz.ntmps48
    go_wp2_with (go_at_call 67; refine (specopok_any s t k z p l e b v r x.ma a1 l1 c1 x.rows _ (h1.1.below (belB))).mono ?_; rw [ho]; rintro e' w1 ⟨rfl, hb1⟩; obtain ⟨hc1, hf1, hs1⟩ := bcell hb1; have hz10 : w.heap.size < w1.heap.size := (by have h9 := hb1.size; (try simp at h9); omega); have hz11 : w.heap.size + 1 < w1.heap.size := (by have h9 := hb1.size; (try simp at h9); omega))
    go_ret
    exact ⟨ret_b (unhide HE).symm, (belA)⟩
  by_cases hl : (l2 : Int) = s
  rotate_left
  · have HE : Hid (okSn s t k z p l e v r x = false) := hide (by unfold okSn; rw [ho, decide_eq_false (by rw [le2]; exact hl)]; rfl)
    have hl1 : ((l2 : Int) == s) = false := beq_eq_false_iff_ne.2 hl
    have hl2 : ((l2 : Int) != s) = true := by simp [hl]
    go_enter Tryz.func48, Tryz.ntmps48
    go_wp2_with (go_at_call 67; refine (specopok_any s t k z p l e b v r x.ma a1 l1 c1 x.rows _ (h1.1.below (belB))).mono ?_; rw [ho]; rintro e' w1 ⟨rfl, hb1⟩; obtain ⟨hc1, hf1, hs1⟩ := bcell hb1; have hz10 : w.heap.size < w1.heap.size := (by have h9 := hb1.size; (try simp at h9); omega); have hz11 : w.heap.size + 1 < w1.heap.size := (by have h9 := hb1.size; (try simp at h9); omega))
    go_ret
    exact ⟨ret_b (unhide HE).symm, (belA)⟩
  subst hl
  have HV : Hid (okSn (l2 : Int) t k z p l e v r x = (x.marks.all okMk && x.ma == lowM x.marks)) := hide (by unfold okSn; rw [ho, decide_eq_true (by rw [le2])]; rfl)
  go_enter Tryz.func48, Tryz.ntmps48
  go_wp2_with (go_at_call 67; refine (specopok_any (l2 : Int) t k z p l e b v r x.ma a1 l1 c1 x.rows _ (h1.1.below (belB))).mono ?_; rw [ho]; rintro e' w1 ⟨rfl, hb1⟩; obtain ⟨hc1, hf1, hs1⟩ := bcell hb1; have hz10 : w.heap.size < w1.heap.size := (by have h9 := hb1.size; (try simp at h9); omega); have hz11 : w.heap.size + 1 < w1.heap.size := (by have h9 := hb1.size; (try simp at h9); omega))
  have hW : Below w.heap.size w w1 := (belA)
  have H2 := h2.1.below hW
  have hq : Below ((w.alloc (.cells #[.int .i64 (l2 : Int), .int .i64 t, .int .i64 k, .int .i64 z, .int .i64 p, .int .i64 l, .int .i64 e, .bool b, .int .i64 v, .int .i64 r] 39)).alloc (.cells #[.int .i64 x.ma, .slice a1 l1 c1, .slice a2 l2 c2] 80)).heap.size ((w.alloc (.cells #[.int .i64 (l2 : Int), .int .i64 t, .int .i64 k, .int .i64 z, .int .i64 p, .int .i64 l, .int .i64 e, .bool b, .int .i64 v, .int .i64 r] 39)).alloc (.cells #[.int .i64 x.ma, .slice a1 l1 c1, .slice a2 l2 c2] 80)) w1 := hb1
  have sb0 : w1.cell? ⟨w.heap.size + 1, 0, none⟩ = some (.int .i64 x.ma) := (hq.cell (p := ⟨w.heap.size + 1, 0, none⟩) (by simp <;> omega)).trans (by simp [go_sem])
  have sb1 : w1.cell? ⟨w.heap.size + 1, 1, none⟩ = some (.slice a1 l1 c1) := (hq.cell (p := ⟨w.heap.size + 1, 1, none⟩) (by simp <;> omega)).trans (by simp [go_sem])
  have sb2 : w1.cell? ⟨w.heap.size + 1, 2, none⟩ = some (.slice a2 l2 c2) := (hq.cell (p := ⟨w.heap.size + 1, 2, none⟩) (by simp <;> omega)).trans (by simp [go_sem])
  clear hc1 hf1 hs1 hb1 ho hq
  go_loopw [5, 6] (fun lv i wr => ∃ ix : Nat, ix ≤ l2 ∧ i = .int .i64 ix ∧ lv = .int .i64 (lowM (x.marks.take ix)) ∧ Hid ((x.marks.take ix).all okMk = true) ∧ Below w1.heap.size w1 wr) (fun _ i _ => l2 - (intOf i).toNat)
  case atStart => exact ⟨0, Nat.zero_le _, rfl, rfl, hide (by simp), Below.refl _ _⟩
  case round =>
    obtain ⟨ix, hk, rfl, rfl, hA, hbw⟩ := hrel
    have tb0 : wr.cell? ⟨w.heap.size + 1, 0, none⟩ = some (.int .i64 x.ma) := (hbw.cell (p := ⟨w.heap.size + 1, 0, none⟩) (by simp <;> omega)).trans sb0
    have tb1 : wr.cell? ⟨w.heap.size + 1, 1, none⟩ = some (.slice a1 l1 c1) := (hbw.cell (p := ⟨w.heap.size + 1, 1, none⟩) (by simp <;> omega)).trans sb1
    have tb2 : wr.cell? ⟨w.heap.size + 1, 2, none⟩ = some (.slice a2 l2 c2) := (hbw.cell (p := ⟨w.heap.size + 1, 2, none⟩) (by simp <;> omega)).trans sb2
    by_cases hlt : ix < l2
    · obtain ⟨hxl, _, hx⟩ := H2
      obtain ⟨g, o, rfl, hrr⟩ := hx.resolve_left (by omega)
      obtain ⟨y, hyk⟩ : ∃ y, x.marks[ix]? = some y := ⟨_, List.getElem?_eq_getElem (by omega)⟩
      have hg := hrr.lt (by omega)
      have hX := hide hyk
      have d0 := (hbw.cell (p := ⟨g, o + ix, none⟩) hg).trans (hrr ix _ hyk)
      have hlt' := lowM_take hyk
      generalize lowM (x.marks.take ix) = lo at hlt'
      clear hx hyk hrr
      cases hB : inB y 0 1000
      · have HE : Hid (x.marks.all okMk = false) := hide (all_ff (unhide hX) hB)
        clear hlt'
        go_wp2_with (go_at_call 46; refine (l1In_any _ _ _ _).mono ?_; rw [hB]; rintro e' w5 ⟨rfl, hw⟩; obtain rfl := hw.symm; clear hw)
        go_ret
        exact ⟨ret_b (by rw [unhide HV, unhide HE]; rfl), (belA)⟩
      · have HE : Hid ((x.marks.take (ix + 1)).all okMk = true) := hide (all_tt (unhide hA) (unhide hX) hB)
        by_cases hm : y < lo
        · have HL : Hid (lowM (x.marks.take (ix + 1)) = y) := hide (by rw [hlt', loI_c hm])
          clear hlt'
          go_wp2_with (go_at_call 46; refine (l1In_any _ _ _ _).mono ?_; rw [hB]; rintro e' w5 ⟨rfl, hw⟩; obtain rfl := hw.symm; clear hw)
          go_roundw
          case rel => exact ⟨ix + 1, by omega, by go_num, by rw [unhide HL], HE, (belA)⟩
          case measure => simp [intOf]; omega
        · have HL : Hid (lowM (x.marks.take (ix + 1)) = lo) := hide (by rw [hlt', loI_a hm])
          clear hlt'
          go_wp2_with (go_at_call 46; refine (l1In_any _ _ _ _).mono ?_; rw [hB]; rintro e' w5 ⟨rfl, hw⟩; obtain rfl := hw.symm; clear hw)
          go_roundw
          case rel => exact ⟨ix + 1, by omega, by go_num, by rw [unhide HL], HE, (belA)⟩
          case measure => simp [intOf]; omega
    · have HE : Hid (okSn (l2 : Int) t k z p l e v r x = (x.ma == lowM (x.marks.take ix))) := hide (by rw [unhide HV, all_end (unhide hA) (by omega), List.take_of_length_le (by omega)]; rfl)
      go_wp2
      go_ret
      exact ⟨ret_b (unhide HE).symm, (belA)⟩
end Go.Proofs.YtbjhpiannjepkaaGreat
