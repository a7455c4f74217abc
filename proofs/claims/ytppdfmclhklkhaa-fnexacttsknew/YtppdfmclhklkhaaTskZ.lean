/- Proved here: a new task, in the program. -/
import Derived.Test.YtppdfmclhklkhaaTskY
import Derived.Deep.DeepCutAuto
namespace Go.Proofs.Ytppdfmclhklkhaa
open Go.ChangeShapes Go.WideShapes Go.ChangeAt Go.RowKit
set_option linter.unusedVariables false

set_option linter.unusedSimpArgs false in
set_option maxRecDepth 20000 in
set_option maxHeartbeats 4000000 in
theorem implnew_any (s t k z p l e : Int) (b : Bool) (v r : Int) (m : Int) (g len cap : Nat) (ma : Option Addr) (ml mc : Nat) (rows : List OrR) (ms : List Int) (w : World) {nb : Bool} (h : OrG w g len rows) (h2 : InRs w ma ml ms) (hl : len ≤ 1048576) (hml : ml ≤ 1048576) (hN : Hid (newB s t k z p l e v r m rows ms = nb)) : Calls Try.prog 12 #[.agg #[.int .i64 s, .int .i64 t, .int .i64 k, .int .i64 z, .int .i64 p, .int .i64 l, .int .i64 e, .bool b, .int .i64 v, .int .i64 r], .agg #[.int .i64 m, .slice (some ⟨g, 0, none⟩) len cap], .slice ma ml mc] w fun e' w' => NewP w (newD nb ms rows) (newM nb m) e' w' := by
  obtain ⟨i0, hi, hz0, hz1, hz2⟩ := info_parts Try.infoTi
  have hN' := unhide hN
  have hmm := h2.2.1
  have hmle := h2.1
  have hrle := h.1
  unfold maxLen at hmm
  have hbb : Below w.heap.size w (((w.alloc (.cells #[.int .i64 s, .int .i64 t, .int .i64 k, .int .i64 z, .int .i64 p, .int .i64 l, .int .i64 e, .bool b, .int .i64 v, .int .i64 r] 40)).alloc (.cells #[.int .i64 m, .slice (some ⟨g, 0, none⟩) len cap] 32)).alloc (.cells #[.slice none 0 0, .int .i64 0, .slice none 0 0, .int .i64 0, .int .i64 0, .slice none 0 0, .slice none 0 0] 38)) := bel_alloc (bel_alloc (bel_one _ _) _) _
  cases q1 : okOp s t k z p l e v r m rows
  · obtain rfl : nb = false := by rw [← hN']; unfold newB; rw [q1]; rfl
    clear hN hN'
    go_enter Try.func12, Try.ntmps12
    go_wp2_with (first
      | (go_at_call 33; refine (implopok_any s t k z p l e b v r m (some ⟨g, 0, none⟩) len cap rows _ (h.rs.below (by repeat (first | (with_reducible exact Below.refl _ _) | (with_reducible assumption) | (with_reducible refine bel_set ?_ (by first | (simp; done) | (simp; omega)) _) | (with_reducible refine bel_alloc ?_ _) | (with_reducible refine bel_drew ?_) | (with_reducible refine bel_drewN ?_ _) | (with_reducible refine bel_trans ?_ (by with_reducible assumption)))))).mono ?_; rintro e' w1 ⟨rfl, hb1⟩; obtain ⟨hc1, hf1, hs1⟩ := bcell hb1; have hz10 : w.heap.size < w1.heap.size := (by have h9 := hb1.size; (try simp at h9); omega); have hz11 : w.heap.size + 1 < w1.heap.size := (by have h9 := hb1.size; (try simp at h9); omega); have hz12 : w.heap.size + 1 + 1 < w1.heap.size := (by have h9 := hb1.size; (try simp at h9); omega)))
    refine bodyPost_ret (v := .agg #[.slice none 0 0, .int .i64 0, .slice none 0 0, .int .i64 0, .int .i64 0, .slice none 0 0, .slice none 0 0]) (by simp (maxDischargeDepth := 9) [results, Try.results12, go_sem, *]) rfl ?_
    exact zero_new (by repeat (first | (with_reducible exact Below.refl _ _) | (with_reducible assumption) | (with_reducible refine bel_set ?_ (by first | (simp; done) | (simp; omega)) _) | (with_reducible refine bel_alloc ?_ _) | (with_reducible refine bel_drew ?_) | (with_reducible refine bel_drewN ?_ _) | (with_reducible refine bel_trans ?_ (by with_reducible assumption))))
  by_cases q2 : (ml : Int) = s
  rotate_left
  · obtain rfl : nb = false := by rw [← hN']; unfold newB; rw [q1, decide_eq_false (show ¬ (ms.length : Int) = s by omega)]; rfl
    have q2' : ((ml : Int) == s) = false := beq_eq_false_iff_ne.2 q2
    have q2n : ((ml : Int) != s) = true := by simp [q2]
    clear hN hN'
    go_enter Try.func12, Try.ntmps12
    go_wp2_with (first
      | (go_at_call 33; refine (implopok_any s t k z p l e b v r m (some ⟨g, 0, none⟩) len cap rows _ (h.rs.below (by repeat (first | (with_reducible exact Below.refl _ _) | (with_reducible assumption) | (with_reducible refine bel_set ?_ (by first | (simp; done) | (simp; omega)) _) | (with_reducible refine bel_alloc ?_ _) | (with_reducible refine bel_drew ?_) | (with_reducible refine bel_drewN ?_ _) | (with_reducible refine bel_trans ?_ (by with_reducible assumption)))))).mono ?_; rintro e' w1 ⟨rfl, hb1⟩; obtain ⟨hc1, hf1, hs1⟩ := bcell hb1; have hz10 : w.heap.size < w1.heap.size := (by have h9 := hb1.size; (try simp at h9); omega); have hz11 : w.heap.size + 1 < w1.heap.size := (by have h9 := hb1.size; (try simp at h9); omega); have hz12 : w.heap.size + 1 + 1 < w1.heap.size := (by have h9 := hb1.size; (try simp at h9); omega)))
    refine bodyPost_ret (v := .agg #[.slice none 0 0, .int .i64 0, .slice none 0 0, .int .i64 0, .int .i64 0, .slice none 0 0, .slice none 0 0]) (by simp (maxDischargeDepth := 9) [results, Try.results12, go_sem, *]) rfl ?_
    exact zero_new (by repeat (first | (with_reducible exact Below.refl _ _) | (with_reducible assumption) | (with_reducible refine bel_set ?_ (by first | (simp; done) | (simp; omega)) _) | (with_reducible refine bel_alloc ?_ _) | (with_reducible refine bel_drew ?_) | (with_reducible refine bel_drewN ?_ _) | (with_reducible refine bel_trans ?_ (by with_reducible assumption))))
  have q2' : ((ml : Int) == s) = true := beq_iff_eq.2 q2
  have q2n : ((ml : Int) != s) = false := by simp [q2]
  have hNm : nb = ms.all okMk := by rw [← hN']; unfold newB; rw [q1, decide_eq_true (show (ms.length : Int) = s by omega)]; rfl
  clear hN hN'
  cases q3 : ms.all okMk
  · obtain rfl : nb = false := by rw [hNm, q3]
    clear hNm
    go_enter Try.func12, Try.ntmps12
    go_wp2_with (first
      | (go_at_call 33; refine (implopok_any s t k z p l e b v r m (some ⟨g, 0, none⟩) len cap rows _ (h.rs.below (by repeat (first | (with_reducible exact Below.refl _ _) | (with_reducible assumption) | (with_reducible refine bel_set ?_ (by first | (simp; done) | (simp; omega)) _) | (with_reducible refine bel_alloc ?_ _) | (with_reducible refine bel_drew ?_) | (with_reducible refine bel_drewN ?_ _) | (with_reducible refine bel_trans ?_ (by with_reducible assumption)))))).mono ?_; rintro e' w1 ⟨rfl, hb1⟩; obtain ⟨hc1, hf1, hs1⟩ := bcell hb1; have hz10 : w.heap.size < w1.heap.size := (by have h9 := hb1.size; (try simp at h9); omega); have hz11 : w.heap.size + 1 < w1.heap.size := (by have h9 := hb1.size; (try simp at h9); omega); have hz12 : w.heap.size + 1 + 1 < w1.heap.size := (by have h9 := hb1.size; (try simp at h9); omega))
      | (go_at_call 34; refine (everyIn_any ma ml mc ms _ (h2.below (by repeat (first | (with_reducible exact Below.refl _ _) | (with_reducible assumption) | (with_reducible refine bel_set ?_ (by first | (simp; done) | (simp; omega)) _) | (with_reducible refine bel_alloc ?_ _) | (with_reducible refine bel_drew ?_) | (with_reducible refine bel_drewN ?_ _) | (with_reducible refine bel_trans ?_ (by with_reducible assumption)))))).mono ?_; rintro e' w2 ⟨rfl, hb2⟩; obtain ⟨hc2, hf2, hs2⟩ := bcell hb2; have hz20 : w.heap.size < w2.heap.size := (by have h9 := hb2.size; (try simp at h9); omega); have hz21 : w.heap.size + 1 < w2.heap.size := (by have h9 := hb2.size; (try simp at h9); omega); have hz22 : w.heap.size + 1 + 1 < w2.heap.size := (by have h9 := hb2.size; (try simp at h9); omega)))
    refine bodyPost_ret (v := .agg #[.slice none 0 0, .int .i64 0, .slice none 0 0, .int .i64 0, .int .i64 0, .slice none 0 0, .slice none 0 0]) (by simp (maxDischargeDepth := 9) [results, Try.results12, go_sem, *]) rfl ?_
    exact zero_new (by repeat (first | (with_reducible exact Below.refl _ _) | (with_reducible assumption) | (with_reducible refine bel_set ?_ (by first | (simp; done) | (simp; omega)) _) | (with_reducible refine bel_alloc ?_ _) | (with_reducible refine bel_drew ?_) | (with_reducible refine bel_drewN ?_ _) | (with_reducible refine bel_trans ?_ (by with_reducible assumption))))
  · obtain rfl : nb = true := by rw [hNm, q3]
    clear hNm
    have HG1 := h.below hbb
    have h2b := h2.below hbb
    go_enter Try.func12, Try.ntmps12
    go_wp2_with (first
      | (go_at_call 33; refine (implopok_any s t k z p l e b v r m (some ⟨g, 0, none⟩) len cap rows _ (h.rs.below (by repeat (first | (with_reducible exact Below.refl _ _) | (with_reducible assumption) | (with_reducible refine bel_set ?_ (by first | (simp; done) | (simp; omega)) _) | (with_reducible refine bel_alloc ?_ _) | (with_reducible refine bel_drew ?_) | (with_reducible refine bel_drewN ?_ _) | (with_reducible refine bel_trans ?_ (by with_reducible assumption)))))).mono ?_; rintro e' w1 ⟨rfl, hb1⟩; obtain ⟨hc1, hf1, hs1⟩ := bcell hb1; have hz10 : w.heap.size < w1.heap.size := (by have h9 := hb1.size; (try simp at h9); omega); have hz11 : w.heap.size + 1 < w1.heap.size := (by have h9 := hb1.size; (try simp at h9); omega); have hz12 : w.heap.size + 1 + 1 < w1.heap.size := (by have h9 := hb1.size; (try simp at h9); omega))
      | (go_at_call 34; refine (everyIn_any ma ml mc ms _ (h2.below (by repeat (first | (with_reducible exact Below.refl _ _) | (with_reducible assumption) | (with_reducible refine bel_set ?_ (by first | (simp; done) | (simp; omega)) _) | (with_reducible refine bel_alloc ?_ _) | (with_reducible refine bel_drew ?_) | (with_reducible refine bel_drewN ?_ _) | (with_reducible refine bel_trans ?_ (by with_reducible assumption)))))).mono ?_; rintro e' w2 ⟨rfl, hb2⟩; obtain ⟨hc2, hf2, hs2⟩ := bcell hb2; have hz20 : w.heap.size < w2.heap.size := (by have h9 := hb2.size; (try simp at h9); omega); have hz21 : w.heap.size + 1 < w2.heap.size := (by have h9 := hb2.size; (try simp at h9); omega); have hz22 : w.heap.size + 1 + 1 < w2.heap.size := (by have h9 := hb2.size; (try simp at h9); omega)))
    have hB2 : Below (((w.alloc (.cells #[.int .i64 s, .int .i64 t, .int .i64 k, .int .i64 z, .int .i64 p, .int .i64 l, .int .i64 e, .bool b, .int .i64 v, .int .i64 r] 40)).alloc (.cells #[.int .i64 m, .slice (some ⟨g, 0, none⟩) len cap] 32)).alloc (.cells #[.slice none 0 0, .int .i64 0, .slice none 0 0, .int .i64 0, .int .i64 0, .slice none 0 0, .slice none 0 0] 38)).heap.size (((w.alloc (.cells #[.int .i64 s, .int .i64 t, .int .i64 k, .int .i64 z, .int .i64 p, .int .i64 l, .int .i64 e, .bool b, .int .i64 v, .int .i64 r] 40)).alloc (.cells #[.int .i64 m, .slice (some ⟨g, 0, none⟩) len cap] 32)).alloc (.cells #[.slice none 0 0, .int .i64 0, .slice none 0 0, .int .i64 0, .int .i64 0, .slice none 0 0, .slice none 0 0] 38)) w2 := (by repeat (first | (with_reducible exact Below.refl _ _) | (with_reducible assumption) | (with_reducible refine bel_set ?_ (by first | (simp; done) | (simp; omega)) _) | (with_reducible refine bel_alloc ?_ _) | (with_reducible refine bel_drew ?_) | (with_reducible refine bel_drewN ?_ _) | (with_reducible refine bel_trans ?_ (by with_reducible assumption))))
    have HG2 := HG1.below hB2
    have h2c := h2b.below hB2
    have x0 : w2.cell? ⟨w.heap.size + 1, 0, none⟩ = some (.int .i64 m) := (hB2.cell (p := ⟨w.heap.size + 1, 0, none⟩) (by simp <;> omega)).trans (by simp [go_sem])
    have x1 : w2.cell? ⟨w.heap.size + 1, 1, none⟩ = some (.slice (some ⟨g, 0, none⟩) len cap) := (hB2.cell (p := ⟨w.heap.size + 1, 1, none⟩) (by simp <;> omega)).trans (by simp [go_sem])
    have y2 : w.heap.size + 1 + 1 < w2.heap.size := hz22
    have y1 : w.heap.size + 1 < w2.heap.size := by omega
    clear hc1 hf1 hs1 hc2 hf2 hs2 hz10 hz11 hz12 hz20 hz21 hb1 hb2 q1 q2' q2n q3 HG1 h2b
    go_cut [7] (fun pv W => ∃ (B7 : Nat) (a1 : Option Addr) (c1 : Nat), pv = .pointer (some ⟨B7, 0, none⟩) ∧ OwnOr W w2.heap.size (.slice a1 len c1) rows ∧ (Value.slice a1 len c1).ownBlock ≠ some B7 ∧ (W.cell? ⟨B7, 0, none⟩ = some (.slice none 0 0) ∧ W.cell? ⟨B7, 1, none⟩ = some (.int .i64 m) ∧ W.cell? ⟨B7, 2, none⟩ = some (.slice a1 len c1) ∧ W.cell? ⟨B7, 3, none⟩ = some (.int .i64 0) ∧ W.cell? ⟨B7, 4, none⟩ = some (.int .i64 0) ∧ W.cell? ⟨B7, 5, none⟩ = some (.slice none 0 0) ∧ W.cell? ⟨B7, 6, none⟩ = some (.slice none 0 0) ∧ W.frozen? ⟨B7, 0, none⟩ = false) ∧ w2.heap.size ≤ B7 ∧ B7 < W.heap.size ∧ Below w2.heap.size w2 W)
    case first =>
      refine wp_region_held_drew (S := (fun W => (W.cell? ⟨w.heap.size + 1, 0, none⟩ = some (.int .i64 m) ∧ W.cell? ⟨w.heap.size + 1, 1, none⟩ = some (.slice (some ⟨g, 0, none⟩) len cap)) ∧ w.heap.size + 1 < W.heap.size)) (by kernel_rfl) ?_ (fun hHeld => ?_)
      · (try dsimp only); exact ⟨⟨x0, x1⟩, by show _ < w2.heap.size; omega⟩
      refine wpAnyH_take (i := 0) (v := ?_) (by simp only [List.getElem?_toArray, List.getElem?_cons_zero, List.getElem?_cons_succ]; rfl) (by kernel_rfl) (by kernel_rfl) (by kernel_rfl) (by intro _ _ _ h; exact h) (Or.inl ⟨by rfl, ?_⟩) (by assumption) ?_
      rotate_left
      · (intro w9 hSw; (try dsimp only at hSw); go_simp <;> with_reducible rfl)
      try simp only [Act.put, List.setIfInBounds_toArray, List.set_cons_zero, List.set_cons_succ]
      refine wpAnyH_take (i := 1) (v := ?_) (by simp only [List.getElem?_toArray, List.getElem?_cons_zero, List.getElem?_cons_succ]; rfl) (by kernel_rfl) (by kernel_rfl) (by kernel_rfl) (by intro _ _ _ h; exact h) (Or.inl ⟨by rfl, ?_⟩) (by assumption) ?_
      rotate_left
      · (intro w9 hSw; (try dsimp only at hSw); go_simp <;> with_reducible rfl)
      try simp only [Act.put, List.setIfInBounds_toArray, List.set_cons_zero, List.set_cons_succ]
      refine wpAnyH_take (i := 2) (v := ?_) (by simp only [List.getElem?_toArray, List.getElem?_cons_zero, List.getElem?_cons_succ]; rfl) (by kernel_rfl) (by kernel_rfl) (by kernel_rfl) (by intro _ _ _ h; exact h) (Or.inl ⟨by rfl, ?_⟩) (by assumption) ?_
      rotate_left
      · (intro w9 hSw; (try dsimp only at hSw); go_simp <;> with_reducible rfl)
      try simp only [Act.put, List.setIfInBounds_toArray, List.set_cons_zero, List.set_cons_succ]
      refine wpAnyH_take (i := 3) (v := ?_) (by simp only [List.getElem?_toArray, List.getElem?_cons_zero, List.getElem?_cons_succ]; rfl) (by kernel_rfl) (by kernel_rfl) (by kernel_rfl) (by intro _ _ _ h; exact h) (Or.inl ⟨by rfl, ?_⟩) (by assumption) ?_
      rotate_left
      · (intro w9 hSw; (try dsimp only at hSw); go_simp <;> with_reducible rfl)
      try simp only [Act.put, List.setIfInBounds_toArray, List.set_cons_zero, List.set_cons_succ]
      refine wpAnyH_ready (rs := [4, 7]) (by kernel_rfl) (by simp) ?_
      refine AllReadyH.cons (by simp only [List.getElem?_toArray, List.getElem?_cons_zero, List.getElem?_cons_succ]; rfl) (fun K hK => ?_) ?_
      · go_simp
        (go_at_call 36; refine (cloneOr_any g len cap rows _ (HG2.below (by repeat (first | (with_reducible exact Below.refl _ _) | (with_reducible assumption) | (with_reducible refine bel_set ?_ (by first | (simp; done) | (simp; omega)) _) | (with_reducible refine bel_alloc ?_ _) | (with_reducible refine bel_drew ?_) | (with_reducible refine bel_drewN ?_ _) | (with_reducible refine bel_trans ?_ (by with_reducible assumption))))) hl).mono ?_; rintro e' w3 ⟨a1, c1, rfl, hO3, hb3⟩; obtain ⟨hc3, hf3, hs3⟩ := bcell hb3)
        (try go_wp2_with fail)
        have hz3 : w.heap.size + 1 < w3.heap.size := by have h9 := hb3.size; simp at h9; omega
        have hx0 : w3.cell? ⟨w.heap.size + 1, 0, none⟩ = some (.int .i64 m) := (hc3 _ _ (by simp; omega)).trans (by simpa using x0)
        have hx1 : w3.cell? ⟨w.heap.size + 1, 1, none⟩ = some (.slice (some ⟨g, 0, none⟩) len cap) := (hc3 _ _ (by simp; omega)).trans (by simpa using x1)
        have h32 : w2.heap.size ≤ w3.heap.size := by have h9 := hb3.size; simp at h9; omega
        clear hc3 hf3 hs3
        refine hK.out _ _ ?_ (fun hHeld2 => ?_)
        · (try dsimp only); exact ⟨⟨hx0, hx1⟩, hz3⟩
        clear hK K hHeld
        have hHeld := hHeld2
        clear hHeld2
        try simp only [Act.put, List.setIfInBounds_toArray, List.set_cons_zero, List.set_cons_succ]
        refine wpAnyH_take (i := 5) (v := ?_) (by simp only [List.getElem?_toArray, List.getElem?_cons_zero, List.getElem?_cons_succ]; rfl) (by kernel_rfl) (by kernel_rfl) (by kernel_rfl) (by intro _ _ _ h; exact h) (Or.inl ⟨by rfl, ?_⟩) (by assumption) ?_
        rotate_left
        · (intro w9 hSw; (try dsimp only at hSw); go_simp <;> with_reducible rfl)
        try simp only [Act.put, List.setIfInBounds_toArray, List.set_cons_zero, List.set_cons_succ]
        refine wpAnyH_take (i := 6) (v := ?_) (by simp only [List.getElem?_toArray, List.getElem?_cons_zero, List.getElem?_cons_succ]; rfl) (by kernel_rfl) (by kernel_rfl) (by kernel_rfl) (by intro _ _ _ h; exact h) (Or.inl ⟨by rfl, ?_⟩) (by assumption) ?_
        rotate_left
        · (intro w9 hSw; (try dsimp only at hSw); go_simp <;> with_reducible rfl)
        try simp only [Act.put, List.setIfInBounds_toArray, List.set_cons_zero, List.set_cons_succ]
        refine wpAnyH_ready (rs := [7]) (by kernel_rfl) (by simp) ?_
        refine AllReadyH.cons (by simp only [List.getElem?_toArray, List.getElem?_cons_zero, List.getElem?_cons_succ]; rfl) (fun K hK => ?_) AllReadyH.nil
        go_simp
        refine hK.out _ _ ?_ (fun hHeld2 => ?_)
        · (try dsimp only); exact ⟨⟨by simp (maxDischargeDepth := 9) [go_sem, *], by simp (maxDischargeDepth := 9) [go_sem, *]⟩, by simp; omega⟩
        clear hK K hHeld
        have hHeld := hHeld2
        clear hHeld2
        try simp only [Act.put, List.setIfInBounds_toArray, List.set_cons_zero, List.set_cons_succ]
        refine wpAnyH_ready (rs := [8]) (by kernel_rfl) (by simp) ?_
        refine AllReadyH.cons (by simp only [List.getElem?_toArray, List.getElem?_cons_zero, List.getElem?_cons_succ]; rfl) (fun K hK => ?_) AllReadyH.nil
        go_simp
        refine hK.out _ _ ?_ (fun hHeld2 => ?_)
        · (try dsimp only); exact ⟨⟨by simp (maxDischargeDepth := 9) [go_sem, *], by simp (maxDischargeDepth := 9) [go_sem, *]⟩, by simp; omega⟩
        clear hK K hHeld
        have hHeld := hHeld2
        clear hHeld2
        try simp only [Act.put, List.setIfInBounds_toArray, List.set_cons_zero, List.set_cons_succ]
        refine wpAnyH_done (by kernel_rfl) ?_ _
        go_wp2
        go_meet
        refine ⟨w3.heap.size, a1, c1, rfl, ?_, ?_, ⟨by simp (maxDischargeDepth := 9) [go_sem, *], by simp (maxDischargeDepth := 9) [go_sem, *], by simp (maxDischargeDepth := 9) [go_sem, *], by simp (maxDischargeDepth := 9) [go_sem, *], by simp (maxDischargeDepth := 9) [go_sem, *], by simp (maxDischargeDepth := 9) [go_sem, *], by simp (maxDischargeDepth := 9) [go_sem, *], by simp (maxDischargeDepth := 9) [go_sem, *]⟩, by omega, by first | (simp; done) | (simp; omega) | (simp [World.setCell]; omega), (by repeat (first | (with_reducible exact Below.refl _ _) | (with_reducible assumption) | (with_reducible refine bel_set ?_ (by first | (simp; done) | (simp; omega)) _) | (with_reducible refine bel_alloc ?_ _) | (with_reducible refine bel_drew ?_) | (with_reducible refine bel_drewN ?_ _) | (with_reducible refine bel_trans ?_ (by with_reducible assumption))))⟩
        · exact World.ownsRow.mono (ownBel hO3 (bel_one _ _)) (by simp)
        · exact fun e => by have := own_lt hO3 _ e; omega
      refine AllReadyH.cons (by simp only [List.getElem?_toArray, List.getElem?_cons_zero, List.getElem?_cons_succ]; rfl) (fun K hK => ?_) ?_
      · go_simp
        refine hK.out _ _ ?_ (fun hHeld2 => ?_)
        · (try dsimp only); exact ⟨⟨by simp (maxDischargeDepth := 9) [go_sem, *], by simp (maxDischargeDepth := 9) [go_sem, *]⟩, by simp; omega⟩
        clear hK K hHeld
        have hHeld := hHeld2
        clear hHeld2
        try simp only [Act.put, List.setIfInBounds_toArray, List.set_cons_zero, List.set_cons_succ]
        refine wpAnyH_ready (rs := [4]) (by kernel_rfl) (by simp) ?_
        refine AllReadyH.cons (by simp only [List.getElem?_toArray, List.getElem?_cons_zero, List.getElem?_cons_succ]; rfl) (fun K hK => ?_) AllReadyH.nil
        go_simp
        (go_at_call 36; refine (cloneOr_any g len cap rows _ (HG2.below (by repeat (first | (with_reducible exact Below.refl _ _) | (with_reducible assumption) | (with_reducible refine bel_set ?_ (by first | (simp; done) | (simp; omega)) _) | (with_reducible refine bel_alloc ?_ _) | (with_reducible refine bel_drew ?_) | (with_reducible refine bel_drewN ?_ _) | (with_reducible refine bel_trans ?_ (by with_reducible assumption))))) hl).mono ?_; rintro e' w3 ⟨a1, c1, rfl, hO3, hb3⟩; obtain ⟨hc3, hf3, hs3⟩ := bcell hb3)
        (try go_wp2_with fail)
        have hz3 : w.heap.size + 1 < w3.heap.size := by have h9 := hb3.size; simp at h9; omega
        have hx0 : w3.cell? ⟨w.heap.size + 1, 0, none⟩ = some (.int .i64 m) := (hc3 _ _ (by simp; omega)).trans (by simpa using hHeld.1.1)
        have hx1 : w3.cell? ⟨w.heap.size + 1, 1, none⟩ = some (.slice (some ⟨g, 0, none⟩) len cap) := (hc3 _ _ (by simp; omega)).trans (by simpa using hHeld.1.2)
        have h32 : w2.heap.size < w3.heap.size := by have h9 := hb3.size; simp at h9; omega
        have zc0 : w3.cell? ⟨w2.heap.size, 0, none⟩ = some (.slice none 0 0) := (hc3 _ _ (by simp)).trans (by simp [go_sem])
        have zf0 : w3.frozen? ⟨w2.heap.size, 0, none⟩ = false := (hf3 _ _ (by simp)).trans (by simp [go_sem])
        have zc1 : w3.cell? ⟨w2.heap.size, 1, none⟩ = some (.int .i64 0) := (hc3 _ _ (by simp)).trans (by simp [go_sem])
        have zf1 : w3.frozen? ⟨w2.heap.size, 1, none⟩ = false := (hf3 _ _ (by simp)).trans (by simp [go_sem])
        have zc2 : w3.cell? ⟨w2.heap.size, 2, none⟩ = some (.slice none 0 0) := (hc3 _ _ (by simp)).trans (by simp [go_sem])
        have zf2 : w3.frozen? ⟨w2.heap.size, 2, none⟩ = false := (hf3 _ _ (by simp)).trans (by simp [go_sem])
        have zc3 : w3.cell? ⟨w2.heap.size, 3, none⟩ = some (.int .i64 0) := (hc3 _ _ (by simp)).trans (by simp [go_sem])
        have zf3 : w3.frozen? ⟨w2.heap.size, 3, none⟩ = false := (hf3 _ _ (by simp)).trans (by simp [go_sem])
        have zc4 : w3.cell? ⟨w2.heap.size, 4, none⟩ = some (.int .i64 0) := (hc3 _ _ (by simp)).trans (by simp [go_sem])
        have zf4 : w3.frozen? ⟨w2.heap.size, 4, none⟩ = false := (hf3 _ _ (by simp)).trans (by simp [go_sem])
        have zc5 : w3.cell? ⟨w2.heap.size, 5, none⟩ = some (.slice none 0 0) := (hc3 _ _ (by simp)).trans (by simp [go_sem])
        have zf5 : w3.frozen? ⟨w2.heap.size, 5, none⟩ = false := (hf3 _ _ (by simp)).trans (by simp [go_sem])
        have zc6 : w3.cell? ⟨w2.heap.size, 6, none⟩ = some (.slice none 0 0) := (hc3 _ _ (by simp)).trans (by simp [go_sem])
        have zf6 : w3.frozen? ⟨w2.heap.size, 6, none⟩ = false := (hf3 _ _ (by simp)).trans (by simp [go_sem])
        clear hc3 hf3 hs3
        refine hK.out _ _ ?_ (fun hHeld2 => ?_)
        · (try dsimp only); exact ⟨⟨hx0, hx1⟩, hz3⟩
        clear hK K hHeld
        have hHeld := hHeld2
        clear hHeld2
        try simp only [Act.put, List.setIfInBounds_toArray, List.set_cons_zero, List.set_cons_succ]
        refine wpAnyH_take (i := 5) (v := ?_) (by simp only [List.getElem?_toArray, List.getElem?_cons_zero, List.getElem?_cons_succ]; rfl) (by kernel_rfl) (by kernel_rfl) (by kernel_rfl) (by intro _ _ _ h; exact h) (Or.inl ⟨by rfl, ?_⟩) (by assumption) ?_
        rotate_left
        · (intro w9 hSw; (try dsimp only at hSw); go_simp <;> with_reducible rfl)
        try simp only [Act.put, List.setIfInBounds_toArray, List.set_cons_zero, List.set_cons_succ]
        refine wpAnyH_take (i := 6) (v := ?_) (by simp only [List.getElem?_toArray, List.getElem?_cons_zero, List.getElem?_cons_succ]; rfl) (by kernel_rfl) (by kernel_rfl) (by kernel_rfl) (by intro _ _ _ h; exact h) (Or.inl ⟨by rfl, ?_⟩) (by assumption) ?_
        rotate_left
        · (intro w9 hSw; (try dsimp only at hSw); go_simp <;> with_reducible rfl)
        try simp only [Act.put, List.setIfInBounds_toArray, List.set_cons_zero, List.set_cons_succ]
        refine wpAnyH_ready (rs := [8]) (by kernel_rfl) (by simp) ?_
        refine AllReadyH.cons (by simp only [List.getElem?_toArray, List.getElem?_cons_zero, List.getElem?_cons_succ]; rfl) (fun K hK => ?_) AllReadyH.nil
        go_simp
        refine hK.out _ _ ?_ (fun hHeld2 => ?_)
        · (try dsimp only); exact ⟨⟨by rw [cell_set_ne (by simp; omega), cell_set_ne (by simp; omega), cell_set_ne (by simp; omega), cell_set_ne (by simp; omega), cell_set_ne (by simp; omega), cell_set_ne (by simp; omega), cell_set_ne (by simp; omega)]; exact hHeld.1.1, by rw [cell_set_ne (by simp; omega), cell_set_ne (by simp; omega), cell_set_ne (by simp; omega), cell_set_ne (by simp; omega), cell_set_ne (by simp; omega), cell_set_ne (by simp; omega), cell_set_ne (by simp; omega)]; exact hHeld.1.2⟩, by simp [World.setCell]; omega⟩
        clear hK K hHeld
        have hHeld := hHeld2
        clear hHeld2
        try simp only [Act.put, List.setIfInBounds_toArray, List.set_cons_zero, List.set_cons_succ]
        refine wpAnyH_done (by kernel_rfl) ?_ _
        go_wp2
        go_meet
        refine ⟨w2.heap.size, a1, c1, rfl, ?_, ?_, ⟨by simp (maxDischargeDepth := 9) [go_sem, *], by simp (maxDischargeDepth := 9) [go_sem, *], by simp (maxDischargeDepth := 9) [go_sem, *], by simp (maxDischargeDepth := 9) [go_sem, *], by simp (maxDischargeDepth := 9) [go_sem, *], by simp (maxDischargeDepth := 9) [go_sem, *], by simp (maxDischargeDepth := 9) [go_sem, *], by simp (maxDischargeDepth := 9) [go_sem, *]⟩, by omega, by first | (simp; done) | (simp; omega) | (simp [World.setCell]; omega), (by repeat (first | (with_reducible exact Below.refl _ _) | (with_reducible assumption) | (with_reducible refine bel_set ?_ (by first | (simp; done) | (simp; omega)) _) | (with_reducible refine bel_alloc ?_ _) | (with_reducible refine bel_drew ?_) | (with_reducible refine bel_drewN ?_ _) | (with_reducible refine bel_trans ?_ (by with_reducible assumption))))⟩
        · have h8 : ∀ b, (Value.slice a1 len c1).ownBlock = some b → w2.heap.size < b := fun b hb => by have := own_geB hO3 b hb; simp at this; omega
          exact World.ownsRow.mono (own_set (own_set (own_set (own_set (own_set (own_set (own_set hO3 (fun e => by have := h8 _ e; simp at this)) (fun e => by have := h8 _ e; simp at this)) (fun e => by have := h8 _ e; simp at this)) (fun e => by have := h8 _ e; simp at this)) (fun e => by have := h8 _ e; simp at this)) (fun e => by have := h8 _ e; simp at this)) (fun e => by have := h8 _ e; simp at this)) (by simp)
        · exact fun e => by have := own_geB hO3 _ e; simp at this; omega
      exact AllReadyH.nil
    case rest =>
      rename World => wc
      obtain ⟨B7, a1, c1, rfl, hO2, hneB, ⟨t0, t1, t2, t3, t4, t5, t6, tf⟩, hB7, hB7s, hbc⟩ := hcut
      have hO2lt := own_lt hO2
      have hwc : w2.heap.size ≤ wc.heap.size := hbc.size
      clear x0 x1 HG2
      go_wp2
      go_loopw [36] (fun i wr => ∃ (k2 : Nat) (ia : Option Addr) (ic : Nat), k2 ≤ ml ∧ i = .int .i64 k2 ∧ OwnTi wr (wc.heap.size) (.slice ia k2 ic) (ms.take k2) ∧ (wr.cell? ⟨B7, 0, none⟩ = some ((.slice ia k2 ic)) ∧ wr.cell? ⟨B7, 1, none⟩ = some (.int .i64 m) ∧ wr.cell? ⟨B7, 2, none⟩ = some (.slice a1 len c1) ∧ wr.cell? ⟨B7, 3, none⟩ = some (.int .i64 0) ∧ wr.cell? ⟨B7, 4, none⟩ = some (.int .i64 0) ∧ wr.cell? ⟨B7, 5, none⟩ = some (.slice none 0 0) ∧ wr.cell? ⟨B7, 6, none⟩ = some (.slice none 0 0) ∧ wr.frozen? ⟨B7, 0, none⟩ = false) ∧ Kept (fun b => b = B7) wc wr) (fun i _ => ml - (intOf i).toNat)
      case atStart => exact ⟨0, none, 0, Nat.zero_le _, rfl, World.ownsRow_nil _ _ _ _, ⟨t0, t1, t2, t3, t4, t5, t6, tf⟩, Kept.refl _ _⟩
      case round =>
        clear t0 t1 t2 t3 t4 t5 t6 tf
        obtain ⟨k2, ia, ic, hk2, rfl, hOT, ⟨t0, t1, t2, t3, t4, t5, t6, tf⟩, hK⟩ := hrel
        have hKs := hK.size
        have hOld : ∀ b, b < w2.heap.size → wr.heap[b]? = w2.heap[b]? := fun b hb => (hK.blk b (by omega) (by omega)).trans (hbc.block b hb)
        have hcO : ∀ b o, b < w2.heap.size → wr.cell? ⟨b, o, none⟩ = w2.cell? ⟨b, o, none⟩ := fun b o hb => World.cell?_of_block (hOld b hb)
        have hfO : ∀ b o, b < w2.heap.size → wr.frozen? ⟨b, o, none⟩ = w2.frozen? ⟨b, o, none⟩ := fun b o hb => World.frozen?_of_block (hOld b hb)
        have an0 : wr.cell? ⟨w.heap.size + 1 + 1, 0, none⟩ = some (.slice none 0 0) := (hcO _ _ (by omega)).trans ((hB2.cell (p := ⟨w.heap.size + 1 + 1, 0, none⟩) (by simp)).trans (by simp [go_sem]))
        have af0 : wr.frozen? ⟨w.heap.size + 1 + 1, 0, none⟩ = false := (hfO _ _ (by omega)).trans ((hB2.frozen (p := ⟨w.heap.size + 1 + 1, 0, none⟩) (by simp)).trans (by simp [go_sem]))
        have an1 : wr.cell? ⟨w.heap.size + 1 + 1, 1, none⟩ = some (.int .i64 0) := (hcO _ _ (by omega)).trans ((hB2.cell (p := ⟨w.heap.size + 1 + 1, 1, none⟩) (by simp)).trans (by simp [go_sem]))
        have af1 : wr.frozen? ⟨w.heap.size + 1 + 1, 1, none⟩ = false := (hfO _ _ (by omega)).trans ((hB2.frozen (p := ⟨w.heap.size + 1 + 1, 1, none⟩) (by simp)).trans (by simp [go_sem]))
        have an2 : wr.cell? ⟨w.heap.size + 1 + 1, 2, none⟩ = some (.slice none 0 0) := (hcO _ _ (by omega)).trans ((hB2.cell (p := ⟨w.heap.size + 1 + 1, 2, none⟩) (by simp)).trans (by simp [go_sem]))
        have af2 : wr.frozen? ⟨w.heap.size + 1 + 1, 2, none⟩ = false := (hfO _ _ (by omega)).trans ((hB2.frozen (p := ⟨w.heap.size + 1 + 1, 2, none⟩) (by simp)).trans (by simp [go_sem]))
        have an3 : wr.cell? ⟨w.heap.size + 1 + 1, 3, none⟩ = some (.int .i64 0) := (hcO _ _ (by omega)).trans ((hB2.cell (p := ⟨w.heap.size + 1 + 1, 3, none⟩) (by simp)).trans (by simp [go_sem]))
        have af3 : wr.frozen? ⟨w.heap.size + 1 + 1, 3, none⟩ = false := (hfO _ _ (by omega)).trans ((hB2.frozen (p := ⟨w.heap.size + 1 + 1, 3, none⟩) (by simp)).trans (by simp [go_sem]))
        have an4 : wr.cell? ⟨w.heap.size + 1 + 1, 4, none⟩ = some (.int .i64 0) := (hcO _ _ (by omega)).trans ((hB2.cell (p := ⟨w.heap.size + 1 + 1, 4, none⟩) (by simp)).trans (by simp [go_sem]))
        have af4 : wr.frozen? ⟨w.heap.size + 1 + 1, 4, none⟩ = false := (hfO _ _ (by omega)).trans ((hB2.frozen (p := ⟨w.heap.size + 1 + 1, 4, none⟩) (by simp)).trans (by simp [go_sem]))
        have an5 : wr.cell? ⟨w.heap.size + 1 + 1, 5, none⟩ = some (.slice none 0 0) := (hcO _ _ (by omega)).trans ((hB2.cell (p := ⟨w.heap.size + 1 + 1, 5, none⟩) (by simp)).trans (by simp [go_sem]))
        have af5 : wr.frozen? ⟨w.heap.size + 1 + 1, 5, none⟩ = false := (hfO _ _ (by omega)).trans ((hB2.frozen (p := ⟨w.heap.size + 1 + 1, 5, none⟩) (by simp)).trans (by simp [go_sem]))
        have an6 : wr.cell? ⟨w.heap.size + 1 + 1, 6, none⟩ = some (.slice none 0 0) := (hcO _ _ (by omega)).trans ((hB2.cell (p := ⟨w.heap.size + 1 + 1, 6, none⟩) (by simp)).trans (by simp [go_sem]))
        have af6 : wr.frozen? ⟨w.heap.size + 1 + 1, 6, none⟩ = false := (hfO _ _ (by omega)).trans ((hB2.frozen (p := ⟨w.heap.size + 1 + 1, 6, none⟩) (by simp)).trans (by simp [go_sem]))
        have hbW : Below w.heap.size w wr := bel_trans hbb (hB2.trans ⟨hK.os.trans hbc.os, hK.tape.trans hbc.tape, hK.output.trans hbc.output, by omega, fun b hb => hOld b (by have h9 := hB2.size; omega)⟩)
        have hzA : w.heap.size + 1 + 1 < wr.heap.size := by omega
        by_cases hlt : k2 < ml
        · obtain ⟨_, _, hx⟩ := h2c
          obtain ⟨g2, o2, rfl, hr⟩ := hx.resolve_left (by omega)
          obtain ⟨x, hxk⟩ : ∃ x, ms[k2]? = some x := ⟨_, List.getElem?_eq_getElem (by omega)⟩
          have hg2 : g2 < w2.heap.size := hr.lt (by omega)
          have hX := hide hxk
          have d0 : wr.cell? ⟨g2, o2 + k2, none⟩ = some (.int .i64 x) := (hcO _ _ hg2).trans (hr k2 _ hxk)
          have hltI : (k2 : Int) < (ml : Int) := by omega
          have HOk : wr.ownsRow wc.heap.size 70 3 (.slice ia k2 ic) k2 (flatTi (ms.take k2)) := by have h9 := hOT; unfold OwnTi at h9; rwa [List.length_take, Nat.min_eq_left (by omega)] at h9
          have hge := own_geB HOk
          have hzB : B7 < wr.heap.size := by omega
          clear hx hxk hr hcO hfO hOld
          go_wp2_with (at_builtin; go_loud (refine wpList_append_own _ rfl _ _ 29 rfl wc.heap.size 70 i0 _ 3 40 Try.underlying29 hi hz0 hz1 hz2 rfl (by decide) (.slice ia k2 ic) k2 (flatTi (ms.take k2)) rfl (World.ownsRow.alloc HOk _) ⟨wr.heap.size, 0, none⟩ 1 1 [.slice none 0 0, .int .i64 x, .bool false] rfl rfl (newcells (by simp [go_sem]) (by simp [go_sem]) (by simp [go_sem])) (by simp [Value.oneCell']) (by unfold maxLen; omega) (by omega) (by simp; omega) ?_); intro v' w5 hown hgrow _; obtain ⟨ia', ic', rfl⟩ := sliceOf hown; have kb : ∀ b, b < wc.heap.size → w5.heap[b]? = wr.heap[b]? := (fun b hb => (hgrow.block b (by simp; omega) (fun e => by have := hge b e.symm; omega)).trans (Below.heap_alloc _ _ _ (by omega))); have u0 := (World.cell?_of_block (a := ⟨B7, 0, none⟩) (kb B7 hB7s)).trans t0; have uf := (World.frozen?_of_block (a := ⟨B7, 0, none⟩) (kb B7 hB7s)).trans tf; have hz5 : wr.heap.size ≤ w5.heap.size := (by have h9 := hgrow.size; simp at h9; omega))
          have hO6 : OwnTi w5 wc.heap.size (.slice ia' (k2 + 1) ic') (ms.take (k2 + 1)) := by
            rw [take_mk (unhide hX)]
            refine ownTi_snoc ?_
            rw [List.length_take, Nat.min_eq_left (by omega)]
            exact hown
          have hK6 : Kept (fun b => b = B7) wc w5 := ⟨hgrow.os.trans hK.os, hgrow.tape.trans hK.tape, hgrow.output.trans hK.output, by omega, fun b hb hS => (kb b hb).trans (hK.blk b hb hS)⟩
          have kc : ∀ o, w5.cell? ⟨B7, o, none⟩ = wr.cell? ⟨B7, o, none⟩ := fun o => World.cell?_of_block (a := ⟨B7, o, none⟩) (kb B7 hB7s)
          go_roundw
          case rel => exact ⟨k2 + 1, ia', ic', by omega, by go_num, own_set hO6 (fun e => by have := own_geB hO6 _ e; simp at this; omega), ⟨World.cell?_setCell_same' _ _ _ (by rw [u0]; rfl), (Ti_other (by omega)).trans ((kc _).trans t1), (Ti_other (by omega)).trans ((kc _).trans t2), (Ti_other (by omega)).trans ((kc _).trans t3), (Ti_other (by omega)).trans ((kc _).trans t4), (Ti_other (by omega)).trans ((kc _).trans t5), (Ti_other (by omega)).trans ((kc _).trans t6), by rw [← uf]; simp [go_sem]⟩, hK6.set rfl _⟩
          case measure => simp [intOf]; omega
        · obtain rfl : k2 = ml := by omega
          have hOT' : OwnTi wr wc.heap.size (.slice ia k2 ic) ms := by have h9 := hOT; rwa [List.take_of_length_le (by omega)] at h9
          have hOO : OwnOr wr w2.heap.size (.slice a1 len c1) rows := ownKept hO2 hK (fun b hb e => hneB (by rw [hb, e]))
          have hneA : ∀ b, (Value.slice ia k2 ic).ownBlock = some b → w.heap.size + 1 + 1 < b := fun b hb => by have := own_geB hOT' b hb; omega
          have hneO : ∀ b, (Value.slice a1 len c1).ownBlock = some b → w.heap.size + 1 + 1 < b ∧ b < wc.heap.size := fun b hb => ⟨by have := own_geB hOO b hb; omega, hO2lt b hb⟩
          clear hcO hfO hOld
          go_wp2
          have hS1 : OwnTi (((((((wr.setCell ⟨w.heap.size + 1 + 1, 0, none⟩ (.slice ia k2 ic)).setCell ⟨w.heap.size + 1 + 1, 1, none⟩ (.int .i64 m)).setCell ⟨w.heap.size + 1 + 1, 2, none⟩ (.slice a1 len c1)).setCell ⟨w.heap.size + 1 + 1, 3, none⟩ (.int .i64 0)).setCell ⟨w.heap.size + 1 + 1, 4, none⟩ (.int .i64 0)).setCell ⟨w.heap.size + 1 + 1, 5, none⟩ (.slice none 0 0)).setCell ⟨w.heap.size + 1 + 1, 6, none⟩ (.slice none 0 0)) w.heap.size (.slice ia k2 ic) ms := World.ownsRow.mono (own_set (own_set (own_set (own_set (own_set (own_set (own_set hOT' (fun e => by have := hneA _ e; simp at this)) (fun e => by have := hneA _ e; simp at this)) (fun e => by have := hneA _ e; simp at this)) (fun e => by have := hneA _ e; simp at this)) (fun e => by have := hneA _ e; simp at this)) (fun e => by have := hneA _ e; simp at this)) (fun e => by have := hneA _ e; simp at this)) (by omega)
          have hS2 : OwnOr (((((((wr.setCell ⟨w.heap.size + 1 + 1, 0, none⟩ (.slice ia k2 ic)).setCell ⟨w.heap.size + 1 + 1, 1, none⟩ (.int .i64 m)).setCell ⟨w.heap.size + 1 + 1, 2, none⟩ (.slice a1 len c1)).setCell ⟨w.heap.size + 1 + 1, 3, none⟩ (.int .i64 0)).setCell ⟨w.heap.size + 1 + 1, 4, none⟩ (.int .i64 0)).setCell ⟨w.heap.size + 1 + 1, 5, none⟩ (.slice none 0 0)).setCell ⟨w.heap.size + 1 + 1, 6, none⟩ (.slice none 0 0)) w.heap.size (.slice a1 len c1) rows := World.ownsRow.mono (own_set (own_set (own_set (own_set (own_set (own_set (own_set hOO (fun e => by have := (hneO _ e).1; simp at this)) (fun e => by have := (hneO _ e).1; simp at this)) (fun e => by have := (hneO _ e).1; simp at this)) (fun e => by have := (hneO _ e).1; simp at this)) (fun e => by have := (hneO _ e).1; simp at this)) (fun e => by have := (hneO _ e).1; simp at this)) (fun e => by have := (hneO _ e).1; simp at this)) (by omega)
          obtain ⟨ia3, ic3, oa3, oc3, e1, e2, n1, n2⟩ := new_is hS1 hS2 (fun b hb e => by have h7 := own_geB hOT' b hb; have h8 := (hneO b e).2; omega) (by omega) (by omega)
          have q1 : ia3 = ia := by cases e1; rfl
          have q2 : ic3 = ic := by cases e1; rfl
          have q3 : oa3 = a1 := by cases e2; rfl
          have q4 : oc3 = c1 := by cases e2; rfl
          rw [q1, q3, hmle, hrle] at n1
          rw [q1, q2, q3, q4, hmle, hrle] at n2
          refine bodyPost_ret (v := .agg #[.slice ia k2 ic, .int .i64 m, .slice a1 len c1, .int .i64 0, .int .i64 0, .slice none 0 0, .slice none 0 0]) (by simp (maxDischargeDepth := 9) [results, Try.results12, go_sem, *]) rfl ⟨ia, k2, ic, a1, len, c1, ⟨by simp [newD, hmle], by simp [newD, hrle]⟩, rfl, n1, n2, ?_⟩
          exact (by repeat (first | (with_reducible exact Below.refl _ _) | (with_reducible assumption) | (with_reducible refine bel_set ?_ (by first | (simp; done) | (simp; omega)) _) | (with_reducible refine bel_alloc ?_ _) | (with_reducible refine bel_drew ?_) | (with_reducible refine bel_drewN ?_ _) | (with_reducible refine bel_trans ?_ (by with_reducible assumption))))
end Go.Proofs.Ytppdfmclhklkhaa
