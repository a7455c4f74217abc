/- Laid together: what the claim needs of the texts that were built one by one. -/
import Derived.Test.YtikidpcgnmffcaaGreatPkPairS2
import Derived.Test.YtikidpcgnmffcaaGreatPkBase
namespace Go.Proofs.YtikidpcgnmffcaaGreat
open Go.ChangeShapes Go.WideShapes Go.ChangeAt Go.RowKit
set_option linter.unusedVariables false

theorem all_tt {α : Type} {xs : List α} {p : α → Bool} {k : Nat} {x : α} (h : (xs.take k).all p = true) (hx : xs[k]? = some x) (hp : p x = true) : (xs.take (k + 1)).all p = true := by
  rw [List.take_add_one, hx, List.all_append, h]
  simp [hp]

theorem all_ff {α : Type} {xs : List α} {p : α → Bool} {k : Nat} {x : α} (hx : xs[k]? = some x) (hp : p x = false) : xs.all p = false := by
  rw [List.all_eq_false]
  exact ⟨x, List.mem_of_getElem? hx, by simp [hp]⟩

set_option maxRecDepth 20000 in
set_option maxHeartbeats 1000000 in
theorem everyRec_any (a : Option Addr) (len cap : Nat) (xs : List IwR) (w : World) (h : IwRs w a len xs) : Calls Tryz.prog 50 #[.slice a len cap, .func (.func 51) #[] #[]] w fun e w' => e = .returned (.bool (xs.all IwR.isB)) ∧ Below w.heap.size w w' := by
  have hm := h.2.1
  unfold maxLen at hm
  go_enter Tryz.func50, Tryz.ntmps50
  go_wp2
  go_loopw [9] (fun i wr => ∃ k : Nat, k ≤ len ∧ i = .int .i64 k ∧ Hid ((xs.take k).all IwR.isB = true) ∧ Below w.heap.size w wr) (fun i _ => len - (intOf i).toNat)
  case atStart => exact ⟨0, Nat.zero_le _, rfl, hide (by simp), Below.refl _ _⟩
  case round =>
    obtain ⟨k, hk, rfl, hA, hbw⟩ := hrel
    by_cases hlt : k < len
    · obtain ⟨hxl, _, hx⟩ := h
      obtain ⟨g, o, rfl, hr⟩ := hx.resolve_left (by omega)
      obtain ⟨x, hxk⟩ : ∃ x, xs[k]? = some x := ⟨_, List.getElem?_eq_getElem (by omega)⟩
      have hg : g < w.heap.size := hr.lt (by omega)
      have hX := hide hxk
      obtain ⟨d0, d1, d2, d3, d4⟩ := (hr k _ hxk).below hbw hg
      clear hx hxk hr
      cases hB : isRecB x.kd x.tm x.ke x.va x.nn
      · have HE : Hid (xs.all IwR.isB = false) := hide (all_ff (unhide hX) hB)
        go_wp2_with (go_at_call 51; refine (isrec_any _ _ _ _ _ _).mono ?_; rintro e wf ⟨rfl, hb⟩; obtain ⟨hc, hf, hsz⟩ := bcell hb)
        go_ret
        exact ⟨ret_b (unhide HE).symm, (belA)⟩
      · have HE : Hid ((xs.take (k + 1)).all IwR.isB = true) := hide (all_tt (unhide hA) (unhide hX) hB)
        go_wp2_with (go_at_call 51; refine (isrec_any _ _ _ _ _ _).mono ?_; rintro e wf ⟨rfl, hb⟩; obtain ⟨hc, hf, hsz⟩ := bcell hb)
        go_roundw
        case rel => exact ⟨k + 1, by omega, by go_num, HE, (belA)⟩
        case measure => simp [intOf]; omega
    · have HE : Hid (xs.all IwR.isB = true) := hide (by have h1 := unhide hA; rwa [List.take_of_length_le (by have := h.1; omega)] at h1)
      go_wp2
      go_ret
      exact ⟨ret_b (unhide HE).symm, hbw⟩

theorem recsok_any (a : Option Addr) (len cap : Nat) (xs : List IwR) (w : World) (h : IwRs w a len xs) : Calls Tryz.prog 36 #[.slice a len cap] w fun e w' => e = .returned (.bool (recsB xs)) ∧ Below w.heap.size w w' := by
  have hm := h.2.1
  have hle := h.1
  unfold maxLen at hm
  by_cases h120 : (len : Int) ≤ 120
  · have HV : Hid (recsB xs = xs.all IwR.isB) := hide (by unfold recsB; rw [decide_eq_true (by omega), Bool.true_and])
    go_enter Tryz.func36, Tryz.ntmps36
    go_wp2_with (go_at_call 50; refine (everyRec_any a len cap xs _ h).mono ?_; rintro e wf ⟨rfl, hb⟩)
    go_ret
    exact ⟨ret_b (unhide HV).symm, (belA)⟩
  · have HV := hide (recsB_len (xs := xs) (by omega))
    have hd : decide ((len : Int) ≤ 120) = false := decide_eq_false h120
    go_enter Tryz.func36, Tryz.ntmps36
    go_wp2_with fail
    go_ret
    exact ⟨ret_b (unhide HV).symm, (belA)⟩

set_option maxRecDepth 20000 in
set_option maxHeartbeats 1000000 in
theorem specpairs_any (s t k z p l e : Int) (b : Bool) (v r : Int) (a : Option Addr) (len cap : Nat) (xs : List IwR) (w : World) (h : IwRs w a len xs) : Calls Tryz.prog 14 #[.agg #[.int .i64 s, .int .i64 t, .int .i64 k, .int .i64 z, .int .i64 p, .int .i64 l, .int .i64 e, .bool b, .int .i64 v, .int .i64 r], .slice a len cap] w fun e' w' => ∃ v', e' = .returned v' ∧ OwnLp w' w.heap.size v' (pairsT s t k z p l e v r xs) ∧ Below w.heap.size w w' := by
  cases hj : okJob s t k z p l e v r
  · have HQ : Hid (pairsT s t k z p l e v r xs = []) := hide (by unfold pairsT; rw [if_neg (by simp [hj])])
    go_enter Tryz.func14, Tryz.ntmps14
    go_wp2_with fail
    refine (specjobok_any _ _ _ _ _ _ _ _ _ _ _).mono ?_
    rintro e' wa ⟨rfl, hba⟩
    go_wp2_with fail
    go_ret
    refine ⟨_, rfl, ?_, (belA)⟩
    rw [unhide HQ]
    exact World.ownsRow.mono (ownBel (ownLit (W := w.alloc (.cells #[.int .i64 s, .int .i64 t, .int .i64 k, .int .i64 z, .int .i64 p, .int .i64 l, .int .i64 e, .bool b, .int .i64 v, .int .i64 r] 28)) (B := w.heap.size + 1) (g := w.heap.size + 1) _ _ (by simp) (by simp)) hba) (by omega)
  cases hr : recsB xs
  · have HQ : Hid (pairsT s t k z p l e v r xs = []) := hide (by unfold pairsT; rw [if_neg (by simp [hr])])
    go_enter Tryz.func14, Tryz.ntmps14
    go_wp2_with fail
    refine (specjobok_any _ _ _ _ _ _ _ _ _ _ _).mono ?_
    rintro e' wa ⟨rfl, hba⟩
    go_wp2_with fail
    refine (l6recs_any a len cap xs _ (h.below (bel_trans (bel_alloc (bel_one _ _) _) hba))).mono ?_
    rintro e' wq ⟨rfl, hbq⟩
    go_wp2_with fail
    go_ret
    refine ⟨_, rfl, ?_, (belA)⟩
    rw [unhide HQ]
    exact World.ownsRow.mono (ownBel (ownLit (W := w.alloc (.cells #[.int .i64 s, .int .i64 t, .int .i64 k, .int .i64 z, .int .i64 p, .int .i64 l, .int .i64 e, .bool b, .int .i64 v, .int .i64 r] 28)) (B := w.heap.size + 1) (g := w.heap.size + 1) _ _ (by simp) (by simp)) (bel_trans hba hbq)) (by omega)
  · have HQ : pairsT s t k z p l e v r xs = prsT k z p xs := by unfold pairsT; rw [if_pos (by simp [hj, hr])]
    rw [HQ]
    exact specpairs_yes s t k z p l e b v r a len cap xs w h hj hr
end Go.Proofs.YtikidpcgnmffcaaGreat
