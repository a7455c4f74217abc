/- Proved here: the program's look whether items are records that may be looked at; all pairs, in the specification, at every argument. -/
import Derived.Test.YtdpifgdignhebaaPairS2
namespace Go.Proofs.Ytdpifgdignhebaa
open Go.ChangeShapes Go.WideShapes Go.ChangeAt Go.RowKit
set_option linter.unusedVariables false

theorem flt_in {xs : List IwR} {j : Nat} {x : IwR} (h : xs[j]? = some x) (hb : x.isB = true) : (xs.take (j + 1)).filter IwR.isB = (xs.take j).filter IwR.isB ++ [x] := by
  rw [take_snocI h, List.filter_append]; simp [hb]
theorem flt_no {xs : List IwR} {j : Nat} {x : IwR} (h : xs[j]? = some x) (hb : x.isB = false) : (xs.take (j + 1)).filter IwR.isB = (xs.take j).filter IwR.isB := by
  rw [take_snocI h, List.filter_append]; simp [hb]
theorem keepIw {xs : List IwR} {j : Nat} {x : IwR} {w1 : World} {B : Nat} {v' : Value} (h : xs[j]? = some x) (hb : x.isB = true) (ho : w1.ownsRow B 99 5 v' (((xs.take j).filter IwR.isB).length + 1) (flatIw ((xs.take j).filter IwR.isB) ++ x.cells)) : OwnIw w1 B v' ((xs.take (j + 1)).filter IwR.isB) := by
  rw [flt_in h hb]
  exact ownIw_snoc ho
theorem skipIw {xs : List IwR} {j : Nat} {x : IwR} {w1 : World} {B : Nat} {v' : Value} (h : xs[j]? = some x) (hb : x.isB = false) (ho : OwnIw w1 B v' ((xs.take j).filter IwR.isB)) : OwnIw w1 B v' ((xs.take (j + 1)).filter IwR.isB) := by
  rw [flt_no h hb]
  exact ho

set_option maxRecDepth 20000 in
set_option maxHeartbeats 2000000 in
theorem onlyIw_any (a : Option Addr) (len cap : Nat) (xs : List IwR) (w : World) (h : IwRs w a len xs) (hl : len ≤ 1048576) : Calls Try.prog 93 #[.slice a len cap, .func (.func 94) #[] #[]] w fun e w' => ∃ v, e = .returned v ∧ OwnIw w' w.heap.size v (xs.filter IwR.isB) ∧ Below w.heap.size w w' := by
  have hm := h.2.1
  unfold maxLen at hm
  obtain ⟨i0, hi, hz0, hz1, hz2⟩ := info_parts Try.infoIw
  go_enter Try.func93, Try.ntmps93
  go_wp2
  go_loopw [5, 10] (fun v' i wr => ∃ j : Nat, j ≤ len ∧ i = .int .i64 j ∧ OwnIw wr w.heap.size v' ((xs.take j).filter IwR.isB) ∧ Below w.heap.size w wr) (fun _ i _ => len - (intOf i).toNat)
  case atStart => exact ⟨0, Nat.zero_le _, rfl, World.ownsRow_nil _ _ _ _, Below.refl _ _⟩
  case round =>
    obtain ⟨j, hj, rfl, hO, hbw⟩ := hrel
    have hws := hbw.size
    have hkl : ((xs.take j).filter IwR.isB).length ≤ j := Nat.le_trans (List.length_filter_le _ _) (List.length_take_le _ _)
    have HO := hide hO
    have hge := hide (ownIw_ge hO)
    clear hO
    by_cases hlt : j < len
    · obtain ⟨hxl, _, hx⟩ := h
      obtain ⟨g, o, rfl, hr⟩ := hx.resolve_left (by omega)
      obtain ⟨x, hxk⟩ : ∃ x, xs[j]? = some x := ⟨_, List.getElem?_eq_getElem (by omega)⟩
      have hg : g < w.heap.size := hr.lt (by omega)
      have hX := hide hxk
      obtain ⟨d0, d1, d2, d3, d4⟩ := (hr j _ hxk).below hbw hg
      clear hx hxk hr
      cases hB : isRecB x.kd x.tm x.ke x.va x.nn
      · have HB : Hid (x.isB = false) := hide hB
        go_wp2_with (first
          | (go_at_call 94; refine (isrec_any _ _ _ _ _ _).mono ?_; rintro e wf ⟨rfl, hb⟩; obtain ⟨hc, hf, hsz⟩ := bcell hb; have hzf : wr.heap.size < wf.heap.size := (by have h9 := hb.size; simp at h9; omega))
          | (at_builtin; go_loud (refine wpList_append_own _ rfl _ _ 59 rfl w.heap.size 99 i0 _ 5 40 Try.underlying59 hi hz0 hz1 hz2 rfl (by decide) u5 _ _ rfl (World.ownsRow.alloc (ownBel (World.ownsRow.alloc (unhide HO) _) hb) _) ⟨wf.heap.size, 0, none⟩ 1 1 [.int .i64 x.kd, .int .i64 x.tm, .int .i64 x.ke, .int .i64 x.va, .int .i64 x.nn] rfl rfl (cells_newIw wf x.kd x.tm x.ke x.va x.nn _) (by simp [Value.oneCell']) (by unfold maxLen; omega) (by omega) (by have h9 := hb.size; have h8 := hbw.size; simp at h9 ⊢; omega) ?_); intro v' w1 hown' hgrow _))
        go_roundw
        case rel => exact ⟨j + 1, by omega, by go_num, skipIw (unhide hX) (unhide HB) (ownBel (World.ownsRow.alloc (unhide HO) _) hb), bel_trans (bel_alloc hbw _) hb⟩
        case measure => simp [intOf]; omega
      · have HB : Hid (x.isB = true) := hide hB
        go_wp2_with (first
          | (go_at_call 94; refine (isrec_any _ _ _ _ _ _).mono ?_; rintro e wf ⟨rfl, hb⟩; obtain ⟨hc, hf, hsz⟩ := bcell hb; have hzf : wr.heap.size < wf.heap.size := (by have h9 := hb.size; simp at h9; omega))
          | (at_builtin; go_loud (refine wpList_append_own _ rfl _ _ 59 rfl w.heap.size 99 i0 _ 5 40 Try.underlying59 hi hz0 hz1 hz2 rfl (by decide) u5 _ _ rfl (World.ownsRow.alloc (ownBel (World.ownsRow.alloc (unhide HO) _) hb) _) ⟨wf.heap.size, 0, none⟩ 1 1 [.int .i64 x.kd, .int .i64 x.tm, .int .i64 x.ke, .int .i64 x.va, .int .i64 x.nn] rfl rfl (cells_newIw wf x.kd x.tm x.ke x.va x.nn _) (by simp [Value.oneCell']) (by unfold maxLen; omega) (by omega) (by have h9 := hb.size; have h8 := hbw.size; simp at h9 ⊢; omega) ?_); intro v' w1 hown' hgrow _))
        have hb1 : Below w.heap.size w w1 := ((bel_trans (bel_alloc hbw _) hb).alloc (by have h9 := hb.size; simp at h9; omega) _).grown hgrow (by have h9 := hb.size; simp at h9 ⊢; omega) (unhide hge)
        go_roundw
        case rel => exact ⟨j + 1, by omega, by go_num, keepIw (unhide hX) (unhide HB) hown', hb1⟩
        case measure => simp [intOf]; omega
    · have HQ : Hid ((xs.take j).filter IwR.isB = xs.filter IwR.isB) := hide (by rw [List.take_of_length_le (by have := h.1; omega)])
      go_wp2
      go_ret
      refine ⟨_, rfl, ?_, hbw⟩
      rw [← unhide HQ]
      exact unhide HO

theorem recsB_eq {xs : List IwR} (h : xs.length ≤ 120) : recsB xs = decide ((xs.filter IwR.isB).length = xs.length) := by
  unfold recsB
  rw [decide_eq_true h, Bool.true_and, Bool.eq_iff_iff, decide_eq_true_eq, List.all_eq_true]
  constructor
  · intro ha
    rw [List.filter_eq_self.2 ha]
  · intro he
    have := List.filter_sublist.eq_of_length he
    exact List.filter_eq_self.1 this
theorem recsok_any (a : Option Addr) (len cap : Nat) (xs : List IwR) (w : World) (h : IwRs w a len xs) : Calls Try.prog 84 #[.slice a len cap] w fun e w' => e = .returned (.bool (recsB xs)) ∧ Below w.heap.size w w' := by
  have hm := h.2.1
  have hle := h.1
  unfold maxLen at hm
  by_cases h120 : (len : Int) ≤ 120
  · have HV := hide (recsB_eq (xs := xs) (by omega))
    go_enter Try.func84, Try.ntmps84
    go_wp2_with fail
    refine (onlyIw_any a len cap xs _ h (by omega)).mono ?_
    rintro e wf ⟨vf, rfl, hO, hb⟩
    have hfl := List.length_filter_le IwR.isB xs
    obtain ⟨af, capf, rfl, _, _, _⟩ := holdIw hO (by omega)
    by_cases he : (xs.filter IwR.isB).length = xs.length
    · have HQ := hide ((unhide HV).trans (decide_eq_true he))
      have he' : (((xs.filter IwR.isB).length : Nat) : Int) = (len : Int) := by omega
      go_wp2_with fail
      go_ret
      exact ⟨ret_b (unhide HQ).symm, (by repeat (first | (with_reducible exact Below.refl _ _) | (with_reducible assumption) | (with_reducible refine bel_set ?_ (by first | (simp; done) | (simp; omega)) _) | (with_reducible refine bel_alloc ?_ _) | (with_reducible refine bel_drew ?_) | (with_reducible refine bel_drewN ?_ _) | (with_reducible refine bel_trans ?_ (by with_reducible assumption))))⟩
    · have HQ := hide ((unhide HV).trans (decide_eq_false he))
      have he' : ((((xs.filter IwR.isB).length : Nat) : Int) == (len : Int)) = false := by simp; omega
      go_wp2_with fail
      go_ret
      exact ⟨ret_b (unhide HQ).symm, (by repeat (first | (with_reducible exact Below.refl _ _) | (with_reducible assumption) | (with_reducible refine bel_set ?_ (by first | (simp; done) | (simp; omega)) _) | (with_reducible refine bel_alloc ?_ _) | (with_reducible refine bel_drew ?_) | (with_reducible refine bel_drewN ?_ _) | (with_reducible refine bel_trans ?_ (by with_reducible assumption))))⟩
  · have HV := hide (recsB_len (xs := xs) (by omega))
    go_enter Try.func84, Try.ntmps84
    go_wp2_with fail
    go_ret
    exact ⟨ret_b (unhide HV).symm, (by repeat (first | (with_reducible exact Below.refl _ _) | (with_reducible assumption) | (with_reducible refine bel_set ?_ (by first | (simp; done) | (simp; omega)) _) | (with_reducible refine bel_alloc ?_ _) | (with_reducible refine bel_drew ?_) | (with_reducible refine bel_drewN ?_ _) | (with_reducible refine bel_trans ?_ (by with_reducible assumption))))⟩

set_option maxRecDepth 20000 in
set_option maxHeartbeats 1000000 in
theorem specpairs_any (s t k z p l e : Int) (b : Bool) (v r : Int) (a : Option Addr) (len cap : Nat) (xs : List IwR) (w : World) (h : IwRs w a len xs) : Calls Try.prog 25 #[.agg #[.int .i64 s, .int .i64 t, .int .i64 k, .int .i64 z, .int .i64 p, .int .i64 l, .int .i64 e, .bool b, .int .i64 v, .int .i64 r], .slice a len cap] w fun e' w' => ∃ v', e' = .returned v' ∧ OwnLp w' w.heap.size v' (pairsT s t k z p l e v r xs) ∧ Below w.heap.size w w' := by
  cases hj : okJob s t k z p l e v r
  · have HQ : Hid (pairsT s t k z p l e v r xs = []) := hide (by unfold pairsT; rw [if_neg (by simp [hj])])
    go_enter Try.func25, Try.ntmps25
    go_wp2_with fail
    refine (specjobok_any _ _ _ _ _ _ _ _ _ _ _).mono ?_
    rintro e' wa ⟨rfl, hba⟩
    go_wp2_with fail
    go_ret
    refine ⟨_, rfl, ?_, (by repeat (first | (with_reducible exact Below.refl _ _) | (with_reducible assumption) | (with_reducible refine bel_set ?_ (by first | (simp; done) | (simp; omega)) _) | (with_reducible refine bel_alloc ?_ _) | (with_reducible refine bel_drew ?_) | (with_reducible refine bel_drewN ?_ _) | (with_reducible refine bel_trans ?_ (by with_reducible assumption))))⟩
    rw [unhide HQ]
    exact World.ownsRow.mono (ownBel (ownLit (W := w.alloc (.cells #[.int .i64 s, .int .i64 t, .int .i64 k, .int .i64 z, .int .i64 p, .int .i64 l, .int .i64 e, .bool b, .int .i64 v, .int .i64 r] 57)) (B := w.heap.size + 1) (g := w.heap.size + 1) _ _ (by simp) (by simp)) hba) (by omega)
  cases hr : recsB xs
  · have HQ : Hid (pairsT s t k z p l e v r xs = []) := hide (by unfold pairsT; rw [if_neg (by simp [hr])])
    go_enter Try.func25, Try.ntmps25
    go_wp2_with fail
    refine (specjobok_any _ _ _ _ _ _ _ _ _ _ _).mono ?_
    rintro e' wa ⟨rfl, hba⟩
    go_wp2_with fail
    refine (l6recs_any a len cap xs _ (h.below (bel_trans (bel_alloc (bel_one _ _) _) hba))).mono ?_
    rintro e' wq ⟨rfl, hbq⟩
    go_wp2_with fail
    go_ret
    refine ⟨_, rfl, ?_, (by repeat (first | (with_reducible exact Below.refl _ _) | (with_reducible assumption) | (with_reducible refine bel_set ?_ (by first | (simp; done) | (simp; omega)) _) | (with_reducible refine bel_alloc ?_ _) | (with_reducible refine bel_drew ?_) | (with_reducible refine bel_drewN ?_ _) | (with_reducible refine bel_trans ?_ (by with_reducible assumption))))⟩
    rw [unhide HQ]
    exact World.ownsRow.mono (ownBel (ownLit (W := w.alloc (.cells #[.int .i64 s, .int .i64 t, .int .i64 k, .int .i64 z, .int .i64 p, .int .i64 l, .int .i64 e, .bool b, .int .i64 v, .int .i64 r] 57)) (B := w.heap.size + 1) (g := w.heap.size + 1) _ _ (by simp) (by simp)) (bel_trans hba hbq)) (by omega)
  · have HQ : pairsT s t k z p l e v r xs = prsT k z p xs := by unfold pairsT; rw [if_pos (by simp [hj, hr])]
    rw [HQ]
    exact specpairs_yes s t k z p l e b v r a len cap xs w h hj hr

end Go.Proofs.Ytdpifgdignhebaa
