/- Proved here: when a row may be open behind a mark, in the program and in the specification. -/
import Derived.Test.YtflignpbboiahaaOpPl
import Derived.Test.YtflignpbboiahaaPan
import Derived.Test.YtflignpbboiahaaJob
namespace Go.Proofs.Ytflignpbboiahaa
open Go.ChangeShapes Go.WideShapes Go.ChangeAt Go.RowKit
set_option linter.unusedVariables false

/-- When a row may be open behind a mark. -/
def okRow (l mark : Int) (ky st en an asu ale amo fn fsu fle fmo td : Int) (tm : Bool) : Bool := inB ky 0 3 && okWin st en && okAgg an asu ale amo && okAgg fn fsu fle fmo && inB td 0 1500 && !(an == 0) && decide (fn ≤ an) && decide (mark < en + l) && (tm == decide (en ≤ mark)) && (decide (0 < td) == decide (en ≤ mark)) && ((fn == 0) == decide (en ≤ mark))
theorem okWin_en {st en : Int} (h : okWin st en = true) : 0 ≤ st ∧ st < en ∧ en ≤ 120 := by
  simp only [okWin, Bool.and_eq_true] at h
  have h1 := inB_iff.1 h.1
  have h2 := inB_iff.1 h.2
  omega

set_option maxRecDepth 20000 in
set_option maxHeartbeats 4000000 in
theorem l7row_any (s t k z p l e : Int) (b : Bool) (v r : Int) (ky st en an asu ale amo fn fsu fle fmo td : Int) (tm : Bool) (mark : Int) (hl : 0 ≤ l ∧ l ≤ 20) (w : World) : Calls Try.prog 31 #[.agg #[.int .i64 s, .int .i64 t, .int .i64 k, .int .i64 z, .int .i64 p, .int .i64 l, .int .i64 e, .bool b, .int .i64 v, .int .i64 r], .agg #[.int .i64 ky, .int .i64 st, .int .i64 en, .int .i64 an, .int .i64 asu, .int .i64 ale, .int .i64 amo, .int .i64 fn, .int .i64 fsu, .int .i64 fle, .int .i64 fmo, .int .i64 td, .bool tm], .int .i64 mark] w fun e' w' => e' = .returned (.bool (okRow l mark ky st en an asu ale amo fn fsu fle fmo td tm)) ∧ Below w.heap.size w w' := by
  cases c0 : inB ky 0 3
  · have hq : Hid (okRow l mark ky st en an asu ale amo fn fsu fle fmo td tm = false) := hide (by simp [okRow, c0])
    go_enter Try.func31, Try.ntmps31
    go_wp2_with (first
      | (go_at_call 17; refine (l1In_any _ _ _ _).mono ?_; rintro e' w' ⟨rfl, rfl⟩)
      | (go_at_call 46; refine (specwinok_any _ _ _).mono ?_; rintro e w' ⟨rfl, hb⟩; obtain ⟨hc, hf, hs⟩ := bcell hb; (try have hz0 : w.heap.size < w'.heap.size := (by have h9 := hb.size; (try simp at h9); omega)); (try have hz1 : w.heap.size + 1 < w'.heap.size := (by have h9 := hb.size; (try simp at h9); omega)))
      | (go_at_call 47; refine (specaggok_any _ _ _ _ _).mono ?_; rintro e w' ⟨rfl, hb⟩; obtain ⟨hc, hf, hs⟩ := bcell hb; (try have hz0 : w.heap.size < w'.heap.size := (by have h9 := hb.size; (try simp at h9); omega)); (try have hz1 : w.heap.size + 1 < w'.heap.size := (by have h9 := hb.size; (try simp at h9); omega))))
    go_ret
    exact ⟨ret_b (unhide hq).symm, (by repeat (first | (with_reducible refine bel_set ?_ (by first | (simp; done) | (simp; omega)) _) | (with_reducible refine bel_alloc ?_ _) | (with_reducible exact Below.refl _ _) | (with_reducible assumption) | (with_reducible refine bel_drew ?_) | (with_reducible refine bel_drewN ?_ _) | (with_reducible refine bel_trans ?_ (by with_reducible assumption))))⟩
  cases c1 : okWin st en
  · have hq : Hid (okRow l mark ky st en an asu ale amo fn fsu fle fmo td tm = false) := hide (by simp [okRow, c0, c1])
    go_enter Try.func31, Try.ntmps31
    go_wp2_with (first
      | (go_at_call 17; refine (l1In_any _ _ _ _).mono ?_; rintro e' w' ⟨rfl, rfl⟩)
      | (go_at_call 46; refine (specwinok_any _ _ _).mono ?_; rintro e w' ⟨rfl, hb⟩; obtain ⟨hc, hf, hs⟩ := bcell hb; (try have hz0 : w.heap.size < w'.heap.size := (by have h9 := hb.size; (try simp at h9); omega)); (try have hz1 : w.heap.size + 1 < w'.heap.size := (by have h9 := hb.size; (try simp at h9); omega)))
      | (go_at_call 47; refine (specaggok_any _ _ _ _ _).mono ?_; rintro e w' ⟨rfl, hb⟩; obtain ⟨hc, hf, hs⟩ := bcell hb; (try have hz0 : w.heap.size < w'.heap.size := (by have h9 := hb.size; (try simp at h9); omega)); (try have hz1 : w.heap.size + 1 < w'.heap.size := (by have h9 := hb.size; (try simp at h9); omega))))
    go_ret
    exact ⟨ret_b (unhide hq).symm, (by repeat (first | (with_reducible refine bel_set ?_ (by first | (simp; done) | (simp; omega)) _) | (with_reducible refine bel_alloc ?_ _) | (with_reducible exact Below.refl _ _) | (with_reducible assumption) | (with_reducible refine bel_drew ?_) | (with_reducible refine bel_drewN ?_ _) | (with_reducible refine bel_trans ?_ (by with_reducible assumption))))⟩
  have hen := okWin_en c1
  cases c2 : okAgg an asu ale amo
  · have hq : Hid (okRow l mark ky st en an asu ale amo fn fsu fle fmo td tm = false) := hide (by simp [okRow, c0, c1, c2])
    go_enter Try.func31, Try.ntmps31
    go_wp2_with (first
      | (go_at_call 17; refine (l1In_any _ _ _ _).mono ?_; rintro e' w' ⟨rfl, rfl⟩)
      | (go_at_call 46; refine (specwinok_any _ _ _).mono ?_; rintro e w' ⟨rfl, hb⟩; obtain ⟨hc, hf, hs⟩ := bcell hb; (try have hz0 : w.heap.size < w'.heap.size := (by have h9 := hb.size; (try simp at h9); omega)); (try have hz1 : w.heap.size + 1 < w'.heap.size := (by have h9 := hb.size; (try simp at h9); omega)))
      | (go_at_call 47; refine (specaggok_any _ _ _ _ _).mono ?_; rintro e w' ⟨rfl, hb⟩; obtain ⟨hc, hf, hs⟩ := bcell hb; (try have hz0 : w.heap.size < w'.heap.size := (by have h9 := hb.size; (try simp at h9); omega)); (try have hz1 : w.heap.size + 1 < w'.heap.size := (by have h9 := hb.size; (try simp at h9); omega))))
    go_ret
    exact ⟨ret_b (unhide hq).symm, (by repeat (first | (with_reducible refine bel_set ?_ (by first | (simp; done) | (simp; omega)) _) | (with_reducible refine bel_alloc ?_ _) | (with_reducible exact Below.refl _ _) | (with_reducible assumption) | (with_reducible refine bel_drew ?_) | (with_reducible refine bel_drewN ?_ _) | (with_reducible refine bel_trans ?_ (by with_reducible assumption))))⟩
  cases c3 : (an == 0)
  · cases c4 : okAgg fn fsu fle fmo
    · have hq : Hid (okRow l mark ky st en an asu ale amo fn fsu fle fmo td tm = false) := hide (by simp [okRow, c0, c1, c2, c3, c4])
      go_enter Try.func31, Try.ntmps31
      go_wp2_with (first
        | (go_at_call 17; refine (l1In_any _ _ _ _).mono ?_; rintro e' w' ⟨rfl, rfl⟩)
        | (go_at_call 46; refine (specwinok_any _ _ _).mono ?_; rintro e w' ⟨rfl, hb⟩; obtain ⟨hc, hf, hs⟩ := bcell hb; (try have hz0 : w.heap.size < w'.heap.size := (by have h9 := hb.size; (try simp at h9); omega)); (try have hz1 : w.heap.size + 1 < w'.heap.size := (by have h9 := hb.size; (try simp at h9); omega)))
        | (go_at_call 47; refine (specaggok_any _ _ _ _ _).mono ?_; rintro e w' ⟨rfl, hb⟩; obtain ⟨hc, hf, hs⟩ := bcell hb; (try have hz0 : w.heap.size < w'.heap.size := (by have h9 := hb.size; (try simp at h9); omega)); (try have hz1 : w.heap.size + 1 < w'.heap.size := (by have h9 := hb.size; (try simp at h9); omega))))
      go_ret
      exact ⟨ret_b (unhide hq).symm, (by repeat (first | (with_reducible refine bel_set ?_ (by first | (simp; done) | (simp; omega)) _) | (with_reducible refine bel_alloc ?_ _) | (with_reducible exact Below.refl _ _) | (with_reducible assumption) | (with_reducible refine bel_drew ?_) | (with_reducible refine bel_drewN ?_ _) | (with_reducible refine bel_trans ?_ (by with_reducible assumption))))⟩
    by_cases c5 : fn ≤ an
    · cases c6 : inB td 0 1500
      · have hq : Hid (okRow l mark ky st en an asu ale amo fn fsu fle fmo td tm = false) := hide (by simp [okRow, c0, c1, c2, c3, c4, c5, c6])
        go_enter Try.func31, Try.ntmps31
        go_wp2_with (first
          | (go_at_call 17; refine (l1In_any _ _ _ _).mono ?_; rintro e' w' ⟨rfl, rfl⟩)
          | (go_at_call 46; refine (specwinok_any _ _ _).mono ?_; rintro e w' ⟨rfl, hb⟩; obtain ⟨hc, hf, hs⟩ := bcell hb; (try have hz0 : w.heap.size < w'.heap.size := (by have h9 := hb.size; (try simp at h9); omega)); (try have hz1 : w.heap.size + 1 < w'.heap.size := (by have h9 := hb.size; (try simp at h9); omega)))
          | (go_at_call 47; refine (specaggok_any _ _ _ _ _).mono ?_; rintro e w' ⟨rfl, hb⟩; obtain ⟨hc, hf, hs⟩ := bcell hb; (try have hz0 : w.heap.size < w'.heap.size := (by have h9 := hb.size; (try simp at h9); omega)); (try have hz1 : w.heap.size + 1 < w'.heap.size := (by have h9 := hb.size; (try simp at h9); omega))))
        go_ret
        exact ⟨ret_b (unhide hq).symm, (by repeat (first | (with_reducible refine bel_set ?_ (by first | (simp; done) | (simp; omega)) _) | (with_reducible refine bel_alloc ?_ _) | (with_reducible exact Below.refl _ _) | (with_reducible assumption) | (with_reducible refine bel_drew ?_) | (with_reducible refine bel_drewN ?_ _) | (with_reducible refine bel_trans ?_ (by with_reducible assumption))))⟩
      by_cases ov : en ≤ mark
      · cases tm
        · have hq : Hid (okRow l mark ky st en an asu ale amo fn fsu fle fmo td false = false) := hide (by simp [okRow, c0, c1, c2, c3, c4, c5, c6, ov])
          go_enter Try.func31, Try.ntmps31
          go_wp2_with (first
            | (go_at_call 17; refine (l1In_any _ _ _ _).mono ?_; rintro e' w' ⟨rfl, rfl⟩)
            | (go_at_call 46; refine (specwinok_any _ _ _).mono ?_; rintro e w' ⟨rfl, hb⟩; obtain ⟨hc, hf, hs⟩ := bcell hb; (try have hz0 : w.heap.size < w'.heap.size := (by have h9 := hb.size; (try simp at h9); omega)); (try have hz1 : w.heap.size + 1 < w'.heap.size := (by have h9 := hb.size; (try simp at h9); omega)))
            | (go_at_call 47; refine (specaggok_any _ _ _ _ _).mono ?_; rintro e w' ⟨rfl, hb⟩; obtain ⟨hc, hf, hs⟩ := bcell hb; (try have hz0 : w.heap.size < w'.heap.size := (by have h9 := hb.size; (try simp at h9); omega)); (try have hz1 : w.heap.size + 1 < w'.heap.size := (by have h9 := hb.size; (try simp at h9); omega))))
          go_ret
          exact ⟨ret_b (unhide hq).symm, (by repeat (first | (with_reducible refine bel_set ?_ (by first | (simp; done) | (simp; omega)) _) | (with_reducible refine bel_alloc ?_ _) | (with_reducible exact Below.refl _ _) | (with_reducible assumption) | (with_reducible refine bel_drew ?_) | (with_reducible refine bel_drewN ?_ _) | (with_reducible refine bel_trans ?_ (by with_reducible assumption))))⟩
        · by_cases c7 : mark < en + l
          · by_cases tp : 0 < td
            · cases fz : (fn == 0)
              · have hq : Hid (okRow l mark ky st en an asu ale amo fn fsu fle fmo td true = false) := hide (by simp [okRow, c0, c1, c2, c3, c4, c5, c6, c7, ov, tp, fz])
                go_enter Try.func31, Try.ntmps31
                go_wp2_with (first
                  | (go_at_call 17; refine (l1In_any _ _ _ _).mono ?_; rintro e' w' ⟨rfl, rfl⟩)
                  | (go_at_call 46; refine (specwinok_any _ _ _).mono ?_; rintro e w' ⟨rfl, hb⟩; obtain ⟨hc, hf, hs⟩ := bcell hb; (try have hz0 : w.heap.size < w'.heap.size := (by have h9 := hb.size; (try simp at h9); omega)); (try have hz1 : w.heap.size + 1 < w'.heap.size := (by have h9 := hb.size; (try simp at h9); omega)))
                  | (go_at_call 47; refine (specaggok_any _ _ _ _ _).mono ?_; rintro e w' ⟨rfl, hb⟩; obtain ⟨hc, hf, hs⟩ := bcell hb; (try have hz0 : w.heap.size < w'.heap.size := (by have h9 := hb.size; (try simp at h9); omega)); (try have hz1 : w.heap.size + 1 < w'.heap.size := (by have h9 := hb.size; (try simp at h9); omega))))
                go_ret
                exact ⟨ret_b (unhide hq).symm, (by repeat (first | (with_reducible refine bel_set ?_ (by first | (simp; done) | (simp; omega)) _) | (with_reducible refine bel_alloc ?_ _) | (with_reducible exact Below.refl _ _) | (with_reducible assumption) | (with_reducible refine bel_drew ?_) | (with_reducible refine bel_drewN ?_ _) | (with_reducible refine bel_trans ?_ (by with_reducible assumption))))⟩
              · have hq : Hid (okRow l mark ky st en an asu ale amo fn fsu fle fmo td true = true) := hide (by simp [okRow, c0, c1, c2, c3, c4, c5, c6, c7, ov, tp, fz])
                go_enter Try.func31, Try.ntmps31
                go_wp2_with (first
                  | (go_at_call 17; refine (l1In_any _ _ _ _).mono ?_; rintro e' w' ⟨rfl, rfl⟩)
                  | (go_at_call 46; refine (specwinok_any _ _ _).mono ?_; rintro e w' ⟨rfl, hb⟩; obtain ⟨hc, hf, hs⟩ := bcell hb; (try have hz0 : w.heap.size < w'.heap.size := (by have h9 := hb.size; (try simp at h9); omega)); (try have hz1 : w.heap.size + 1 < w'.heap.size := (by have h9 := hb.size; (try simp at h9); omega)))
                  | (go_at_call 47; refine (specaggok_any _ _ _ _ _).mono ?_; rintro e w' ⟨rfl, hb⟩; obtain ⟨hc, hf, hs⟩ := bcell hb; (try have hz0 : w.heap.size < w'.heap.size := (by have h9 := hb.size; (try simp at h9); omega)); (try have hz1 : w.heap.size + 1 < w'.heap.size := (by have h9 := hb.size; (try simp at h9); omega))))
                go_ret
                exact ⟨ret_b (by first | exact (unhide hq).symm | (rw [unhide hq]; simp [ov, tp])), (by repeat (first | (with_reducible refine bel_set ?_ (by first | (simp; done) | (simp; omega)) _) | (with_reducible refine bel_alloc ?_ _) | (with_reducible exact Below.refl _ _) | (with_reducible assumption) | (with_reducible refine bel_drew ?_) | (with_reducible refine bel_drewN ?_ _) | (with_reducible refine bel_trans ?_ (by with_reducible assumption))))⟩
            · have hq : Hid (okRow l mark ky st en an asu ale amo fn fsu fle fmo td true = false) := hide (by simp [okRow, c0, c1, c2, c3, c4, c5, c6, c7, ov, tp])
              go_enter Try.func31, Try.ntmps31
              go_wp2_with (first
                | (go_at_call 17; refine (l1In_any _ _ _ _).mono ?_; rintro e' w' ⟨rfl, rfl⟩)
                | (go_at_call 46; refine (specwinok_any _ _ _).mono ?_; rintro e w' ⟨rfl, hb⟩; obtain ⟨hc, hf, hs⟩ := bcell hb; (try have hz0 : w.heap.size < w'.heap.size := (by have h9 := hb.size; (try simp at h9); omega)); (try have hz1 : w.heap.size + 1 < w'.heap.size := (by have h9 := hb.size; (try simp at h9); omega)))
                | (go_at_call 47; refine (specaggok_any _ _ _ _ _).mono ?_; rintro e w' ⟨rfl, hb⟩; obtain ⟨hc, hf, hs⟩ := bcell hb; (try have hz0 : w.heap.size < w'.heap.size := (by have h9 := hb.size; (try simp at h9); omega)); (try have hz1 : w.heap.size + 1 < w'.heap.size := (by have h9 := hb.size; (try simp at h9); omega))))
              go_ret
              exact ⟨ret_b (unhide hq).symm, (by repeat (first | (with_reducible refine bel_set ?_ (by first | (simp; done) | (simp; omega)) _) | (with_reducible refine bel_alloc ?_ _) | (with_reducible exact Below.refl _ _) | (with_reducible assumption) | (with_reducible refine bel_drew ?_) | (with_reducible refine bel_drewN ?_ _) | (with_reducible refine bel_trans ?_ (by with_reducible assumption))))⟩
          · have hq : Hid (okRow l mark ky st en an asu ale amo fn fsu fle fmo td true = false) := hide (by simp [okRow, c0, c1, c2, c3, c4, c5, c6, ov, c7])
            go_enter Try.func31, Try.ntmps31
            go_wp2_with (first
              | (go_at_call 17; refine (l1In_any _ _ _ _).mono ?_; rintro e' w' ⟨rfl, rfl⟩)
              | (go_at_call 46; refine (specwinok_any _ _ _).mono ?_; rintro e w' ⟨rfl, hb⟩; obtain ⟨hc, hf, hs⟩ := bcell hb; (try have hz0 : w.heap.size < w'.heap.size := (by have h9 := hb.size; (try simp at h9); omega)); (try have hz1 : w.heap.size + 1 < w'.heap.size := (by have h9 := hb.size; (try simp at h9); omega)))
              | (go_at_call 47; refine (specaggok_any _ _ _ _ _).mono ?_; rintro e w' ⟨rfl, hb⟩; obtain ⟨hc, hf, hs⟩ := bcell hb; (try have hz0 : w.heap.size < w'.heap.size := (by have h9 := hb.size; (try simp at h9); omega)); (try have hz1 : w.heap.size + 1 < w'.heap.size := (by have h9 := hb.size; (try simp at h9); omega))))
            go_ret
            exact ⟨ret_b (unhide hq).symm, (by repeat (first | (with_reducible refine bel_set ?_ (by first | (simp; done) | (simp; omega)) _) | (with_reducible refine bel_alloc ?_ _) | (with_reducible exact Below.refl _ _) | (with_reducible assumption) | (with_reducible refine bel_drew ?_) | (with_reducible refine bel_drewN ?_ _) | (with_reducible refine bel_trans ?_ (by with_reducible assumption))))⟩
      · cases tm
        · by_cases c7 : mark < en + l
          · by_cases tp : 0 < td
            · have hq : Hid (okRow l mark ky st en an asu ale amo fn fsu fle fmo td false = false) := hide (by simp [okRow, c0, c1, c2, c3, c4, c5, c6, c7, ov, tp])
              go_enter Try.func31, Try.ntmps31
              go_wp2_with (first
                | (go_at_call 17; refine (l1In_any _ _ _ _).mono ?_; rintro e' w' ⟨rfl, rfl⟩)
                | (go_at_call 46; refine (specwinok_any _ _ _).mono ?_; rintro e w' ⟨rfl, hb⟩; obtain ⟨hc, hf, hs⟩ := bcell hb; (try have hz0 : w.heap.size < w'.heap.size := (by have h9 := hb.size; (try simp at h9); omega)); (try have hz1 : w.heap.size + 1 < w'.heap.size := (by have h9 := hb.size; (try simp at h9); omega)))
                | (go_at_call 47; refine (specaggok_any _ _ _ _ _).mono ?_; rintro e w' ⟨rfl, hb⟩; obtain ⟨hc, hf, hs⟩ := bcell hb; (try have hz0 : w.heap.size < w'.heap.size := (by have h9 := hb.size; (try simp at h9); omega)); (try have hz1 : w.heap.size + 1 < w'.heap.size := (by have h9 := hb.size; (try simp at h9); omega))))
              go_ret
              exact ⟨ret_b (unhide hq).symm, (by repeat (first | (with_reducible refine bel_set ?_ (by first | (simp; done) | (simp; omega)) _) | (with_reducible refine bel_alloc ?_ _) | (with_reducible exact Below.refl _ _) | (with_reducible assumption) | (with_reducible refine bel_drew ?_) | (with_reducible refine bel_drewN ?_ _) | (with_reducible refine bel_trans ?_ (by with_reducible assumption))))⟩
            · cases fz : (fn == 0)
              · have hq : Hid (okRow l mark ky st en an asu ale amo fn fsu fle fmo td false = true) := hide (by simp [okRow, c0, c1, c2, c3, c4, c5, c6, c7, ov, tp, fz])
                go_enter Try.func31, Try.ntmps31
                go_wp2_with (first
                  | (go_at_call 17; refine (l1In_any _ _ _ _).mono ?_; rintro e' w' ⟨rfl, rfl⟩)
                  | (go_at_call 46; refine (specwinok_any _ _ _).mono ?_; rintro e w' ⟨rfl, hb⟩; obtain ⟨hc, hf, hs⟩ := bcell hb; (try have hz0 : w.heap.size < w'.heap.size := (by have h9 := hb.size; (try simp at h9); omega)); (try have hz1 : w.heap.size + 1 < w'.heap.size := (by have h9 := hb.size; (try simp at h9); omega)))
                  | (go_at_call 47; refine (specaggok_any _ _ _ _ _).mono ?_; rintro e w' ⟨rfl, hb⟩; obtain ⟨hc, hf, hs⟩ := bcell hb; (try have hz0 : w.heap.size < w'.heap.size := (by have h9 := hb.size; (try simp at h9); omega)); (try have hz1 : w.heap.size + 1 < w'.heap.size := (by have h9 := hb.size; (try simp at h9); omega))))
                go_ret
                exact ⟨ret_b (by first | exact (unhide hq).symm | (rw [unhide hq]; simp [ov, tp])), (by repeat (first | (with_reducible refine bel_set ?_ (by first | (simp; done) | (simp; omega)) _) | (with_reducible refine bel_alloc ?_ _) | (with_reducible exact Below.refl _ _) | (with_reducible assumption) | (with_reducible refine bel_drew ?_) | (with_reducible refine bel_drewN ?_ _) | (with_reducible refine bel_trans ?_ (by with_reducible assumption))))⟩
              · have hq : Hid (okRow l mark ky st en an asu ale amo fn fsu fle fmo td false = false) := hide (by simp [okRow, c0, c1, c2, c3, c4, c5, c6, c7, ov, tp, fz])
                go_enter Try.func31, Try.ntmps31
                go_wp2_with (first
                  | (go_at_call 17; refine (l1In_any _ _ _ _).mono ?_; rintro e' w' ⟨rfl, rfl⟩)
                  | (go_at_call 46; refine (specwinok_any _ _ _).mono ?_; rintro e w' ⟨rfl, hb⟩; obtain ⟨hc, hf, hs⟩ := bcell hb; (try have hz0 : w.heap.size < w'.heap.size := (by have h9 := hb.size; (try simp at h9); omega)); (try have hz1 : w.heap.size + 1 < w'.heap.size := (by have h9 := hb.size; (try simp at h9); omega)))
                  | (go_at_call 47; refine (specaggok_any _ _ _ _ _).mono ?_; rintro e w' ⟨rfl, hb⟩; obtain ⟨hc, hf, hs⟩ := bcell hb; (try have hz0 : w.heap.size < w'.heap.size := (by have h9 := hb.size; (try simp at h9); omega)); (try have hz1 : w.heap.size + 1 < w'.heap.size := (by have h9 := hb.size; (try simp at h9); omega))))
                go_ret
                exact ⟨ret_b (unhide hq).symm, (by repeat (first | (with_reducible refine bel_set ?_ (by first | (simp; done) | (simp; omega)) _) | (with_reducible refine bel_alloc ?_ _) | (with_reducible exact Below.refl _ _) | (with_reducible assumption) | (with_reducible refine bel_drew ?_) | (with_reducible refine bel_drewN ?_ _) | (with_reducible refine bel_trans ?_ (by with_reducible assumption))))⟩
          · exfalso; omega
        · have hq : Hid (okRow l mark ky st en an asu ale amo fn fsu fle fmo td true = false) := hide (by simp [okRow, c0, c1, c2, c3, c4, c5, c6, ov])
          go_enter Try.func31, Try.ntmps31
          go_wp2_with (first
            | (go_at_call 17; refine (l1In_any _ _ _ _).mono ?_; rintro e' w' ⟨rfl, rfl⟩)
            | (go_at_call 46; refine (specwinok_any _ _ _).mono ?_; rintro e w' ⟨rfl, hb⟩; obtain ⟨hc, hf, hs⟩ := bcell hb; (try have hz0 : w.heap.size < w'.heap.size := (by have h9 := hb.size; (try simp at h9); omega)); (try have hz1 : w.heap.size + 1 < w'.heap.size := (by have h9 := hb.size; (try simp at h9); omega)))
            | (go_at_call 47; refine (specaggok_any _ _ _ _ _).mono ?_; rintro e w' ⟨rfl, hb⟩; obtain ⟨hc, hf, hs⟩ := bcell hb; (try have hz0 : w.heap.size < w'.heap.size := (by have h9 := hb.size; (try simp at h9); omega)); (try have hz1 : w.heap.size + 1 < w'.heap.size := (by have h9 := hb.size; (try simp at h9); omega))))
          go_ret
          exact ⟨ret_b (unhide hq).symm, (by repeat (first | (with_reducible refine bel_set ?_ (by first | (simp; done) | (simp; omega)) _) | (with_reducible refine bel_alloc ?_ _) | (with_reducible exact Below.refl _ _) | (with_reducible assumption) | (with_reducible refine bel_drew ?_) | (with_reducible refine bel_drewN ?_ _) | (with_reducible refine bel_trans ?_ (by with_reducible assumption))))⟩
    · have hq : Hid (okRow l mark ky st en an asu ale amo fn fsu fle fmo td tm = false) := hide (by simp [okRow, c0, c1, c2, c3, c4, c5])
      go_enter Try.func31, Try.ntmps31
      go_wp2_with (first
        | (go_at_call 17; refine (l1In_any _ _ _ _).mono ?_; rintro e' w' ⟨rfl, rfl⟩)
        | (go_at_call 46; refine (specwinok_any _ _ _).mono ?_; rintro e w' ⟨rfl, hb⟩; obtain ⟨hc, hf, hs⟩ := bcell hb; (try have hz0 : w.heap.size < w'.heap.size := (by have h9 := hb.size; (try simp at h9); omega)); (try have hz1 : w.heap.size + 1 < w'.heap.size := (by have h9 := hb.size; (try simp at h9); omega)))
        | (go_at_call 47; refine (specaggok_any _ _ _ _ _).mono ?_; rintro e w' ⟨rfl, hb⟩; obtain ⟨hc, hf, hs⟩ := bcell hb; (try have hz0 : w.heap.size < w'.heap.size := (by have h9 := hb.size; (try simp at h9); omega)); (try have hz1 : w.heap.size + 1 < w'.heap.size := (by have h9 := hb.size; (try simp at h9); omega))))
      go_ret
      exact ⟨ret_b (unhide hq).symm, (by repeat (first | (with_reducible refine bel_set ?_ (by first | (simp; done) | (simp; omega)) _) | (with_reducible refine bel_alloc ?_ _) | (with_reducible exact Below.refl _ _) | (with_reducible assumption) | (with_reducible refine bel_drew ?_) | (with_reducible refine bel_drewN ?_ _) | (with_reducible refine bel_trans ?_ (by with_reducible assumption))))⟩
  · have hq : Hid (okRow l mark ky st en an asu ale amo fn fsu fle fmo td tm = false) := hide (by simp [okRow, c0, c1, c2, c3])
    go_enter Try.func31, Try.ntmps31
    go_wp2_with (first
      | (go_at_call 17; refine (l1In_any _ _ _ _).mono ?_; rintro e' w' ⟨rfl, rfl⟩)
      | (go_at_call 46; refine (specwinok_any _ _ _).mono ?_; rintro e w' ⟨rfl, hb⟩; obtain ⟨hc, hf, hs⟩ := bcell hb; (try have hz0 : w.heap.size < w'.heap.size := (by have h9 := hb.size; (try simp at h9); omega)); (try have hz1 : w.heap.size + 1 < w'.heap.size := (by have h9 := hb.size; (try simp at h9); omega)))
      | (go_at_call 47; refine (specaggok_any _ _ _ _ _).mono ?_; rintro e w' ⟨rfl, hb⟩; obtain ⟨hc, hf, hs⟩ := bcell hb; (try have hz0 : w.heap.size < w'.heap.size := (by have h9 := hb.size; (try simp at h9); omega)); (try have hz1 : w.heap.size + 1 < w'.heap.size := (by have h9 := hb.size; (try simp at h9); omega))))
    go_ret
    exact ⟨ret_b (unhide hq).symm, (by repeat (first | (with_reducible refine bel_set ?_ (by first | (simp; done) | (simp; omega)) _) | (with_reducible refine bel_alloc ?_ _) | (with_reducible exact Below.refl _ _) | (with_reducible assumption) | (with_reducible refine bel_drew ?_) | (with_reducible refine bel_drewN ?_ _) | (with_reducible refine bel_trans ?_ (by with_reducible assumption))))⟩

theorem okRow_pl {l mark : Int} (ky st en an asu ale amo fn fsu fle fmo td : Int) (tm : Bool) : okRow l mark ky st en an asu ale amo fn fsu fle fmo td tm = (okPlace ky st en && okAgg an asu ale amo && okAgg fn fsu fle fmo && inB td 0 1500 && !(an == 0) && decide (fn ≤ an) && decide (mark < en + l) && (tm == decide (en ≤ mark)) && (decide (0 < td) == decide (en ≤ mark)) && ((fn == 0) == decide (en ≤ mark))) := rfl

set_option maxRecDepth 20000 in
set_option maxHeartbeats 4000000 in
theorem rowok_any (ky st en an asu ale amo fn fsu fle fmo td : Int) (tm : Bool) (mark l : Int) (hl : 0 ≤ l ∧ l ≤ 20) (w : World) : Calls Try.prog 37 #[.agg #[.int .i64 ky, .int .i64 st, .int .i64 en, .int .i64 an, .int .i64 asu, .int .i64 ale, .int .i64 amo, .int .i64 fn, .int .i64 fsu, .int .i64 fle, .int .i64 fmo, .int .i64 td, .bool tm], .int .i64 mark, .int .i64 l] w fun e' w' => e' = .returned (.bool (okRow l mark ky st en an asu ale amo fn fsu fle fmo td tm)) ∧ Below w.heap.size w w' := by
  cases c0 : okPlace ky st en
  · have hq : Hid (okRow l mark ky st en an asu ale amo fn fsu fle fmo td tm = false) := hide (by simp [okRow_pl, c0])
    go_enter Try.func37, Try.ntmps37
    go_wp2_with (first
      | (go_at_call 39; refine (opplace_any _ _ _ _ _ _ _ _ _ _ _ _ _ _).mono ?_; rintro e w' ⟨rfl, hb⟩; obtain ⟨hc, hf, hs⟩ := bcell hb; (try have hz0 : w.heap.size < w'.heap.size := (by have h9 := hb.size; (try simp at h9); omega)); (try have hz1 : w.heap.size + 1 < w'.heap.size := (by have h9 := hb.size; (try simp at h9); omega)))
      | (go_at_call 52; refine (placeok_any _ _ _ _).mono ?_; rintro e w' ⟨rfl, hb⟩; obtain ⟨hc, hf, hs⟩ := bcell hb; (try have hz0 : w.heap.size < w'.heap.size := (by have h9 := hb.size; (try simp at h9); omega)); (try have hz1 : w.heap.size + 1 < w'.heap.size := (by have h9 := hb.size; (try simp at h9); omega)))
      | (go_at_call 22; refine (within_any _ _ _ _).mono ?_; rintro e' w' ⟨rfl, rfl⟩)
      | (go_at_call 53; refine (aggok_any _ _ _ _ _).mono ?_; rintro e w' ⟨rfl, hb⟩; obtain ⟨hc, hf, hs⟩ := bcell hb; (try have hz0 : w.heap.size < w'.heap.size := (by have h9 := hb.size; (try simp at h9); omega)); (try have hz1 : w.heap.size + 1 < w'.heap.size := (by have h9 := hb.size; (try simp at h9); omega))))
    go_ret
    exact ⟨ret_b (unhide hq).symm, (by repeat (first | (with_reducible refine bel_set ?_ (by first | (simp; done) | (simp; omega)) _) | (with_reducible refine bel_alloc ?_ _) | (with_reducible exact Below.refl _ _) | (with_reducible assumption) | (with_reducible refine bel_drew ?_) | (with_reducible refine bel_drewN ?_ _) | (with_reducible refine bel_trans ?_ (by with_reducible assumption))))⟩
  have c1 : okWin st en = true := by simp only [okPlace, Bool.and_eq_true] at c0; exact c0.2
  have cc0 : inB ky 0 3 = true := by simp only [okPlace, Bool.and_eq_true] at c0; exact c0.1
  have hen := okWin_en c1
  cases c2 : okAgg an asu ale amo
  · have hq : Hid (okRow l mark ky st en an asu ale amo fn fsu fle fmo td tm = false) := hide (by simp [okRow_pl, c0, c2])
    go_enter Try.func37, Try.ntmps37
    go_wp2_with (first
      | (go_at_call 39; refine (opplace_any _ _ _ _ _ _ _ _ _ _ _ _ _ _).mono ?_; rintro e w' ⟨rfl, hb⟩; obtain ⟨hc, hf, hs⟩ := bcell hb; (try have hz0 : w.heap.size < w'.heap.size := (by have h9 := hb.size; (try simp at h9); omega)); (try have hz1 : w.heap.size + 1 < w'.heap.size := (by have h9 := hb.size; (try simp at h9); omega)))
      | (go_at_call 52; refine (placeok_any _ _ _ _).mono ?_; rintro e w' ⟨rfl, hb⟩; obtain ⟨hc, hf, hs⟩ := bcell hb; (try have hz0 : w.heap.size < w'.heap.size := (by have h9 := hb.size; (try simp at h9); omega)); (try have hz1 : w.heap.size + 1 < w'.heap.size := (by have h9 := hb.size; (try simp at h9); omega)))
      | (go_at_call 22; refine (within_any _ _ _ _).mono ?_; rintro e' w' ⟨rfl, rfl⟩)
      | (go_at_call 53; refine (aggok_any _ _ _ _ _).mono ?_; rintro e w' ⟨rfl, hb⟩; obtain ⟨hc, hf, hs⟩ := bcell hb; (try have hz0 : w.heap.size < w'.heap.size := (by have h9 := hb.size; (try simp at h9); omega)); (try have hz1 : w.heap.size + 1 < w'.heap.size := (by have h9 := hb.size; (try simp at h9); omega))))
    go_ret
    exact ⟨ret_b (unhide hq).symm, (by repeat (first | (with_reducible refine bel_set ?_ (by first | (simp; done) | (simp; omega)) _) | (with_reducible refine bel_alloc ?_ _) | (with_reducible exact Below.refl _ _) | (with_reducible assumption) | (with_reducible refine bel_drew ?_) | (with_reducible refine bel_drewN ?_ _) | (with_reducible refine bel_trans ?_ (by with_reducible assumption))))⟩
  cases c4 : okAgg fn fsu fle fmo
  · have hq : Hid (okRow l mark ky st en an asu ale amo fn fsu fle fmo td tm = false) := hide (by simp [okRow_pl, c0, c2, c4])
    go_enter Try.func37, Try.ntmps37
    go_wp2_with (first
      | (go_at_call 39; refine (opplace_any _ _ _ _ _ _ _ _ _ _ _ _ _ _).mono ?_; rintro e w' ⟨rfl, hb⟩; obtain ⟨hc, hf, hs⟩ := bcell hb; (try have hz0 : w.heap.size < w'.heap.size := (by have h9 := hb.size; (try simp at h9); omega)); (try have hz1 : w.heap.size + 1 < w'.heap.size := (by have h9 := hb.size; (try simp at h9); omega)))
      | (go_at_call 52; refine (placeok_any _ _ _ _).mono ?_; rintro e w' ⟨rfl, hb⟩; obtain ⟨hc, hf, hs⟩ := bcell hb; (try have hz0 : w.heap.size < w'.heap.size := (by have h9 := hb.size; (try simp at h9); omega)); (try have hz1 : w.heap.size + 1 < w'.heap.size := (by have h9 := hb.size; (try simp at h9); omega)))
      | (go_at_call 22; refine (within_any _ _ _ _).mono ?_; rintro e' w' ⟨rfl, rfl⟩)
      | (go_at_call 53; refine (aggok_any _ _ _ _ _).mono ?_; rintro e w' ⟨rfl, hb⟩; obtain ⟨hc, hf, hs⟩ := bcell hb; (try have hz0 : w.heap.size < w'.heap.size := (by have h9 := hb.size; (try simp at h9); omega)); (try have hz1 : w.heap.size + 1 < w'.heap.size := (by have h9 := hb.size; (try simp at h9); omega))))
    go_ret
    exact ⟨ret_b (unhide hq).symm, (by repeat (first | (with_reducible refine bel_set ?_ (by first | (simp; done) | (simp; omega)) _) | (with_reducible refine bel_alloc ?_ _) | (with_reducible exact Below.refl _ _) | (with_reducible assumption) | (with_reducible refine bel_drew ?_) | (with_reducible refine bel_drewN ?_ _) | (with_reducible refine bel_trans ?_ (by with_reducible assumption))))⟩
  cases c6 : inB td 0 1500
  · have hq : Hid (okRow l mark ky st en an asu ale amo fn fsu fle fmo td tm = false) := hide (by simp [okRow_pl, c0, c2, c4, c6])
    go_enter Try.func37, Try.ntmps37
    go_wp2_with (first
      | (go_at_call 39; refine (opplace_any _ _ _ _ _ _ _ _ _ _ _ _ _ _).mono ?_; rintro e w' ⟨rfl, hb⟩; obtain ⟨hc, hf, hs⟩ := bcell hb; (try have hz0 : w.heap.size < w'.heap.size := (by have h9 := hb.size; (try simp at h9); omega)); (try have hz1 : w.heap.size + 1 < w'.heap.size := (by have h9 := hb.size; (try simp at h9); omega)))
      | (go_at_call 52; refine (placeok_any _ _ _ _).mono ?_; rintro e w' ⟨rfl, hb⟩; obtain ⟨hc, hf, hs⟩ := bcell hb; (try have hz0 : w.heap.size < w'.heap.size := (by have h9 := hb.size; (try simp at h9); omega)); (try have hz1 : w.heap.size + 1 < w'.heap.size := (by have h9 := hb.size; (try simp at h9); omega)))
      | (go_at_call 22; refine (within_any _ _ _ _).mono ?_; rintro e' w' ⟨rfl, rfl⟩)
      | (go_at_call 53; refine (aggok_any _ _ _ _ _).mono ?_; rintro e w' ⟨rfl, hb⟩; obtain ⟨hc, hf, hs⟩ := bcell hb; (try have hz0 : w.heap.size < w'.heap.size := (by have h9 := hb.size; (try simp at h9); omega)); (try have hz1 : w.heap.size + 1 < w'.heap.size := (by have h9 := hb.size; (try simp at h9); omega))))
    go_ret
    exact ⟨ret_b (unhide hq).symm, (by repeat (first | (with_reducible refine bel_set ?_ (by first | (simp; done) | (simp; omega)) _) | (with_reducible refine bel_alloc ?_ _) | (with_reducible exact Below.refl _ _) | (with_reducible assumption) | (with_reducible refine bel_drew ?_) | (with_reducible refine bel_drewN ?_ _) | (with_reducible refine bel_trans ?_ (by with_reducible assumption))))⟩
  cases c3 : (an == 0)
  · by_cases c5 : fn ≤ an
    · by_cases c7 : mark < en + l
      · by_cases ov : en ≤ mark
        · cases tm
          · have hq : Hid (okRow l mark ky st en an asu ale amo fn fsu fle fmo td false = false) := hide (by simp [okRow_pl, c0, c2, c4, c6, c3, c5, c7, ov])
            go_enter Try.func37, Try.ntmps37
            go_wp2_with (first
              | (go_at_call 39; refine (opplace_any _ _ _ _ _ _ _ _ _ _ _ _ _ _).mono ?_; rintro e w' ⟨rfl, hb⟩; obtain ⟨hc, hf, hs⟩ := bcell hb; (try have hz0 : w.heap.size < w'.heap.size := (by have h9 := hb.size; (try simp at h9); omega)); (try have hz1 : w.heap.size + 1 < w'.heap.size := (by have h9 := hb.size; (try simp at h9); omega)))
              | (go_at_call 52; refine (placeok_any _ _ _ _).mono ?_; rintro e w' ⟨rfl, hb⟩; obtain ⟨hc, hf, hs⟩ := bcell hb; (try have hz0 : w.heap.size < w'.heap.size := (by have h9 := hb.size; (try simp at h9); omega)); (try have hz1 : w.heap.size + 1 < w'.heap.size := (by have h9 := hb.size; (try simp at h9); omega)))
              | (go_at_call 22; refine (within_any _ _ _ _).mono ?_; rintro e' w' ⟨rfl, rfl⟩)
              | (go_at_call 53; refine (aggok_any _ _ _ _ _).mono ?_; rintro e w' ⟨rfl, hb⟩; obtain ⟨hc, hf, hs⟩ := bcell hb; (try have hz0 : w.heap.size < w'.heap.size := (by have h9 := hb.size; (try simp at h9); omega)); (try have hz1 : w.heap.size + 1 < w'.heap.size := (by have h9 := hb.size; (try simp at h9); omega))))
            go_ret
            exact ⟨ret_b (unhide hq).symm, (by repeat (first | (with_reducible refine bel_set ?_ (by first | (simp; done) | (simp; omega)) _) | (with_reducible refine bel_alloc ?_ _) | (with_reducible exact Below.refl _ _) | (with_reducible assumption) | (with_reducible refine bel_drew ?_) | (with_reducible refine bel_drewN ?_ _) | (with_reducible refine bel_trans ?_ (by with_reducible assumption))))⟩
          · by_cases tp : 0 < td
            · cases fz : (fn == 0)
              · have hq : Hid (okRow l mark ky st en an asu ale amo fn fsu fle fmo td true = false) := hide (by simp [okRow_pl, c0, c2, c4, c6, c3, c5, c7, ov, tp, fz])
                go_enter Try.func37, Try.ntmps37
                go_wp2_with (first
                  | (go_at_call 39; refine (opplace_any _ _ _ _ _ _ _ _ _ _ _ _ _ _).mono ?_; rintro e w' ⟨rfl, hb⟩; obtain ⟨hc, hf, hs⟩ := bcell hb; (try have hz0 : w.heap.size < w'.heap.size := (by have h9 := hb.size; (try simp at h9); omega)); (try have hz1 : w.heap.size + 1 < w'.heap.size := (by have h9 := hb.size; (try simp at h9); omega)))
                  | (go_at_call 52; refine (placeok_any _ _ _ _).mono ?_; rintro e w' ⟨rfl, hb⟩; obtain ⟨hc, hf, hs⟩ := bcell hb; (try have hz0 : w.heap.size < w'.heap.size := (by have h9 := hb.size; (try simp at h9); omega)); (try have hz1 : w.heap.size + 1 < w'.heap.size := (by have h9 := hb.size; (try simp at h9); omega)))
                  | (go_at_call 22; refine (within_any _ _ _ _).mono ?_; rintro e' w' ⟨rfl, rfl⟩)
                  | (go_at_call 53; refine (aggok_any _ _ _ _ _).mono ?_; rintro e w' ⟨rfl, hb⟩; obtain ⟨hc, hf, hs⟩ := bcell hb; (try have hz0 : w.heap.size < w'.heap.size := (by have h9 := hb.size; (try simp at h9); omega)); (try have hz1 : w.heap.size + 1 < w'.heap.size := (by have h9 := hb.size; (try simp at h9); omega))))
                go_ret
                exact ⟨ret_b (unhide hq).symm, (by repeat (first | (with_reducible refine bel_set ?_ (by first | (simp; done) | (simp; omega)) _) | (with_reducible refine bel_alloc ?_ _) | (with_reducible exact Below.refl _ _) | (with_reducible assumption) | (with_reducible refine bel_drew ?_) | (with_reducible refine bel_drewN ?_ _) | (with_reducible refine bel_trans ?_ (by with_reducible assumption))))⟩
              · have hq : Hid (okRow l mark ky st en an asu ale amo fn fsu fle fmo td true = true) := hide (by simp [okRow_pl, c0, c2, c4, c6, c3, c5, c7, ov, tp, fz])
                go_enter Try.func37, Try.ntmps37
                go_wp2_with (first
                  | (go_at_call 39; refine (opplace_any _ _ _ _ _ _ _ _ _ _ _ _ _ _).mono ?_; rintro e w' ⟨rfl, hb⟩; obtain ⟨hc, hf, hs⟩ := bcell hb; (try have hz0 : w.heap.size < w'.heap.size := (by have h9 := hb.size; (try simp at h9); omega)); (try have hz1 : w.heap.size + 1 < w'.heap.size := (by have h9 := hb.size; (try simp at h9); omega)))
                  | (go_at_call 52; refine (placeok_any _ _ _ _).mono ?_; rintro e w' ⟨rfl, hb⟩; obtain ⟨hc, hf, hs⟩ := bcell hb; (try have hz0 : w.heap.size < w'.heap.size := (by have h9 := hb.size; (try simp at h9); omega)); (try have hz1 : w.heap.size + 1 < w'.heap.size := (by have h9 := hb.size; (try simp at h9); omega)))
                  | (go_at_call 22; refine (within_any _ _ _ _).mono ?_; rintro e' w' ⟨rfl, rfl⟩)
                  | (go_at_call 53; refine (aggok_any _ _ _ _ _).mono ?_; rintro e w' ⟨rfl, hb⟩; obtain ⟨hc, hf, hs⟩ := bcell hb; (try have hz0 : w.heap.size < w'.heap.size := (by have h9 := hb.size; (try simp at h9); omega)); (try have hz1 : w.heap.size + 1 < w'.heap.size := (by have h9 := hb.size; (try simp at h9); omega))))
                go_ret
                exact ⟨ret_b (by first | exact (unhide hq).symm | (rw [unhide hq]; simp [ov])), (by repeat (first | (with_reducible refine bel_set ?_ (by first | (simp; done) | (simp; omega)) _) | (with_reducible refine bel_alloc ?_ _) | (with_reducible exact Below.refl _ _) | (with_reducible assumption) | (with_reducible refine bel_drew ?_) | (with_reducible refine bel_drewN ?_ _) | (with_reducible refine bel_trans ?_ (by with_reducible assumption))))⟩
            · have hq : Hid (okRow l mark ky st en an asu ale amo fn fsu fle fmo td true = false) := hide (by simp [okRow_pl, c0, c2, c4, c6, c3, c5, c7, ov, tp])
              go_enter Try.func37, Try.ntmps37
              go_wp2_with (first
                | (go_at_call 39; refine (opplace_any _ _ _ _ _ _ _ _ _ _ _ _ _ _).mono ?_; rintro e w' ⟨rfl, hb⟩; obtain ⟨hc, hf, hs⟩ := bcell hb; (try have hz0 : w.heap.size < w'.heap.size := (by have h9 := hb.size; (try simp at h9); omega)); (try have hz1 : w.heap.size + 1 < w'.heap.size := (by have h9 := hb.size; (try simp at h9); omega)))
                | (go_at_call 52; refine (placeok_any _ _ _ _).mono ?_; rintro e w' ⟨rfl, hb⟩; obtain ⟨hc, hf, hs⟩ := bcell hb; (try have hz0 : w.heap.size < w'.heap.size := (by have h9 := hb.size; (try simp at h9); omega)); (try have hz1 : w.heap.size + 1 < w'.heap.size := (by have h9 := hb.size; (try simp at h9); omega)))
                | (go_at_call 22; refine (within_any _ _ _ _).mono ?_; rintro e' w' ⟨rfl, rfl⟩)
                | (go_at_call 53; refine (aggok_any _ _ _ _ _).mono ?_; rintro e w' ⟨rfl, hb⟩; obtain ⟨hc, hf, hs⟩ := bcell hb; (try have hz0 : w.heap.size < w'.heap.size := (by have h9 := hb.size; (try simp at h9); omega)); (try have hz1 : w.heap.size + 1 < w'.heap.size := (by have h9 := hb.size; (try simp at h9); omega))))
              go_ret
              exact ⟨ret_b (unhide hq).symm, (by repeat (first | (with_reducible refine bel_set ?_ (by first | (simp; done) | (simp; omega)) _) | (with_reducible refine bel_alloc ?_ _) | (with_reducible exact Below.refl _ _) | (with_reducible assumption) | (with_reducible refine bel_drew ?_) | (with_reducible refine bel_drewN ?_ _) | (with_reducible refine bel_trans ?_ (by with_reducible assumption))))⟩
        · cases tm
          · by_cases tp : 0 < td
            · have hq : Hid (okRow l mark ky st en an asu ale amo fn fsu fle fmo td false = false) := hide (by simp [okRow_pl, c0, c2, c4, c6, c3, c5, c7, ov, tp])
              go_enter Try.func37, Try.ntmps37
              go_wp2_with (first
                | (go_at_call 39; refine (opplace_any _ _ _ _ _ _ _ _ _ _ _ _ _ _).mono ?_; rintro e w' ⟨rfl, hb⟩; obtain ⟨hc, hf, hs⟩ := bcell hb; (try have hz0 : w.heap.size < w'.heap.size := (by have h9 := hb.size; (try simp at h9); omega)); (try have hz1 : w.heap.size + 1 < w'.heap.size := (by have h9 := hb.size; (try simp at h9); omega)))
                | (go_at_call 52; refine (placeok_any _ _ _ _).mono ?_; rintro e w' ⟨rfl, hb⟩; obtain ⟨hc, hf, hs⟩ := bcell hb; (try have hz0 : w.heap.size < w'.heap.size := (by have h9 := hb.size; (try simp at h9); omega)); (try have hz1 : w.heap.size + 1 < w'.heap.size := (by have h9 := hb.size; (try simp at h9); omega)))
                | (go_at_call 22; refine (within_any _ _ _ _).mono ?_; rintro e' w' ⟨rfl, rfl⟩)
                | (go_at_call 53; refine (aggok_any _ _ _ _ _).mono ?_; rintro e w' ⟨rfl, hb⟩; obtain ⟨hc, hf, hs⟩ := bcell hb; (try have hz0 : w.heap.size < w'.heap.size := (by have h9 := hb.size; (try simp at h9); omega)); (try have hz1 : w.heap.size + 1 < w'.heap.size := (by have h9 := hb.size; (try simp at h9); omega))))
              go_ret
              exact ⟨ret_b (unhide hq).symm, (by repeat (first | (with_reducible refine bel_set ?_ (by first | (simp; done) | (simp; omega)) _) | (with_reducible refine bel_alloc ?_ _) | (with_reducible exact Below.refl _ _) | (with_reducible assumption) | (with_reducible refine bel_drew ?_) | (with_reducible refine bel_drewN ?_ _) | (with_reducible refine bel_trans ?_ (by with_reducible assumption))))⟩
            · cases fz : (fn == 0)
              · have hq : Hid (okRow l mark ky st en an asu ale amo fn fsu fle fmo td false = true) := hide (by simp [okRow_pl, c0, c2, c4, c6, c3, c5, c7, ov, tp, fz])
                go_enter Try.func37, Try.ntmps37
                go_wp2_with (first
                  | (go_at_call 39; refine (opplace_any _ _ _ _ _ _ _ _ _ _ _ _ _ _).mono ?_; rintro e w' ⟨rfl, hb⟩; obtain ⟨hc, hf, hs⟩ := bcell hb; (try have hz0 : w.heap.size < w'.heap.size := (by have h9 := hb.size; (try simp at h9); omega)); (try have hz1 : w.heap.size + 1 < w'.heap.size := (by have h9 := hb.size; (try simp at h9); omega)))
                  | (go_at_call 52; refine (placeok_any _ _ _ _).mono ?_; rintro e w' ⟨rfl, hb⟩; obtain ⟨hc, hf, hs⟩ := bcell hb; (try have hz0 : w.heap.size < w'.heap.size := (by have h9 := hb.size; (try simp at h9); omega)); (try have hz1 : w.heap.size + 1 < w'.heap.size := (by have h9 := hb.size; (try simp at h9); omega)))
                  | (go_at_call 22; refine (within_any _ _ _ _).mono ?_; rintro e' w' ⟨rfl, rfl⟩)
                  | (go_at_call 53; refine (aggok_any _ _ _ _ _).mono ?_; rintro e w' ⟨rfl, hb⟩; obtain ⟨hc, hf, hs⟩ := bcell hb; (try have hz0 : w.heap.size < w'.heap.size := (by have h9 := hb.size; (try simp at h9); omega)); (try have hz1 : w.heap.size + 1 < w'.heap.size := (by have h9 := hb.size; (try simp at h9); omega))))
                go_ret
                exact ⟨ret_b (by first | exact (unhide hq).symm | (rw [unhide hq]; simp [ov])), (by repeat (first | (with_reducible refine bel_set ?_ (by first | (simp; done) | (simp; omega)) _) | (with_reducible refine bel_alloc ?_ _) | (with_reducible exact Below.refl _ _) | (with_reducible assumption) | (with_reducible refine bel_drew ?_) | (with_reducible refine bel_drewN ?_ _) | (with_reducible refine bel_trans ?_ (by with_reducible assumption))))⟩
              · have hq : Hid (okRow l mark ky st en an asu ale amo fn fsu fle fmo td false = false) := hide (by simp [okRow_pl, c0, c2, c4, c6, c3, c5, c7, ov, tp, fz])
                go_enter Try.func37, Try.ntmps37
                go_wp2_with (first
                  | (go_at_call 39; refine (opplace_any _ _ _ _ _ _ _ _ _ _ _ _ _ _).mono ?_; rintro e w' ⟨rfl, hb⟩; obtain ⟨hc, hf, hs⟩ := bcell hb; (try have hz0 : w.heap.size < w'.heap.size := (by have h9 := hb.size; (try simp at h9); omega)); (try have hz1 : w.heap.size + 1 < w'.heap.size := (by have h9 := hb.size; (try simp at h9); omega)))
                  | (go_at_call 52; refine (placeok_any _ _ _ _).mono ?_; rintro e w' ⟨rfl, hb⟩; obtain ⟨hc, hf, hs⟩ := bcell hb; (try have hz0 : w.heap.size < w'.heap.size := (by have h9 := hb.size; (try simp at h9); omega)); (try have hz1 : w.heap.size + 1 < w'.heap.size := (by have h9 := hb.size; (try simp at h9); omega)))
                  | (go_at_call 22; refine (within_any _ _ _ _).mono ?_; rintro e' w' ⟨rfl, rfl⟩)
                  | (go_at_call 53; refine (aggok_any _ _ _ _ _).mono ?_; rintro e w' ⟨rfl, hb⟩; obtain ⟨hc, hf, hs⟩ := bcell hb; (try have hz0 : w.heap.size < w'.heap.size := (by have h9 := hb.size; (try simp at h9); omega)); (try have hz1 : w.heap.size + 1 < w'.heap.size := (by have h9 := hb.size; (try simp at h9); omega))))
                go_ret
                exact ⟨ret_b (unhide hq).symm, (by repeat (first | (with_reducible refine bel_set ?_ (by first | (simp; done) | (simp; omega)) _) | (with_reducible refine bel_alloc ?_ _) | (with_reducible exact Below.refl _ _) | (with_reducible assumption) | (with_reducible refine bel_drew ?_) | (with_reducible refine bel_drewN ?_ _) | (with_reducible refine bel_trans ?_ (by with_reducible assumption))))⟩
          · have hq : Hid (okRow l mark ky st en an asu ale amo fn fsu fle fmo td true = false) := hide (by simp [okRow_pl, c0, c2, c4, c6, c3, c5, c7, ov])
            go_enter Try.func37, Try.ntmps37
            go_wp2_with (first
              | (go_at_call 39; refine (opplace_any _ _ _ _ _ _ _ _ _ _ _ _ _ _).mono ?_; rintro e w' ⟨rfl, hb⟩; obtain ⟨hc, hf, hs⟩ := bcell hb; (try have hz0 : w.heap.size < w'.heap.size := (by have h9 := hb.size; (try simp at h9); omega)); (try have hz1 : w.heap.size + 1 < w'.heap.size := (by have h9 := hb.size; (try simp at h9); omega)))
              | (go_at_call 52; refine (placeok_any _ _ _ _).mono ?_; rintro e w' ⟨rfl, hb⟩; obtain ⟨hc, hf, hs⟩ := bcell hb; (try have hz0 : w.heap.size < w'.heap.size := (by have h9 := hb.size; (try simp at h9); omega)); (try have hz1 : w.heap.size + 1 < w'.heap.size := (by have h9 := hb.size; (try simp at h9); omega)))
              | (go_at_call 22; refine (within_any _ _ _ _).mono ?_; rintro e' w' ⟨rfl, rfl⟩)
              | (go_at_call 53; refine (aggok_any _ _ _ _ _).mono ?_; rintro e w' ⟨rfl, hb⟩; obtain ⟨hc, hf, hs⟩ := bcell hb; (try have hz0 : w.heap.size < w'.heap.size := (by have h9 := hb.size; (try simp at h9); omega)); (try have hz1 : w.heap.size + 1 < w'.heap.size := (by have h9 := hb.size; (try simp at h9); omega))))
            go_ret
            exact ⟨ret_b (unhide hq).symm, (by repeat (first | (with_reducible refine bel_set ?_ (by first | (simp; done) | (simp; omega)) _) | (with_reducible refine bel_alloc ?_ _) | (with_reducible exact Below.refl _ _) | (with_reducible assumption) | (with_reducible refine bel_drew ?_) | (with_reducible refine bel_drewN ?_ _) | (with_reducible refine bel_trans ?_ (by with_reducible assumption))))⟩
      · have hq : Hid (okRow l mark ky st en an asu ale amo fn fsu fle fmo td tm = false) := hide (by simp [okRow_pl, c0, c2, c4, c6, c3, c5, c7])
        go_enter Try.func37, Try.ntmps37
        go_wp2_with (first
          | (go_at_call 39; refine (opplace_any _ _ _ _ _ _ _ _ _ _ _ _ _ _).mono ?_; rintro e w' ⟨rfl, hb⟩; obtain ⟨hc, hf, hs⟩ := bcell hb; (try have hz0 : w.heap.size < w'.heap.size := (by have h9 := hb.size; (try simp at h9); omega)); (try have hz1 : w.heap.size + 1 < w'.heap.size := (by have h9 := hb.size; (try simp at h9); omega)))
          | (go_at_call 52; refine (placeok_any _ _ _ _).mono ?_; rintro e w' ⟨rfl, hb⟩; obtain ⟨hc, hf, hs⟩ := bcell hb; (try have hz0 : w.heap.size < w'.heap.size := (by have h9 := hb.size; (try simp at h9); omega)); (try have hz1 : w.heap.size + 1 < w'.heap.size := (by have h9 := hb.size; (try simp at h9); omega)))
          | (go_at_call 22; refine (within_any _ _ _ _).mono ?_; rintro e' w' ⟨rfl, rfl⟩)
          | (go_at_call 53; refine (aggok_any _ _ _ _ _).mono ?_; rintro e w' ⟨rfl, hb⟩; obtain ⟨hc, hf, hs⟩ := bcell hb; (try have hz0 : w.heap.size < w'.heap.size := (by have h9 := hb.size; (try simp at h9); omega)); (try have hz1 : w.heap.size + 1 < w'.heap.size := (by have h9 := hb.size; (try simp at h9); omega))))
        go_ret
        exact ⟨ret_b (unhide hq).symm, (by repeat (first | (with_reducible refine bel_set ?_ (by first | (simp; done) | (simp; omega)) _) | (with_reducible refine bel_alloc ?_ _) | (with_reducible exact Below.refl _ _) | (with_reducible assumption) | (with_reducible refine bel_drew ?_) | (with_reducible refine bel_drewN ?_ _) | (with_reducible refine bel_trans ?_ (by with_reducible assumption))))⟩
    · have hq : Hid (okRow l mark ky st en an asu ale amo fn fsu fle fmo td tm = false) := hide (by simp [okRow_pl, c0, c2, c4, c6, c3, c5])
      go_enter Try.func37, Try.ntmps37
      go_wp2_with (first
        | (go_at_call 39; refine (opplace_any _ _ _ _ _ _ _ _ _ _ _ _ _ _).mono ?_; rintro e w' ⟨rfl, hb⟩; obtain ⟨hc, hf, hs⟩ := bcell hb; (try have hz0 : w.heap.size < w'.heap.size := (by have h9 := hb.size; (try simp at h9); omega)); (try have hz1 : w.heap.size + 1 < w'.heap.size := (by have h9 := hb.size; (try simp at h9); omega)))
        | (go_at_call 52; refine (placeok_any _ _ _ _).mono ?_; rintro e w' ⟨rfl, hb⟩; obtain ⟨hc, hf, hs⟩ := bcell hb; (try have hz0 : w.heap.size < w'.heap.size := (by have h9 := hb.size; (try simp at h9); omega)); (try have hz1 : w.heap.size + 1 < w'.heap.size := (by have h9 := hb.size; (try simp at h9); omega)))
        | (go_at_call 22; refine (within_any _ _ _ _).mono ?_; rintro e' w' ⟨rfl, rfl⟩)
        | (go_at_call 53; refine (aggok_any _ _ _ _ _).mono ?_; rintro e w' ⟨rfl, hb⟩; obtain ⟨hc, hf, hs⟩ := bcell hb; (try have hz0 : w.heap.size < w'.heap.size := (by have h9 := hb.size; (try simp at h9); omega)); (try have hz1 : w.heap.size + 1 < w'.heap.size := (by have h9 := hb.size; (try simp at h9); omega))))
      go_ret
      exact ⟨ret_b (unhide hq).symm, (by repeat (first | (with_reducible refine bel_set ?_ (by first | (simp; done) | (simp; omega)) _) | (with_reducible refine bel_alloc ?_ _) | (with_reducible exact Below.refl _ _) | (with_reducible assumption) | (with_reducible refine bel_drew ?_) | (with_reducible refine bel_drewN ?_ _) | (with_reducible refine bel_trans ?_ (by with_reducible assumption))))⟩
  · have hq : Hid (okRow l mark ky st en an asu ale amo fn fsu fle fmo td tm = false) := hide (by simp [okRow_pl, c0, c2, c4, c6, c3])
    go_enter Try.func37, Try.ntmps37
    go_wp2_with (first
      | (go_at_call 39; refine (opplace_any _ _ _ _ _ _ _ _ _ _ _ _ _ _).mono ?_; rintro e w' ⟨rfl, hb⟩; obtain ⟨hc, hf, hs⟩ := bcell hb; (try have hz0 : w.heap.size < w'.heap.size := (by have h9 := hb.size; (try simp at h9); omega)); (try have hz1 : w.heap.size + 1 < w'.heap.size := (by have h9 := hb.size; (try simp at h9); omega)))
      | (go_at_call 52; refine (placeok_any _ _ _ _).mono ?_; rintro e w' ⟨rfl, hb⟩; obtain ⟨hc, hf, hs⟩ := bcell hb; (try have hz0 : w.heap.size < w'.heap.size := (by have h9 := hb.size; (try simp at h9); omega)); (try have hz1 : w.heap.size + 1 < w'.heap.size := (by have h9 := hb.size; (try simp at h9); omega)))
      | (go_at_call 22; refine (within_any _ _ _ _).mono ?_; rintro e' w' ⟨rfl, rfl⟩)
      | (go_at_call 53; refine (aggok_any _ _ _ _ _).mono ?_; rintro e w' ⟨rfl, hb⟩; obtain ⟨hc, hf, hs⟩ := bcell hb; (try have hz0 : w.heap.size < w'.heap.size := (by have h9 := hb.size; (try simp at h9); omega)); (try have hz1 : w.heap.size + 1 < w'.heap.size := (by have h9 := hb.size; (try simp at h9); omega))))
    go_ret
    exact ⟨ret_b (unhide hq).symm, (by repeat (first | (with_reducible refine bel_set ?_ (by first | (simp; done) | (simp; omega)) _) | (with_reducible refine bel_alloc ?_ _) | (with_reducible exact Below.refl _ _) | (with_reducible assumption) | (with_reducible refine bel_drew ?_) | (with_reducible refine bel_drewN ?_ _) | (with_reducible refine bel_trans ?_ (by with_reducible assumption))))⟩

end Go.Proofs.Ytflignpbboiahaa
