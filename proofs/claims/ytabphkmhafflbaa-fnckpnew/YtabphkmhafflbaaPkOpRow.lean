/- Laid together: what the claim needs of the texts that were built one by one. -/
import Derived.Test.YtabphkmhafflbaaPkOpPl
import Derived.Test.YtabphkmhafflbaaPkPan
import Derived.Test.YtabphkmhafflbaaPkJob
import Derived.Test.YtabphkmhafflbaaPkBase
namespace Go.Proofs.Ytabphkmhafflbaa
open Go.ChangeShapes Go.WideShapes Go.ChangeAt Go.RowKit
set_option linter.unusedVariables false

/-- When a row may be open behind a mark. -/
def okRow (l mark : Int) (ky st en an asu ale amo fn fsu fle fmo td : Int) (tm : Bool) : Bool := inB ky 0 3 && okWin st en && okAgg an asu ale amo && okAgg fn fsu fle fmo && inB td 0 1500 && !(an == 0) && decide (fn ≤ an) && decide (mark < en + l) && (tm == decide (en ≤ mark)) && (decide (0 < td) == decide (en ≤ mark)) && ((fn == 0) == decide (en ≤ mark))

theorem okWin_en {st en : Int} (h : okWin st en = true) : 0 ≤ st ∧ st < en ∧ en ≤ 120 := by
  simp only [okWin, Bool.and_eq_true] at h
  have h1 := inB_iff.1 h.1
  have h2 := inB_iff.1 h.2
  omega

theorem okRow_pl {l mark : Int} (ky st en an asu ale amo fn fsu fle fmo td : Int) (tm : Bool) : okRow l mark ky st en an asu ale amo fn fsu fle fmo td tm = (okPlace ky st en && okAgg an asu ale amo && okAgg fn fsu fle fmo && inB td 0 1500 && !(an == 0) && decide (fn ≤ an) && decide (mark < en + l) && (tm == decide (en ≤ mark)) && (decide (0 < td) == decide (en ≤ mark)) && ((fn == 0) == decide (en ≤ mark))) := rfl

set_option maxRecDepth 20000 in
set_option maxHeartbeats 4000000 in
theorem rowok_any (ky st en an asu ale amo fn fsu fle fmo td : Int) (tm : Bool) (mark l : Int) (hl : 0 ≤ l ∧ l ≤ 20) (w : World) : Calls Try.prog 55 #[.agg #[.int .i64 ky, .int .i64 st, .int .i64 en, .int .i64 an, .int .i64 asu, .int .i64 ale, .int .i64 amo, .int .i64 fn, .int .i64 fsu, .int .i64 fle, .int .i64 fmo, .int .i64 td, .bool tm], .int .i64 mark, .int .i64 l] w fun e' w' => e' = .returned (.bool (okRow l mark ky st en an asu ale amo fn fsu fle fmo td tm)) ∧ Below w.heap.size w w' := by
  cases c0 : okPlace ky st en
  · have hq : Hid (okRow l mark ky st en an asu ale amo fn fsu fle fmo td tm = false) := hide (by simp [okRow_pl, c0])
    go_enter Try.func55, Try.ntmps55
    go_wp2_with (first
      | (go_at_call 58; refine (opplace_any _ _ _ _ _ _ _ _ _ _ _ _ _ _).mono ?_; rintro e w' ⟨rfl, hb⟩; obtain ⟨hc, hf, hs⟩ := bcell hb; (try have hz0 : w.heap.size < w'.heap.size := (by have h9 := hb.size; (try simp at h9); omega)); (try have hz1 : w.heap.size + 1 < w'.heap.size := (by have h9 := hb.size; (try simp at h9); omega)))
      | (go_at_call 59; refine (placeok_any _ _ _ _).mono ?_; rintro e w' ⟨rfl, hb⟩; obtain ⟨hc, hf, hs⟩ := bcell hb; (try have hz0 : w.heap.size < w'.heap.size := (by have h9 := hb.size; (try simp at h9); omega)); (try have hz1 : w.heap.size + 1 < w'.heap.size := (by have h9 := hb.size; (try simp at h9); omega)))
      | (go_at_call 23; refine (within_any _ _ _ _).mono ?_; rintro e' w' ⟨rfl, rfl⟩)
      | (go_at_call 60; refine (aggok_any _ _ _ _ _).mono ?_; rintro e w' ⟨rfl, hb⟩; obtain ⟨hc, hf, hs⟩ := bcell hb; (try have hz0 : w.heap.size < w'.heap.size := (by have h9 := hb.size; (try simp at h9); omega)); (try have hz1 : w.heap.size + 1 < w'.heap.size := (by have h9 := hb.size; (try simp at h9); omega))))
    go_ret
    exact ⟨ret_b (unhide hq).symm, (belB)⟩
  have c1 : okWin st en = true := by simp only [okPlace, Bool.and_eq_true] at c0; exact c0.2
  have cc0 : inB ky 0 3 = true := by simp only [okPlace, Bool.and_eq_true] at c0; exact c0.1
  have hen := okWin_en c1
  cases c2 : okAgg an asu ale amo
  · have hq : Hid (okRow l mark ky st en an asu ale amo fn fsu fle fmo td tm = false) := hide (by simp [okRow_pl, c0, c2])
    go_enter Try.func55, Try.ntmps55
    go_wp2_with (first
      | (go_at_call 58; refine (opplace_any _ _ _ _ _ _ _ _ _ _ _ _ _ _).mono ?_; rintro e w' ⟨rfl, hb⟩; obtain ⟨hc, hf, hs⟩ := bcell hb; (try have hz0 : w.heap.size < w'.heap.size := (by have h9 := hb.size; (try simp at h9); omega)); (try have hz1 : w.heap.size + 1 < w'.heap.size := (by have h9 := hb.size; (try simp at h9); omega)))
      | (go_at_call 59; refine (placeok_any _ _ _ _).mono ?_; rintro e w' ⟨rfl, hb⟩; obtain ⟨hc, hf, hs⟩ := bcell hb; (try have hz0 : w.heap.size < w'.heap.size := (by have h9 := hb.size; (try simp at h9); omega)); (try have hz1 : w.heap.size + 1 < w'.heap.size := (by have h9 := hb.size; (try simp at h9); omega)))
      | (go_at_call 23; refine (within_any _ _ _ _).mono ?_; rintro e' w' ⟨rfl, rfl⟩)
      | (go_at_call 60; refine (aggok_any _ _ _ _ _).mono ?_; rintro e w' ⟨rfl, hb⟩; obtain ⟨hc, hf, hs⟩ := bcell hb; (try have hz0 : w.heap.size < w'.heap.size := (by have h9 := hb.size; (try simp at h9); omega)); (try have hz1 : w.heap.size + 1 < w'.heap.size := (by have h9 := hb.size; (try simp at h9); omega))))
    go_ret
    exact ⟨ret_b (unhide hq).symm, (belB)⟩
  cases c4 : okAgg fn fsu fle fmo
  · have hq : Hid (okRow l mark ky st en an asu ale amo fn fsu fle fmo td tm = false) := hide (by simp [okRow_pl, c0, c2, c4])
    go_enter Try.func55, Try.ntmps55
    go_wp2_with (first
      | (go_at_call 58; refine (opplace_any _ _ _ _ _ _ _ _ _ _ _ _ _ _).mono ?_; rintro e w' ⟨rfl, hb⟩; obtain ⟨hc, hf, hs⟩ := bcell hb; (try have hz0 : w.heap.size < w'.heap.size := (by have h9 := hb.size; (try simp at h9); omega)); (try have hz1 : w.heap.size + 1 < w'.heap.size := (by have h9 := hb.size; (try simp at h9); omega)))
      | (go_at_call 59; refine (placeok_any _ _ _ _).mono ?_; rintro e w' ⟨rfl, hb⟩; obtain ⟨hc, hf, hs⟩ := bcell hb; (try have hz0 : w.heap.size < w'.heap.size := (by have h9 := hb.size; (try simp at h9); omega)); (try have hz1 : w.heap.size + 1 < w'.heap.size := (by have h9 := hb.size; (try simp at h9); omega)))
      | (go_at_call 23; refine (within_any _ _ _ _).mono ?_; rintro e' w' ⟨rfl, rfl⟩)
      | (go_at_call 60; refine (aggok_any _ _ _ _ _).mono ?_; rintro e w' ⟨rfl, hb⟩; obtain ⟨hc, hf, hs⟩ := bcell hb; (try have hz0 : w.heap.size < w'.heap.size := (by have h9 := hb.size; (try simp at h9); omega)); (try have hz1 : w.heap.size + 1 < w'.heap.size := (by have h9 := hb.size; (try simp at h9); omega))))
    go_ret
    exact ⟨ret_b (unhide hq).symm, (belB)⟩
  cases c6 : inB td 0 1500
  · have hq : Hid (okRow l mark ky st en an asu ale amo fn fsu fle fmo td tm = false) := hide (by simp [okRow_pl, c0, c2, c4, c6])
    go_enter Try.func55, Try.ntmps55
    go_wp2_with (first
      | (go_at_call 58; refine (opplace_any _ _ _ _ _ _ _ _ _ _ _ _ _ _).mono ?_; rintro e w' ⟨rfl, hb⟩; obtain ⟨hc, hf, hs⟩ := bcell hb; (try have hz0 : w.heap.size < w'.heap.size := (by have h9 := hb.size; (try simp at h9); omega)); (try have hz1 : w.heap.size + 1 < w'.heap.size := (by have h9 := hb.size; (try simp at h9); omega)))
      | (go_at_call 59; refine (placeok_any _ _ _ _).mono ?_; rintro e w' ⟨rfl, hb⟩; obtain ⟨hc, hf, hs⟩ := bcell hb; (try have hz0 : w.heap.size < w'.heap.size := (by have h9 := hb.size; (try simp at h9); omega)); (try have hz1 : w.heap.size + 1 < w'.heap.size := (by have h9 := hb.size; (try simp at h9); omega)))
      | (go_at_call 23; refine (within_any _ _ _ _).mono ?_; rintro e' w' ⟨rfl, rfl⟩)
      | (go_at_call 60; refine (aggok_any _ _ _ _ _).mono ?_; rintro e w' ⟨rfl, hb⟩; obtain ⟨hc, hf, hs⟩ := bcell hb; (try have hz0 : w.heap.size < w'.heap.size := (by have h9 := hb.size; (try simp at h9); omega)); (try have hz1 : w.heap.size + 1 < w'.heap.size := (by have h9 := hb.size; (try simp at h9); omega))))
    go_ret
    exact ⟨ret_b (unhide hq).symm, (belB)⟩
  cases c3 : (an == 0)
  · by_cases c5 : fn ≤ an
    · by_cases c7 : mark < en + l
      · by_cases ov : en ≤ mark
        · cases tm
          · have hq : Hid (okRow l mark ky st en an asu ale amo fn fsu fle fmo td false = false) := hide (by simp [okRow_pl, c0, c2, c4, c6, c3, c5, c7, ov])
            go_enter Try.func55, Try.ntmps55
            go_wp2_with (first
              | (go_at_call 58; refine (opplace_any _ _ _ _ _ _ _ _ _ _ _ _ _ _).mono ?_; rintro e w' ⟨rfl, hb⟩; obtain ⟨hc, hf, hs⟩ := bcell hb; (try have hz0 : w.heap.size < w'.heap.size := (by have h9 := hb.size; (try simp at h9); omega)); (try have hz1 : w.heap.size + 1 < w'.heap.size := (by have h9 := hb.size; (try simp at h9); omega)))
              | (go_at_call 59; refine (placeok_any _ _ _ _).mono ?_; rintro e w' ⟨rfl, hb⟩; obtain ⟨hc, hf, hs⟩ := bcell hb; (try have hz0 : w.heap.size < w'.heap.size := (by have h9 := hb.size; (try simp at h9); omega)); (try have hz1 : w.heap.size + 1 < w'.heap.size := (by have h9 := hb.size; (try simp at h9); omega)))
              | (go_at_call 23; refine (within_any _ _ _ _).mono ?_; rintro e' w' ⟨rfl, rfl⟩)
              | (go_at_call 60; refine (aggok_any _ _ _ _ _).mono ?_; rintro e w' ⟨rfl, hb⟩; obtain ⟨hc, hf, hs⟩ := bcell hb; (try have hz0 : w.heap.size < w'.heap.size := (by have h9 := hb.size; (try simp at h9); omega)); (try have hz1 : w.heap.size + 1 < w'.heap.size := (by have h9 := hb.size; (try simp at h9); omega))))
            go_ret
            exact ⟨ret_b (unhide hq).symm, (belB)⟩
          · by_cases tp : 0 < td
            · cases fz : (fn == 0)
              · have hq : Hid (okRow l mark ky st en an asu ale amo fn fsu fle fmo td true = false) := hide (by simp [okRow_pl, c0, c2, c4, c6, c3, c5, c7, ov, tp, fz])
                go_enter Try.func55, Try.ntmps55
                go_wp2_with (first
                  | (go_at_call 58; refine (opplace_any _ _ _ _ _ _ _ _ _ _ _ _ _ _).mono ?_; rintro e w' ⟨rfl, hb⟩; obtain ⟨hc, hf, hs⟩ := bcell hb; (try have hz0 : w.heap.size < w'.heap.size := (by have h9 := hb.size; (try simp at h9); omega)); (try have hz1 : w.heap.size + 1 < w'.heap.size := (by have h9 := hb.size; (try simp at h9); omega)))
                  | (go_at_call 59; refine (placeok_any _ _ _ _).mono ?_; rintro e w' ⟨rfl, hb⟩; obtain ⟨hc, hf, hs⟩ := bcell hb; (try have hz0 : w.heap.size < w'.heap.size := (by have h9 := hb.size; (try simp at h9); omega)); (try have hz1 : w.heap.size + 1 < w'.heap.size := (by have h9 := hb.size; (try simp at h9); omega)))
                  | (go_at_call 23; refine (within_any _ _ _ _).mono ?_; rintro e' w' ⟨rfl, rfl⟩)
                  | (go_at_call 60; refine (aggok_any _ _ _ _ _).mono ?_; rintro e w' ⟨rfl, hb⟩; obtain ⟨hc, hf, hs⟩ := bcell hb; (try have hz0 : w.heap.size < w'.heap.size := (by have h9 := hb.size; (try simp at h9); omega)); (try have hz1 : w.heap.size + 1 < w'.heap.size := (by have h9 := hb.size; (try simp at h9); omega))))
                go_ret
                exact ⟨ret_b (unhide hq).symm, (belB)⟩
              · have hq : Hid (okRow l mark ky st en an asu ale amo fn fsu fle fmo td true = true) := hide (by simp [okRow_pl, c0, c2, c4, c6, c3, c5, c7, ov, tp, fz])
                go_enter Try.func55, Try.ntmps55
                go_wp2_with (first
                  | (go_at_call 58; refine (opplace_any _ _ _ _ _ _ _ _ _ _ _ _ _ _).mono ?_; rintro e w' ⟨rfl, hb⟩; obtain ⟨hc, hf, hs⟩ := bcell hb; (try have hz0 : w.heap.size < w'.heap.size := (by have h9 := hb.size; (try simp at h9); omega)); (try have hz1 : w.heap.size + 1 < w'.heap.size := (by have h9 := hb.size; (try simp at h9); omega)))
                  | (go_at_call 59; refine (placeok_any _ _ _ _).mono ?_; rintro e w' ⟨rfl, hb⟩; obtain ⟨hc, hf, hs⟩ := bcell hb; (try have hz0 : w.heap.size < w'.heap.size := (by have h9 := hb.size; (try simp at h9); omega)); (try have hz1 : w.heap.size + 1 < w'.heap.size := (by have h9 := hb.size; (try simp at h9); omega)))
                  | (go_at_call 23; refine (within_any _ _ _ _).mono ?_; rintro e' w' ⟨rfl, rfl⟩)
                  | (go_at_call 60; refine (aggok_any _ _ _ _ _).mono ?_; rintro e w' ⟨rfl, hb⟩; obtain ⟨hc, hf, hs⟩ := bcell hb; (try have hz0 : w.heap.size < w'.heap.size := (by have h9 := hb.size; (try simp at h9); omega)); (try have hz1 : w.heap.size + 1 < w'.heap.size := (by have h9 := hb.size; (try simp at h9); omega))))
                go_ret
                exact ⟨ret_b (by first | exact (unhide hq).symm | (rw [unhide hq]; simp [ov])), (belB)⟩
            · have hq : Hid (okRow l mark ky st en an asu ale amo fn fsu fle fmo td true = false) := hide (by simp [okRow_pl, c0, c2, c4, c6, c3, c5, c7, ov, tp])
              go_enter Try.func55, Try.ntmps55
              go_wp2_with (first
                | (go_at_call 58; refine (opplace_any _ _ _ _ _ _ _ _ _ _ _ _ _ _).mono ?_; rintro e w' ⟨rfl, hb⟩; obtain ⟨hc, hf, hs⟩ := bcell hb; (try have hz0 : w.heap.size < w'.heap.size := (by have h9 := hb.size; (try simp at h9); omega)); (try have hz1 : w.heap.size + 1 < w'.heap.size := (by have h9 := hb.size; (try simp at h9); omega)))
                | (go_at_call 59; refine (placeok_any _ _ _ _).mono ?_; rintro e w' ⟨rfl, hb⟩; obtain ⟨hc, hf, hs⟩ := bcell hb; (try have hz0 : w.heap.size < w'.heap.size := (by have h9 := hb.size; (try simp at h9); omega)); (try have hz1 : w.heap.size + 1 < w'.heap.size := (by have h9 := hb.size; (try simp at h9); omega)))
                | (go_at_call 23; refine (within_any _ _ _ _).mono ?_; rintro e' w' ⟨rfl, rfl⟩)
                | (go_at_call 60; refine (aggok_any _ _ _ _ _).mono ?_; rintro e w' ⟨rfl, hb⟩; obtain ⟨hc, hf, hs⟩ := bcell hb; (try have hz0 : w.heap.size < w'.heap.size := (by have h9 := hb.size; (try simp at h9); omega)); (try have hz1 : w.heap.size + 1 < w'.heap.size := (by have h9 := hb.size; (try simp at h9); omega))))
              go_ret
              exact ⟨ret_b (unhide hq).symm, (belB)⟩
        · cases tm
          · by_cases tp : 0 < td
            · have hq : Hid (okRow l mark ky st en an asu ale amo fn fsu fle fmo td false = false) := hide (by simp [okRow_pl, c0, c2, c4, c6, c3, c5, c7, ov, tp])
              go_enter Try.func55, Try.ntmps55
              go_wp2_with (first
                | (go_at_call 58; refine (opplace_any _ _ _ _ _ _ _ _ _ _ _ _ _ _).mono ?_; rintro e w' ⟨rfl, hb⟩; obtain ⟨hc, hf, hs⟩ := bcell hb; (try have hz0 : w.heap.size < w'.heap.size := (by have h9 := hb.size; (try simp at h9); omega)); (try have hz1 : w.heap.size + 1 < w'.heap.size := (by have h9 := hb.size; (try simp at h9); omega)))
                | (go_at_call 59; refine (placeok_any _ _ _ _).mono ?_; rintro e w' ⟨rfl, hb⟩; obtain ⟨hc, hf, hs⟩ := bcell hb; (try have hz0 : w.heap.size < w'.heap.size := (by have h9 := hb.size; (try simp at h9); omega)); (try have hz1 : w.heap.size + 1 < w'.heap.size := (by have h9 := hb.size; (try simp at h9); omega)))
                | (go_at_call 23; refine (within_any _ _ _ _).mono ?_; rintro e' w' ⟨rfl, rfl⟩)
                | (go_at_call 60; refine (aggok_any _ _ _ _ _).mono ?_; rintro e w' ⟨rfl, hb⟩; obtain ⟨hc, hf, hs⟩ := bcell hb; (try have hz0 : w.heap.size < w'.heap.size := (by have h9 := hb.size; (try simp at h9); omega)); (try have hz1 : w.heap.size + 1 < w'.heap.size := (by have h9 := hb.size; (try simp at h9); omega))))
              go_ret
              exact ⟨ret_b (unhide hq).symm, (belB)⟩
            · cases fz : (fn == 0)
              · have hq : Hid (okRow l mark ky st en an asu ale amo fn fsu fle fmo td false = true) := hide (by simp [okRow_pl, c0, c2, c4, c6, c3, c5, c7, ov, tp, fz])
                go_enter Try.func55, Try.ntmps55
                go_wp2_with (first
                  | (go_at_call 58; refine (opplace_any _ _ _ _ _ _ _ _ _ _ _ _ _ _).mono ?_; rintro e w' ⟨rfl, hb⟩; obtain ⟨hc, hf, hs⟩ := bcell hb; (try have hz0 : w.heap.size < w'.heap.size := (by have h9 := hb.size; (try simp at h9); omega)); (try have hz1 : w.heap.size + 1 < w'.heap.size := (by have h9 := hb.size; (try simp at h9); omega)))
                  | (go_at_call 59; refine (placeok_any _ _ _ _).mono ?_; rintro e w' ⟨rfl, hb⟩; obtain ⟨hc, hf, hs⟩ := bcell hb; (try have hz0 : w.heap.size < w'.heap.size := (by have h9 := hb.size; (try simp at h9); omega)); (try have hz1 : w.heap.size + 1 < w'.heap.size := (by have h9 := hb.size; (try simp at h9); omega)))
                  | (go_at_call 23; refine (within_any _ _ _ _).mono ?_; rintro e' w' ⟨rfl, rfl⟩)
                  | (go_at_call 60; refine (aggok_any _ _ _ _ _).mono ?_; rintro e w' ⟨rfl, hb⟩; obtain ⟨hc, hf, hs⟩ := bcell hb; (try have hz0 : w.heap.size < w'.heap.size := (by have h9 := hb.size; (try simp at h9); omega)); (try have hz1 : w.heap.size + 1 < w'.heap.size := (by have h9 := hb.size; (try simp at h9); omega))))
                go_ret
                exact ⟨ret_b (by first | exact (unhide hq).symm | (rw [unhide hq]; simp [ov])), (belB)⟩
              · have hq : Hid (okRow l mark ky st en an asu ale amo fn fsu fle fmo td false = false) := hide (by simp [okRow_pl, c0, c2, c4, c6, c3, c5, c7, ov, tp, fz])
                go_enter Try.func55, Try.ntmps55
                go_wp2_with (first
                  | (go_at_call 58; refine (opplace_any _ _ _ _ _ _ _ _ _ _ _ _ _ _).mono ?_; rintro e w' ⟨rfl, hb⟩; obtain ⟨hc, hf, hs⟩ := bcell hb; (try have hz0 : w.heap.size < w'.heap.size := (by have h9 := hb.size; (try simp at h9); omega)); (try have hz1 : w.heap.size + 1 < w'.heap.size := (by have h9 := hb.size; (try simp at h9); omega)))
                  | (go_at_call 59; refine (placeok_any _ _ _ _).mono ?_; rintro e w' ⟨rfl, hb⟩; obtain ⟨hc, hf, hs⟩ := bcell hb; (try have hz0 : w.heap.size < w'.heap.size := (by have h9 := hb.size; (try simp at h9); omega)); (try have hz1 : w.heap.size + 1 < w'.heap.size := (by have h9 := hb.size; (try simp at h9); omega)))
                  | (go_at_call 23; refine (within_any _ _ _ _).mono ?_; rintro e' w' ⟨rfl, rfl⟩)
                  | (go_at_call 60; refine (aggok_any _ _ _ _ _).mono ?_; rintro e w' ⟨rfl, hb⟩; obtain ⟨hc, hf, hs⟩ := bcell hb; (try have hz0 : w.heap.size < w'.heap.size := (by have h9 := hb.size; (try simp at h9); omega)); (try have hz1 : w.heap.size + 1 < w'.heap.size := (by have h9 := hb.size; (try simp at h9); omega))))
                go_ret
                exact ⟨ret_b (unhide hq).symm, (belB)⟩
          · have hq : Hid (okRow l mark ky st en an asu ale amo fn fsu fle fmo td true = false) := hide (by simp [okRow_pl, c0, c2, c4, c6, c3, c5, c7, ov])
            go_enter Try.func55, Try.ntmps55
            go_wp2_with (first
              | (go_at_call 58; refine (opplace_any _ _ _ _ _ _ _ _ _ _ _ _ _ _).mono ?_; rintro e w' ⟨rfl, hb⟩; obtain ⟨hc, hf, hs⟩ := bcell hb; (try have hz0 : w.heap.size < w'.heap.size := (by have h9 := hb.size; (try simp at h9); omega)); (try have hz1 : w.heap.size + 1 < w'.heap.size := (by have h9 := hb.size; (try simp at h9); omega)))
              | (go_at_call 59; refine (placeok_any _ _ _ _).mono ?_; rintro e w' ⟨rfl, hb⟩; obtain ⟨hc, hf, hs⟩ := bcell hb; (try have hz0 : w.heap.size < w'.heap.size := (by have h9 := hb.size; (try simp at h9); omega)); (try have hz1 : w.heap.size + 1 < w'.heap.size := (by have h9 := hb.size; (try simp at h9); omega)))
              | (go_at_call 23; refine (within_any _ _ _ _).mono ?_; rintro e' w' ⟨rfl, rfl⟩)
              | (go_at_call 60; refine (aggok_any _ _ _ _ _).mono ?_; rintro e w' ⟨rfl, hb⟩; obtain ⟨hc, hf, hs⟩ := bcell hb; (try have hz0 : w.heap.size < w'.heap.size := (by have h9 := hb.size; (try simp at h9); omega)); (try have hz1 : w.heap.size + 1 < w'.heap.size := (by have h9 := hb.size; (try simp at h9); omega))))
            go_ret
            exact ⟨ret_b (unhide hq).symm, (belB)⟩
      · have hq : Hid (okRow l mark ky st en an asu ale amo fn fsu fle fmo td tm = false) := hide (by simp [okRow_pl, c0, c2, c4, c6, c3, c5, c7])
        go_enter Try.func55, Try.ntmps55
        go_wp2_with (first
          | (go_at_call 58; refine (opplace_any _ _ _ _ _ _ _ _ _ _ _ _ _ _).mono ?_; rintro e w' ⟨rfl, hb⟩; obtain ⟨hc, hf, hs⟩ := bcell hb; (try have hz0 : w.heap.size < w'.heap.size := (by have h9 := hb.size; (try simp at h9); omega)); (try have hz1 : w.heap.size + 1 < w'.heap.size := (by have h9 := hb.size; (try simp at h9); omega)))
          | (go_at_call 59; refine (placeok_any _ _ _ _).mono ?_; rintro e w' ⟨rfl, hb⟩; obtain ⟨hc, hf, hs⟩ := bcell hb; (try have hz0 : w.heap.size < w'.heap.size := (by have h9 := hb.size; (try simp at h9); omega)); (try have hz1 : w.heap.size + 1 < w'.heap.size := (by have h9 := hb.size; (try simp at h9); omega)))
          | (go_at_call 23; refine (within_any _ _ _ _).mono ?_; rintro e' w' ⟨rfl, rfl⟩)
          | (go_at_call 60; refine (aggok_any _ _ _ _ _).mono ?_; rintro e w' ⟨rfl, hb⟩; obtain ⟨hc, hf, hs⟩ := bcell hb; (try have hz0 : w.heap.size < w'.heap.size := (by have h9 := hb.size; (try simp at h9); omega)); (try have hz1 : w.heap.size + 1 < w'.heap.size := (by have h9 := hb.size; (try simp at h9); omega))))
        go_ret
        exact ⟨ret_b (unhide hq).symm, (belB)⟩
    · have hq : Hid (okRow l mark ky st en an asu ale amo fn fsu fle fmo td tm = false) := hide (by simp [okRow_pl, c0, c2, c4, c6, c3, c5])
      go_enter Try.func55, Try.ntmps55
      go_wp2_with (first
        | (go_at_call 58; refine (opplace_any _ _ _ _ _ _ _ _ _ _ _ _ _ _).mono ?_; rintro e w' ⟨rfl, hb⟩; obtain ⟨hc, hf, hs⟩ := bcell hb; (try have hz0 : w.heap.size < w'.heap.size := (by have h9 := hb.size; (try simp at h9); omega)); (try have hz1 : w.heap.size + 1 < w'.heap.size := (by have h9 := hb.size; (try simp at h9); omega)))
        | (go_at_call 59; refine (placeok_any _ _ _ _).mono ?_; rintro e w' ⟨rfl, hb⟩; obtain ⟨hc, hf, hs⟩ := bcell hb; (try have hz0 : w.heap.size < w'.heap.size := (by have h9 := hb.size; (try simp at h9); omega)); (try have hz1 : w.heap.size + 1 < w'.heap.size := (by have h9 := hb.size; (try simp at h9); omega)))
        | (go_at_call 23; refine (within_any _ _ _ _).mono ?_; rintro e' w' ⟨rfl, rfl⟩)
        | (go_at_call 60; refine (aggok_any _ _ _ _ _).mono ?_; rintro e w' ⟨rfl, hb⟩; obtain ⟨hc, hf, hs⟩ := bcell hb; (try have hz0 : w.heap.size < w'.heap.size := (by have h9 := hb.size; (try simp at h9); omega)); (try have hz1 : w.heap.size + 1 < w'.heap.size := (by have h9 := hb.size; (try simp at h9); omega))))
      go_ret
      exact ⟨ret_b (unhide hq).symm, (belB)⟩
  · have hq : Hid (okRow l mark ky st en an asu ale amo fn fsu fle fmo td tm = false) := hide (by simp [okRow_pl, c0, c2, c4, c6, c3])
    go_enter Try.func55, Try.ntmps55
    go_wp2_with (first
      | (go_at_call 58; refine (opplace_any _ _ _ _ _ _ _ _ _ _ _ _ _ _).mono ?_; rintro e w' ⟨rfl, hb⟩; obtain ⟨hc, hf, hs⟩ := bcell hb; (try have hz0 : w.heap.size < w'.heap.size := (by have h9 := hb.size; (try simp at h9); omega)); (try have hz1 : w.heap.size + 1 < w'.heap.size := (by have h9 := hb.size; (try simp at h9); omega)))
      | (go_at_call 59; refine (placeok_any _ _ _ _).mono ?_; rintro e w' ⟨rfl, hb⟩; obtain ⟨hc, hf, hs⟩ := bcell hb; (try have hz0 : w.heap.size < w'.heap.size := (by have h9 := hb.size; (try simp at h9); omega)); (try have hz1 : w.heap.size + 1 < w'.heap.size := (by have h9 := hb.size; (try simp at h9); omega)))
      | (go_at_call 23; refine (within_any _ _ _ _).mono ?_; rintro e' w' ⟨rfl, rfl⟩)
      | (go_at_call 60; refine (aggok_any _ _ _ _ _).mono ?_; rintro e w' ⟨rfl, hb⟩; obtain ⟨hc, hf, hs⟩ := bcell hb; (try have hz0 : w.heap.size < w'.heap.size := (by have h9 := hb.size; (try simp at h9); omega)); (try have hz1 : w.heap.size + 1 < w'.heap.size := (by have h9 := hb.size; (try simp at h9); omega))))
    go_ret
    exact ⟨ret_b (unhide hq).symm, (belB)⟩
end Go.Proofs.Ytabphkmhafflbaa
