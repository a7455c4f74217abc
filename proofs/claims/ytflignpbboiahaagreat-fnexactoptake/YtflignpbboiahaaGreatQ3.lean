/- Laid together: what the claim needs of the texts that were built one by one. -/
import Derived.Test.YtflignpbboiahaaGreatQ2
import Derived.Test.YtflignpbboiahaaGreatQ0
import Derived.Deep.RegionHeld3
import Derived.Deep.DeepCutAuto
set_option linter.unusedVariables false
namespace Go.Proofs.YtflignpbboiahaaGreat
open Go.ChangeShapes Go.WideShapes Go.ChangeAt Go.RowKit
/-- When a row may be open behind a mark. -/
def okRow (l mark : Int) (ky st en an asu ale amo fn fsu fle fmo td : Int) (tm : Bool) : Bool := inB ky 0 3 && okWin st en && okAgg an asu ale amo && okAgg fn fsu fle fmo && inB td 0 1500 && !(an == 0) && decide (fn ≤ an) && decide (mark < en + l) && (tm == decide (en ≤ mark)) && (decide (0 < td) == decide (en ≤ mark)) && ((fn == 0) == decide (en ≤ mark))
theorem okWin_en {st en : Int} (h : okWin st en = true) : 0 ≤ st ∧ st < en ∧ en ≤ 120 := by
 simp only [okWin, Bool.and_eq_true] at h
 have h1 := inB_iff.1 h.1
 have h2 := inB_iff.1 h.2
 omega
set_option maxRecDepth 20000 in
set_option maxHeartbeats 4000000 in
theorem l7row_any (s t k z p l e : Int) (b : Bool) (v r : Int) (ky st en an asu ale amo fn fsu fle fmo td : Int) (tm : Bool) (mark : Int) (hl : 0 ≤ l ∧ l ≤ 20) (w : World) : Calls Tryz.prog 37 #[.agg #[.int .i64 s, .int .i64 t, .int .i64 k, .int .i64 z, .int .i64 p, .int .i64 l, .int .i64 e, .bool b, .int .i64 v, .int .i64 r], .agg #[.int .i64 ky, .int .i64 st, .int .i64 en, .int .i64 an, .int .i64 asu, .int .i64 ale, .int .i64 amo, .int .i64 fn, .int .i64 fsu, .int .i64 fle, .int .i64 fmo, .int .i64 td, .bool tm], .int .i64 mark] w fun e' w' => e' = .returned (.bool (okRow l mark ky st en an asu ale amo fn fsu fle fmo td tm)) ∧ Below w.heap.size w w' := by
 cases c0 : inB ky 0 3
 ·have hq : Hid (okRow l mark ky st en an asu ale amo fn fsu fle fmo td tm = false) := hide (by simp [okRow, c0])
  go_enter Tryz.func37, Tryz.ntmps37
  go_wp2_with (first
   | (go_at_call 36; refine (l1In_any _ _ _ _).mono ?_; rintro e' w' ⟨rfl, rfl⟩)
   | (go_at_call 60; refine (specwinok_any _ _ _).mono ?_; rintro e w' ⟨rfl, hb⟩; obtain ⟨hc, hf, hs⟩ := bcell hb; (try have hz0 := zA hb w.heap.size); (try have hz1 := zA hb (w.heap.size + 1)))
   | (go_at_call 61; refine (specaggok_any _ _ _ _ _).mono ?_; rintro e w' ⟨rfl, hb⟩; obtain ⟨hc, hf, hs⟩ := bcell hb; (try have hz0 := zA hb w.heap.size); (try have hz1 := zA hb (w.heap.size + 1))))
  go_ret
  exact ⟨ret_b (unhide hq).symm, (belB)⟩
 cases c1 : okWin st en
 ·have hq : Hid (okRow l mark ky st en an asu ale amo fn fsu fle fmo td tm = false) := hide (by simp [okRow, c0, c1])
  go_enter Tryz.func37, Tryz.ntmps37
  go_wp2_with (first
   | (go_at_call 36; refine (l1In_any _ _ _ _).mono ?_; rintro e' w' ⟨rfl, rfl⟩)
   | (go_at_call 60; refine (specwinok_any _ _ _).mono ?_; rintro e w' ⟨rfl, hb⟩; obtain ⟨hc, hf, hs⟩ := bcell hb; (try have hz0 := zA hb w.heap.size); (try have hz1 := zA hb (w.heap.size + 1)))
   | (go_at_call 61; refine (specaggok_any _ _ _ _ _).mono ?_; rintro e w' ⟨rfl, hb⟩; obtain ⟨hc, hf, hs⟩ := bcell hb; (try have hz0 := zA hb w.heap.size); (try have hz1 := zA hb (w.heap.size + 1))))
  go_ret
  exact ⟨ret_b (unhide hq).symm, (belB)⟩
 have hen := okWin_en c1
 cases c2 : okAgg an asu ale amo
 ·have hq : Hid (okRow l mark ky st en an asu ale amo fn fsu fle fmo td tm = false) := hide (by simp [okRow, c0, c1, c2])
  go_enter Tryz.func37, Tryz.ntmps37
  go_wp2_with (first
   | (go_at_call 36; refine (l1In_any _ _ _ _).mono ?_; rintro e' w' ⟨rfl, rfl⟩)
   | (go_at_call 60; refine (specwinok_any _ _ _).mono ?_; rintro e w' ⟨rfl, hb⟩; obtain ⟨hc, hf, hs⟩ := bcell hb; (try have hz0 := zA hb w.heap.size); (try have hz1 := zA hb (w.heap.size + 1)))
   | (go_at_call 61; refine (specaggok_any _ _ _ _ _).mono ?_; rintro e w' ⟨rfl, hb⟩; obtain ⟨hc, hf, hs⟩ := bcell hb; (try have hz0 := zA hb w.heap.size); (try have hz1 := zA hb (w.heap.size + 1))))
  go_ret
  exact ⟨ret_b (unhide hq).symm, (belB)⟩
 cases c3 : (an == 0)
 ·cases c4 : okAgg fn fsu fle fmo
  ·have hq : Hid (okRow l mark ky st en an asu ale amo fn fsu fle fmo td tm = false) := hide (by simp [okRow, c0, c1, c2, c3, c4])
   go_enter Tryz.func37, Tryz.ntmps37
   go_wp2_with (first
    | (go_at_call 36; refine (l1In_any _ _ _ _).mono ?_; rintro e' w' ⟨rfl, rfl⟩)
    | (go_at_call 60; refine (specwinok_any _ _ _).mono ?_; rintro e w' ⟨rfl, hb⟩; obtain ⟨hc, hf, hs⟩ := bcell hb; (try have hz0 := zA hb w.heap.size); (try have hz1 := zA hb (w.heap.size + 1)))
    | (go_at_call 61; refine (specaggok_any _ _ _ _ _).mono ?_; rintro e w' ⟨rfl, hb⟩; obtain ⟨hc, hf, hs⟩ := bcell hb; (try have hz0 := zA hb w.heap.size); (try have hz1 := zA hb (w.heap.size + 1))))
   go_ret
   exact ⟨ret_b (unhide hq).symm, (belB)⟩
  by_cases c5 : fn ≤ an
  ·cases c6 : inB td 0 1500
   ·have hq : Hid (okRow l mark ky st en an asu ale amo fn fsu fle fmo td tm = false) := hide (by simp [okRow, c0, c1, c2, c3, c4, c5, c6])
    go_enter Tryz.func37, Tryz.ntmps37
    go_wp2_with (first
     | (go_at_call 36; refine (l1In_any _ _ _ _).mono ?_; rintro e' w' ⟨rfl, rfl⟩)
     | (go_at_call 60; refine (specwinok_any _ _ _).mono ?_; rintro e w' ⟨rfl, hb⟩; obtain ⟨hc, hf, hs⟩ := bcell hb; (try have hz0 := zA hb w.heap.size); (try have hz1 := zA hb (w.heap.size + 1)))
     | (go_at_call 61; refine (specaggok_any _ _ _ _ _).mono ?_; rintro e w' ⟨rfl, hb⟩; obtain ⟨hc, hf, hs⟩ := bcell hb; (try have hz0 := zA hb w.heap.size); (try have hz1 := zA hb (w.heap.size + 1))))
    go_ret
    exact ⟨ret_b (unhide hq).symm, (belB)⟩
   by_cases ov : en ≤ mark
   ·cases tm
    ·have hq : Hid (okRow l mark ky st en an asu ale amo fn fsu fle fmo td false = false) := hide (by simp [okRow, c0, c1, c2, c3, c4, c5, c6, ov])
     go_enter Tryz.func37, Tryz.ntmps37
     go_wp2_with (first
      | (go_at_call 36; refine (l1In_any _ _ _ _).mono ?_; rintro e' w' ⟨rfl, rfl⟩)
      | (go_at_call 60; refine (specwinok_any _ _ _).mono ?_; rintro e w' ⟨rfl, hb⟩; obtain ⟨hc, hf, hs⟩ := bcell hb; (try have hz0 := zA hb w.heap.size); (try have hz1 := zA hb (w.heap.size + 1)))
      | (go_at_call 61; refine (specaggok_any _ _ _ _ _).mono ?_; rintro e w' ⟨rfl, hb⟩; obtain ⟨hc, hf, hs⟩ := bcell hb; (try have hz0 := zA hb w.heap.size); (try have hz1 := zA hb (w.heap.size + 1))))
     go_ret
     exact ⟨ret_b (unhide hq).symm, (belB)⟩
    ·by_cases c7 : mark < en + l
     ·by_cases tp : 0 < td
      ·cases fz : (fn == 0)
       ·have hq : Hid (okRow l mark ky st en an asu ale amo fn fsu fle fmo td true = false) := hide (by simp [okRow, c0, c1, c2, c3, c4, c5, c6, c7, ov, tp, fz])
        go_enter Tryz.func37, Tryz.ntmps37
        go_wp2_with (first
         | (go_at_call 36; refine (l1In_any _ _ _ _).mono ?_; rintro e' w' ⟨rfl, rfl⟩)
         | (go_at_call 60; refine (specwinok_any _ _ _).mono ?_; rintro e w' ⟨rfl, hb⟩; obtain ⟨hc, hf, hs⟩ := bcell hb; (try have hz0 := zA hb w.heap.size); (try have hz1 := zA hb (w.heap.size + 1)))
         | (go_at_call 61; refine (specaggok_any _ _ _ _ _).mono ?_; rintro e w' ⟨rfl, hb⟩; obtain ⟨hc, hf, hs⟩ := bcell hb; (try have hz0 := zA hb w.heap.size); (try have hz1 := zA hb (w.heap.size + 1))))
        go_ret
        exact ⟨ret_b (unhide hq).symm, (belB)⟩
       ·have hq : Hid (okRow l mark ky st en an asu ale amo fn fsu fle fmo td true = true) := hide (by simp [okRow, c0, c1, c2, c3, c4, c5, c6, c7, ov, tp, fz])
        go_enter Tryz.func37, Tryz.ntmps37
        go_wp2_with (first
         | (go_at_call 36; refine (l1In_any _ _ _ _).mono ?_; rintro e' w' ⟨rfl, rfl⟩)
         | (go_at_call 60; refine (specwinok_any _ _ _).mono ?_; rintro e w' ⟨rfl, hb⟩; obtain ⟨hc, hf, hs⟩ := bcell hb; (try have hz0 := zA hb w.heap.size); (try have hz1 := zA hb (w.heap.size + 1)))
         | (go_at_call 61; refine (specaggok_any _ _ _ _ _).mono ?_; rintro e w' ⟨rfl, hb⟩; obtain ⟨hc, hf, hs⟩ := bcell hb; (try have hz0 := zA hb w.heap.size); (try have hz1 := zA hb (w.heap.size + 1))))
        go_ret
        exact ⟨ret_b (by first | exact (unhide hq).symm | (rw [unhide hq]; simp [ov, tp])), (belB)⟩
      ·have hq : Hid (okRow l mark ky st en an asu ale amo fn fsu fle fmo td true = false) := hide (by simp [okRow, c0, c1, c2, c3, c4, c5, c6, c7, ov, tp])
       go_enter Tryz.func37, Tryz.ntmps37
       go_wp2_with (first
        | (go_at_call 36; refine (l1In_any _ _ _ _).mono ?_; rintro e' w' ⟨rfl, rfl⟩)
        | (go_at_call 60; refine (specwinok_any _ _ _).mono ?_; rintro e w' ⟨rfl, hb⟩; obtain ⟨hc, hf, hs⟩ := bcell hb; (try have hz0 := zA hb w.heap.size); (try have hz1 := zA hb (w.heap.size + 1)))
        | (go_at_call 61; refine (specaggok_any _ _ _ _ _).mono ?_; rintro e w' ⟨rfl, hb⟩; obtain ⟨hc, hf, hs⟩ := bcell hb; (try have hz0 := zA hb w.heap.size); (try have hz1 := zA hb (w.heap.size + 1))))
       go_ret
       exact ⟨ret_b (unhide hq).symm, (belB)⟩
     ·have hq : Hid (okRow l mark ky st en an asu ale amo fn fsu fle fmo td true = false) := hide (by simp [okRow, c0, c1, c2, c3, c4, c5, c6, ov, c7])
      go_enter Tryz.func37, Tryz.ntmps37
      go_wp2_with (first
       | (go_at_call 36; refine (l1In_any _ _ _ _).mono ?_; rintro e' w' ⟨rfl, rfl⟩)
       | (go_at_call 60; refine (specwinok_any _ _ _).mono ?_; rintro e w' ⟨rfl, hb⟩; obtain ⟨hc, hf, hs⟩ := bcell hb; (try have hz0 := zA hb w.heap.size); (try have hz1 := zA hb (w.heap.size + 1)))
       | (go_at_call 61; refine (specaggok_any _ _ _ _ _).mono ?_; rintro e w' ⟨rfl, hb⟩; obtain ⟨hc, hf, hs⟩ := bcell hb; (try have hz0 := zA hb w.heap.size); (try have hz1 := zA hb (w.heap.size + 1))))
      go_ret
      exact ⟨ret_b (unhide hq).symm, (belB)⟩
   ·cases tm
    ·by_cases c7 : mark < en + l
     ·by_cases tp : 0 < td
      ·have hq : Hid (okRow l mark ky st en an asu ale amo fn fsu fle fmo td false = false) := hide (by simp [okRow, c0, c1, c2, c3, c4, c5, c6, c7, ov, tp])
       go_enter Tryz.func37, Tryz.ntmps37
       go_wp2_with (first
        | (go_at_call 36; refine (l1In_any _ _ _ _).mono ?_; rintro e' w' ⟨rfl, rfl⟩)
        | (go_at_call 60; refine (specwinok_any _ _ _).mono ?_; rintro e w' ⟨rfl, hb⟩; obtain ⟨hc, hf, hs⟩ := bcell hb; (try have hz0 := zA hb w.heap.size); (try have hz1 := zA hb (w.heap.size + 1)))
        | (go_at_call 61; refine (specaggok_any _ _ _ _ _).mono ?_; rintro e w' ⟨rfl, hb⟩; obtain ⟨hc, hf, hs⟩ := bcell hb; (try have hz0 := zA hb w.heap.size); (try have hz1 := zA hb (w.heap.size + 1))))
       go_ret
       exact ⟨ret_b (unhide hq).symm, (belB)⟩
      ·cases fz : (fn == 0)
       ·have hq : Hid (okRow l mark ky st en an asu ale amo fn fsu fle fmo td false = true) := hide (by simp [okRow, c0, c1, c2, c3, c4, c5, c6, c7, ov, tp, fz])
        go_enter Tryz.func37, Tryz.ntmps37
        go_wp2_with (first
         | (go_at_call 36; refine (l1In_any _ _ _ _).mono ?_; rintro e' w' ⟨rfl, rfl⟩)
         | (go_at_call 60; refine (specwinok_any _ _ _).mono ?_; rintro e w' ⟨rfl, hb⟩; obtain ⟨hc, hf, hs⟩ := bcell hb; (try have hz0 := zA hb w.heap.size); (try have hz1 := zA hb (w.heap.size + 1)))
         | (go_at_call 61; refine (specaggok_any _ _ _ _ _).mono ?_; rintro e w' ⟨rfl, hb⟩; obtain ⟨hc, hf, hs⟩ := bcell hb; (try have hz0 := zA hb w.heap.size); (try have hz1 := zA hb (w.heap.size + 1))))
        go_ret
        exact ⟨ret_b (by first | exact (unhide hq).symm | (rw [unhide hq]; simp [ov, tp])), (belB)⟩
       ·have hq : Hid (okRow l mark ky st en an asu ale amo fn fsu fle fmo td false = false) := hide (by simp [okRow, c0, c1, c2, c3, c4, c5, c6, c7, ov, tp, fz])
        go_enter Tryz.func37, Tryz.ntmps37
        go_wp2_with (first
         | (go_at_call 36; refine (l1In_any _ _ _ _).mono ?_; rintro e' w' ⟨rfl, rfl⟩)
         | (go_at_call 60; refine (specwinok_any _ _ _).mono ?_; rintro e w' ⟨rfl, hb⟩; obtain ⟨hc, hf, hs⟩ := bcell hb; (try have hz0 := zA hb w.heap.size); (try have hz1 := zA hb (w.heap.size + 1)))
         | (go_at_call 61; refine (specaggok_any _ _ _ _ _).mono ?_; rintro e w' ⟨rfl, hb⟩; obtain ⟨hc, hf, hs⟩ := bcell hb; (try have hz0 := zA hb w.heap.size); (try have hz1 := zA hb (w.heap.size + 1))))
        go_ret
        exact ⟨ret_b (unhide hq).symm, (belB)⟩
     ·exfalso; omega
    ·have hq : Hid (okRow l mark ky st en an asu ale amo fn fsu fle fmo td true = false) := hide (by simp [okRow, c0, c1, c2, c3, c4, c5, c6, ov])
     go_enter Tryz.func37, Tryz.ntmps37
     go_wp2_with (first
      | (go_at_call 36; refine (l1In_any _ _ _ _).mono ?_; rintro e' w' ⟨rfl, rfl⟩)
      | (go_at_call 60; refine (specwinok_any _ _ _).mono ?_; rintro e w' ⟨rfl, hb⟩; obtain ⟨hc, hf, hs⟩ := bcell hb; (try have hz0 := zA hb w.heap.size); (try have hz1 := zA hb (w.heap.size + 1)))
      | (go_at_call 61; refine (specaggok_any _ _ _ _ _).mono ?_; rintro e w' ⟨rfl, hb⟩; obtain ⟨hc, hf, hs⟩ := bcell hb; (try have hz0 := zA hb w.heap.size); (try have hz1 := zA hb (w.heap.size + 1))))
     go_ret
     exact ⟨ret_b (unhide hq).symm, (belB)⟩
  ·have hq : Hid (okRow l mark ky st en an asu ale amo fn fsu fle fmo td tm = false) := hide (by simp [okRow, c0, c1, c2, c3, c4, c5])
   go_enter Tryz.func37, Tryz.ntmps37
   go_wp2_with (first
    | (go_at_call 36; refine (l1In_any _ _ _ _).mono ?_; rintro e' w' ⟨rfl, rfl⟩)
    | (go_at_call 60; refine (specwinok_any _ _ _).mono ?_; rintro e w' ⟨rfl, hb⟩; obtain ⟨hc, hf, hs⟩ := bcell hb; (try have hz0 := zA hb w.heap.size); (try have hz1 := zA hb (w.heap.size + 1)))
    | (go_at_call 61; refine (specaggok_any _ _ _ _ _).mono ?_; rintro e w' ⟨rfl, hb⟩; obtain ⟨hc, hf, hs⟩ := bcell hb; (try have hz0 := zA hb w.heap.size); (try have hz1 := zA hb (w.heap.size + 1))))
   go_ret
   exact ⟨ret_b (unhide hq).symm, (belB)⟩
 ·have hq : Hid (okRow l mark ky st en an asu ale amo fn fsu fle fmo td tm = false) := hide (by simp [okRow, c0, c1, c2, c3])
  go_enter Tryz.func37, Tryz.ntmps37
  go_wp2_with (first
   | (go_at_call 36; refine (l1In_any _ _ _ _).mono ?_; rintro e' w' ⟨rfl, rfl⟩)
   | (go_at_call 60; refine (specwinok_any _ _ _).mono ?_; rintro e w' ⟨rfl, hb⟩; obtain ⟨hc, hf, hs⟩ := bcell hb; (try have hz0 := zA hb w.heap.size); (try have hz1 := zA hb (w.heap.size + 1)))
   | (go_at_call 61; refine (specaggok_any _ _ _ _ _).mono ?_; rintro e w' ⟨rfl, hb⟩; obtain ⟨hc, hf, hs⟩ := bcell hb; (try have hz0 := zA hb w.heap.size); (try have hz1 := zA hb (w.heap.size + 1))))
  go_ret
  exact ⟨ret_b (unhide hq).symm, (belB)⟩
theorem okRow_pl {l mark : Int} (ky st en an asu ale amo fn fsu fle fmo td : Int) (tm : Bool) : okRow l mark ky st en an asu ale amo fn fsu fle fmo td tm = (okPlace ky st en && okAgg an asu ale amo && okAgg fn fsu fle fmo && inB td 0 1500 && !(an == 0) && decide (fn ≤ an) && decide (mark < en + l) && (tm == decide (en ≤ mark)) && (decide (0 < td) == decide (en ≤ mark)) && ((fn == 0) == decide (en ≤ mark))) := rfl
set_option maxRecDepth 20000 in
set_option maxHeartbeats 4000000 in
theorem rowok_any (ky st en an asu ale amo fn fsu fle fmo td : Int) (tm : Bool) (mark l : Int) (hl : 0 ≤ l ∧ l ≤ 20) (w : World) : Calls Tryz.prog 46 #[.agg #[.int .i64 ky, .int .i64 st, .int .i64 en, .int .i64 an, .int .i64 asu, .int .i64 ale, .int .i64 amo, .int .i64 fn, .int .i64 fsu, .int .i64 fle, .int .i64 fmo, .int .i64 td, .bool tm], .int .i64 mark, .int .i64 l] w fun e' w' => e' = .returned (.bool (okRow l mark ky st en an asu ale amo fn fsu fle fmo td tm)) ∧ Below w.heap.size w w' := by
 cases c0 : okPlace ky st en
 ·have hq : Hid (okRow l mark ky st en an asu ale amo fn fsu fle fmo td tm = false) := hide (by simp [okRow_pl, c0])
  go_enter Tryz.func46, Tryz.ntmps46
  go_wp2_with (first
   | (go_at_call 51; refine (opplace_any _ _ _ _ _ _ _ _ _ _ _ _ _ _).mono ?_; rintro e w' ⟨rfl, hb⟩; obtain ⟨hc, hf, hs⟩ := bcell hb; (try have hz0 := zA hb w.heap.size); (try have hz1 := zA hb (w.heap.size + 1)))
   | (go_at_call 71; refine (placeok_any _ _ _ _).mono ?_; rintro e w' ⟨rfl, hb⟩; obtain ⟨hc, hf, hs⟩ := bcell hb; (try have hz0 := zA hb w.heap.size); (try have hz1 := zA hb (w.heap.size + 1)))
   | (go_at_call 45; refine (within_any _ _ _ _).mono ?_; rintro e' w' ⟨rfl, rfl⟩)
   | (go_at_call 72; refine (aggok_any _ _ _ _ _).mono ?_; rintro e w' ⟨rfl, hb⟩; obtain ⟨hc, hf, hs⟩ := bcell hb; (try have hz0 := zA hb w.heap.size); (try have hz1 := zA hb (w.heap.size + 1))))
  go_ret
  exact ⟨ret_b (unhide hq).symm, (belB)⟩
 have c1 : okWin st en = true := by simp only [okPlace, Bool.and_eq_true] at c0; exact c0.2
 have cc0 : inB ky 0 3 = true := by simp only [okPlace, Bool.and_eq_true] at c0; exact c0.1
 have hen := okWin_en c1
 cases c2 : okAgg an asu ale amo
 ·have hq : Hid (okRow l mark ky st en an asu ale amo fn fsu fle fmo td tm = false) := hide (by simp [okRow_pl, c0, c2])
  go_enter Tryz.func46, Tryz.ntmps46
  go_wp2_with (first
   | (go_at_call 51; refine (opplace_any _ _ _ _ _ _ _ _ _ _ _ _ _ _).mono ?_; rintro e w' ⟨rfl, hb⟩; obtain ⟨hc, hf, hs⟩ := bcell hb; (try have hz0 := zA hb w.heap.size); (try have hz1 := zA hb (w.heap.size + 1)))
   | (go_at_call 71; refine (placeok_any _ _ _ _).mono ?_; rintro e w' ⟨rfl, hb⟩; obtain ⟨hc, hf, hs⟩ := bcell hb; (try have hz0 := zA hb w.heap.size); (try have hz1 := zA hb (w.heap.size + 1)))
   | (go_at_call 45; refine (within_any _ _ _ _).mono ?_; rintro e' w' ⟨rfl, rfl⟩)
   | (go_at_call 72; refine (aggok_any _ _ _ _ _).mono ?_; rintro e w' ⟨rfl, hb⟩; obtain ⟨hc, hf, hs⟩ := bcell hb; (try have hz0 := zA hb w.heap.size); (try have hz1 := zA hb (w.heap.size + 1))))
  go_ret
  exact ⟨ret_b (unhide hq).symm, (belB)⟩
 cases c4 : okAgg fn fsu fle fmo
 ·have hq : Hid (okRow l mark ky st en an asu ale amo fn fsu fle fmo td tm = false) := hide (by simp [okRow_pl, c0, c2, c4])
  go_enter Tryz.func46, Tryz.ntmps46
  go_wp2_with (first
   | (go_at_call 51; refine (opplace_any _ _ _ _ _ _ _ _ _ _ _ _ _ _).mono ?_; rintro e w' ⟨rfl, hb⟩; obtain ⟨hc, hf, hs⟩ := bcell hb; (try have hz0 := zA hb w.heap.size); (try have hz1 := zA hb (w.heap.size + 1)))
   | (go_at_call 71; refine (placeok_any _ _ _ _).mono ?_; rintro e w' ⟨rfl, hb⟩; obtain ⟨hc, hf, hs⟩ := bcell hb; (try have hz0 := zA hb w.heap.size); (try have hz1 := zA hb (w.heap.size + 1)))
   | (go_at_call 45; refine (within_any _ _ _ _).mono ?_; rintro e' w' ⟨rfl, rfl⟩)
   | (go_at_call 72; refine (aggok_any _ _ _ _ _).mono ?_; rintro e w' ⟨rfl, hb⟩; obtain ⟨hc, hf, hs⟩ := bcell hb; (try have hz0 := zA hb w.heap.size); (try have hz1 := zA hb (w.heap.size + 1))))
  go_ret
  exact ⟨ret_b (unhide hq).symm, (belB)⟩
 cases c6 : inB td 0 1500
 ·have hq : Hid (okRow l mark ky st en an asu ale amo fn fsu fle fmo td tm = false) := hide (by simp [okRow_pl, c0, c2, c4, c6])
  go_enter Tryz.func46, Tryz.ntmps46
  go_wp2_with (first
   | (go_at_call 51; refine (opplace_any _ _ _ _ _ _ _ _ _ _ _ _ _ _).mono ?_; rintro e w' ⟨rfl, hb⟩; obtain ⟨hc, hf, hs⟩ := bcell hb; (try have hz0 := zA hb w.heap.size); (try have hz1 := zA hb (w.heap.size + 1)))
   | (go_at_call 71; refine (placeok_any _ _ _ _).mono ?_; rintro e w' ⟨rfl, hb⟩; obtain ⟨hc, hf, hs⟩ := bcell hb; (try have hz0 := zA hb w.heap.size); (try have hz1 := zA hb (w.heap.size + 1)))
   | (go_at_call 45; refine (within_any _ _ _ _).mono ?_; rintro e' w' ⟨rfl, rfl⟩)
   | (go_at_call 72; refine (aggok_any _ _ _ _ _).mono ?_; rintro e w' ⟨rfl, hb⟩; obtain ⟨hc, hf, hs⟩ := bcell hb; (try have hz0 := zA hb w.heap.size); (try have hz1 := zA hb (w.heap.size + 1))))
  go_ret
  exact ⟨ret_b (unhide hq).symm, (belB)⟩
 cases c3 : (an == 0)
 ·by_cases c5 : fn ≤ an
  ·by_cases c7 : mark < en + l
   ·by_cases ov : en ≤ mark
    ·cases tm
     ·have hq : Hid (okRow l mark ky st en an asu ale amo fn fsu fle fmo td false = false) := hide (by simp [okRow_pl, c0, c2, c4, c6, c3, c5, c7, ov])
      go_enter Tryz.func46, Tryz.ntmps46
      go_wp2_with (first
       | (go_at_call 51; refine (opplace_any _ _ _ _ _ _ _ _ _ _ _ _ _ _).mono ?_; rintro e w' ⟨rfl, hb⟩; obtain ⟨hc, hf, hs⟩ := bcell hb; (try have hz0 := zA hb w.heap.size); (try have hz1 := zA hb (w.heap.size + 1)))
       | (go_at_call 71; refine (placeok_any _ _ _ _).mono ?_; rintro e w' ⟨rfl, hb⟩; obtain ⟨hc, hf, hs⟩ := bcell hb; (try have hz0 := zA hb w.heap.size); (try have hz1 := zA hb (w.heap.size + 1)))
       | (go_at_call 45; refine (within_any _ _ _ _).mono ?_; rintro e' w' ⟨rfl, rfl⟩)
       | (go_at_call 72; refine (aggok_any _ _ _ _ _).mono ?_; rintro e w' ⟨rfl, hb⟩; obtain ⟨hc, hf, hs⟩ := bcell hb; (try have hz0 := zA hb w.heap.size); (try have hz1 := zA hb (w.heap.size + 1))))
      go_ret
      exact ⟨ret_b (unhide hq).symm, (belB)⟩
     ·by_cases tp : 0 < td
      ·cases fz : (fn == 0)
       ·have hq : Hid (okRow l mark ky st en an asu ale amo fn fsu fle fmo td true = false) := hide (by simp [okRow_pl, c0, c2, c4, c6, c3, c5, c7, ov, tp, fz])
        go_enter Tryz.func46, Tryz.ntmps46
        go_wp2_with (first
         | (go_at_call 51; refine (opplace_any _ _ _ _ _ _ _ _ _ _ _ _ _ _).mono ?_; rintro e w' ⟨rfl, hb⟩; obtain ⟨hc, hf, hs⟩ := bcell hb; (try have hz0 := zA hb w.heap.size); (try have hz1 := zA hb (w.heap.size + 1)))
         | (go_at_call 71; refine (placeok_any _ _ _ _).mono ?_; rintro e w' ⟨rfl, hb⟩; obtain ⟨hc, hf, hs⟩ := bcell hb; (try have hz0 := zA hb w.heap.size); (try have hz1 := zA hb (w.heap.size + 1)))
         | (go_at_call 45; refine (within_any _ _ _ _).mono ?_; rintro e' w' ⟨rfl, rfl⟩)
         | (go_at_call 72; refine (aggok_any _ _ _ _ _).mono ?_; rintro e w' ⟨rfl, hb⟩; obtain ⟨hc, hf, hs⟩ := bcell hb; (try have hz0 := zA hb w.heap.size); (try have hz1 := zA hb (w.heap.size + 1))))
        go_ret
        exact ⟨ret_b (unhide hq).symm, (belB)⟩
       ·have hq : Hid (okRow l mark ky st en an asu ale amo fn fsu fle fmo td true = true) := hide (by simp [okRow_pl, c0, c2, c4, c6, c3, c5, c7, ov, tp, fz])
        go_enter Tryz.func46, Tryz.ntmps46
        go_wp2_with (first
         | (go_at_call 51; refine (opplace_any _ _ _ _ _ _ _ _ _ _ _ _ _ _).mono ?_; rintro e w' ⟨rfl, hb⟩; obtain ⟨hc, hf, hs⟩ := bcell hb; (try have hz0 := zA hb w.heap.size); (try have hz1 := zA hb (w.heap.size + 1)))
         | (go_at_call 71; refine (placeok_any _ _ _ _).mono ?_; rintro e w' ⟨rfl, hb⟩; obtain ⟨hc, hf, hs⟩ := bcell hb; (try have hz0 := zA hb w.heap.size); (try have hz1 := zA hb (w.heap.size + 1)))
         | (go_at_call 45; refine (within_any _ _ _ _).mono ?_; rintro e' w' ⟨rfl, rfl⟩)
         | (go_at_call 72; refine (aggok_any _ _ _ _ _).mono ?_; rintro e w' ⟨rfl, hb⟩; obtain ⟨hc, hf, hs⟩ := bcell hb; (try have hz0 := zA hb w.heap.size); (try have hz1 := zA hb (w.heap.size + 1))))
        go_ret
        exact ⟨ret_b (by first | exact (unhide hq).symm | (rw [unhide hq]; simp [ov])), (belB)⟩
      ·have hq : Hid (okRow l mark ky st en an asu ale amo fn fsu fle fmo td true = false) := hide (by simp [okRow_pl, c0, c2, c4, c6, c3, c5, c7, ov, tp])
       go_enter Tryz.func46, Tryz.ntmps46
       go_wp2_with (first
        | (go_at_call 51; refine (opplace_any _ _ _ _ _ _ _ _ _ _ _ _ _ _).mono ?_; rintro e w' ⟨rfl, hb⟩; obtain ⟨hc, hf, hs⟩ := bcell hb; (try have hz0 := zA hb w.heap.size); (try have hz1 := zA hb (w.heap.size + 1)))
        | (go_at_call 71; refine (placeok_any _ _ _ _).mono ?_; rintro e w' ⟨rfl, hb⟩; obtain ⟨hc, hf, hs⟩ := bcell hb; (try have hz0 := zA hb w.heap.size); (try have hz1 := zA hb (w.heap.size + 1)))
        | (go_at_call 45; refine (within_any _ _ _ _).mono ?_; rintro e' w' ⟨rfl, rfl⟩)
        | (go_at_call 72; refine (aggok_any _ _ _ _ _).mono ?_; rintro e w' ⟨rfl, hb⟩; obtain ⟨hc, hf, hs⟩ := bcell hb; (try have hz0 := zA hb w.heap.size); (try have hz1 := zA hb (w.heap.size + 1))))
       go_ret
       exact ⟨ret_b (unhide hq).symm, (belB)⟩
    ·cases tm
     ·by_cases tp : 0 < td
      ·have hq : Hid (okRow l mark ky st en an asu ale amo fn fsu fle fmo td false = false) := hide (by simp [okRow_pl, c0, c2, c4, c6, c3, c5, c7, ov, tp])
       go_enter Tryz.func46, Tryz.ntmps46
       go_wp2_with (first
        | (go_at_call 51; refine (opplace_any _ _ _ _ _ _ _ _ _ _ _ _ _ _).mono ?_; rintro e w' ⟨rfl, hb⟩; obtain ⟨hc, hf, hs⟩ := bcell hb; (try have hz0 := zA hb w.heap.size); (try have hz1 := zA hb (w.heap.size + 1)))
        | (go_at_call 71; refine (placeok_any _ _ _ _).mono ?_; rintro e w' ⟨rfl, hb⟩; obtain ⟨hc, hf, hs⟩ := bcell hb; (try have hz0 := zA hb w.heap.size); (try have hz1 := zA hb (w.heap.size + 1)))
        | (go_at_call 45; refine (within_any _ _ _ _).mono ?_; rintro e' w' ⟨rfl, rfl⟩)
        | (go_at_call 72; refine (aggok_any _ _ _ _ _).mono ?_; rintro e w' ⟨rfl, hb⟩; obtain ⟨hc, hf, hs⟩ := bcell hb; (try have hz0 := zA hb w.heap.size); (try have hz1 := zA hb (w.heap.size + 1))))
       go_ret
       exact ⟨ret_b (unhide hq).symm, (belB)⟩
      ·cases fz : (fn == 0)
       ·have hq : Hid (okRow l mark ky st en an asu ale amo fn fsu fle fmo td false = true) := hide (by simp [okRow_pl, c0, c2, c4, c6, c3, c5, c7, ov, tp, fz])
        go_enter Tryz.func46, Tryz.ntmps46
        go_wp2_with (first
         | (go_at_call 51; refine (opplace_any _ _ _ _ _ _ _ _ _ _ _ _ _ _).mono ?_; rintro e w' ⟨rfl, hb⟩; obtain ⟨hc, hf, hs⟩ := bcell hb; (try have hz0 := zA hb w.heap.size); (try have hz1 := zA hb (w.heap.size + 1)))
         | (go_at_call 71; refine (placeok_any _ _ _ _).mono ?_; rintro e w' ⟨rfl, hb⟩; obtain ⟨hc, hf, hs⟩ := bcell hb; (try have hz0 := zA hb w.heap.size); (try have hz1 := zA hb (w.heap.size + 1)))
         | (go_at_call 45; refine (within_any _ _ _ _).mono ?_; rintro e' w' ⟨rfl, rfl⟩)
         | (go_at_call 72; refine (aggok_any _ _ _ _ _).mono ?_; rintro e w' ⟨rfl, hb⟩; obtain ⟨hc, hf, hs⟩ := bcell hb; (try have hz0 := zA hb w.heap.size); (try have hz1 := zA hb (w.heap.size + 1))))
        go_ret
        exact ⟨ret_b (by first | exact (unhide hq).symm | (rw [unhide hq]; simp [ov])), (belB)⟩
       ·have hq : Hid (okRow l mark ky st en an asu ale amo fn fsu fle fmo td false = false) := hide (by simp [okRow_pl, c0, c2, c4, c6, c3, c5, c7, ov, tp, fz])
        go_enter Tryz.func46, Tryz.ntmps46
        go_wp2_with (first
         | (go_at_call 51; refine (opplace_any _ _ _ _ _ _ _ _ _ _ _ _ _ _).mono ?_; rintro e w' ⟨rfl, hb⟩; obtain ⟨hc, hf, hs⟩ := bcell hb; (try have hz0 := zA hb w.heap.size); (try have hz1 := zA hb (w.heap.size + 1)))
         | (go_at_call 71; refine (placeok_any _ _ _ _).mono ?_; rintro e w' ⟨rfl, hb⟩; obtain ⟨hc, hf, hs⟩ := bcell hb; (try have hz0 := zA hb w.heap.size); (try have hz1 := zA hb (w.heap.size + 1)))
         | (go_at_call 45; refine (within_any _ _ _ _).mono ?_; rintro e' w' ⟨rfl, rfl⟩)
         | (go_at_call 72; refine (aggok_any _ _ _ _ _).mono ?_; rintro e w' ⟨rfl, hb⟩; obtain ⟨hc, hf, hs⟩ := bcell hb; (try have hz0 := zA hb w.heap.size); (try have hz1 := zA hb (w.heap.size + 1))))
        go_ret
        exact ⟨ret_b (unhide hq).symm, (belB)⟩
     ·have hq : Hid (okRow l mark ky st en an asu ale amo fn fsu fle fmo td true = false) := hide (by simp [okRow_pl, c0, c2, c4, c6, c3, c5, c7, ov])
      go_enter Tryz.func46, Tryz.ntmps46
      go_wp2_with (first
       | (go_at_call 51; refine (opplace_any _ _ _ _ _ _ _ _ _ _ _ _ _ _).mono ?_; rintro e w' ⟨rfl, hb⟩; obtain ⟨hc, hf, hs⟩ := bcell hb; (try have hz0 := zA hb w.heap.size); (try have hz1 := zA hb (w.heap.size + 1)))
       | (go_at_call 71; refine (placeok_any _ _ _ _).mono ?_; rintro e w' ⟨rfl, hb⟩; obtain ⟨hc, hf, hs⟩ := bcell hb; (try have hz0 := zA hb w.heap.size); (try have hz1 := zA hb (w.heap.size + 1)))
       | (go_at_call 45; refine (within_any _ _ _ _).mono ?_; rintro e' w' ⟨rfl, rfl⟩)
       | (go_at_call 72; refine (aggok_any _ _ _ _ _).mono ?_; rintro e w' ⟨rfl, hb⟩; obtain ⟨hc, hf, hs⟩ := bcell hb; (try have hz0 := zA hb w.heap.size); (try have hz1 := zA hb (w.heap.size + 1))))
      go_ret
      exact ⟨ret_b (unhide hq).symm, (belB)⟩
   ·have hq : Hid (okRow l mark ky st en an asu ale amo fn fsu fle fmo td tm = false) := hide (by simp [okRow_pl, c0, c2, c4, c6, c3, c5, c7])
    go_enter Tryz.func46, Tryz.ntmps46
    go_wp2_with (first
     | (go_at_call 51; refine (opplace_any _ _ _ _ _ _ _ _ _ _ _ _ _ _).mono ?_; rintro e w' ⟨rfl, hb⟩; obtain ⟨hc, hf, hs⟩ := bcell hb; (try have hz0 := zA hb w.heap.size); (try have hz1 := zA hb (w.heap.size + 1)))
     | (go_at_call 71; refine (placeok_any _ _ _ _).mono ?_; rintro e w' ⟨rfl, hb⟩; obtain ⟨hc, hf, hs⟩ := bcell hb; (try have hz0 := zA hb w.heap.size); (try have hz1 := zA hb (w.heap.size + 1)))
     | (go_at_call 45; refine (within_any _ _ _ _).mono ?_; rintro e' w' ⟨rfl, rfl⟩)
     | (go_at_call 72; refine (aggok_any _ _ _ _ _).mono ?_; rintro e w' ⟨rfl, hb⟩; obtain ⟨hc, hf, hs⟩ := bcell hb; (try have hz0 := zA hb w.heap.size); (try have hz1 := zA hb (w.heap.size + 1))))
    go_ret
    exact ⟨ret_b (unhide hq).symm, (belB)⟩
  ·have hq : Hid (okRow l mark ky st en an asu ale amo fn fsu fle fmo td tm = false) := hide (by simp [okRow_pl, c0, c2, c4, c6, c3, c5])
   go_enter Tryz.func46, Tryz.ntmps46
   go_wp2_with (first
    | (go_at_call 51; refine (opplace_any _ _ _ _ _ _ _ _ _ _ _ _ _ _).mono ?_; rintro e w' ⟨rfl, hb⟩; obtain ⟨hc, hf, hs⟩ := bcell hb; (try have hz0 := zA hb w.heap.size); (try have hz1 := zA hb (w.heap.size + 1)))
    | (go_at_call 71; refine (placeok_any _ _ _ _).mono ?_; rintro e w' ⟨rfl, hb⟩; obtain ⟨hc, hf, hs⟩ := bcell hb; (try have hz0 := zA hb w.heap.size); (try have hz1 := zA hb (w.heap.size + 1)))
    | (go_at_call 45; refine (within_any _ _ _ _).mono ?_; rintro e' w' ⟨rfl, rfl⟩)
    | (go_at_call 72; refine (aggok_any _ _ _ _ _).mono ?_; rintro e w' ⟨rfl, hb⟩; obtain ⟨hc, hf, hs⟩ := bcell hb; (try have hz0 := zA hb w.heap.size); (try have hz1 := zA hb (w.heap.size + 1))))
   go_ret
   exact ⟨ret_b (unhide hq).symm, (belB)⟩
 ·have hq : Hid (okRow l mark ky st en an asu ale amo fn fsu fle fmo td tm = false) := hide (by simp [okRow_pl, c0, c2, c4, c6, c3])
  go_enter Tryz.func46, Tryz.ntmps46
  go_wp2_with (first
   | (go_at_call 51; refine (opplace_any _ _ _ _ _ _ _ _ _ _ _ _ _ _).mono ?_; rintro e w' ⟨rfl, hb⟩; obtain ⟨hc, hf, hs⟩ := bcell hb; (try have hz0 := zA hb w.heap.size); (try have hz1 := zA hb (w.heap.size + 1)))
   | (go_at_call 71; refine (placeok_any _ _ _ _).mono ?_; rintro e w' ⟨rfl, hb⟩; obtain ⟨hc, hf, hs⟩ := bcell hb; (try have hz0 := zA hb w.heap.size); (try have hz1 := zA hb (w.heap.size + 1)))
   | (go_at_call 45; refine (within_any _ _ _ _).mono ?_; rintro e' w' ⟨rfl, rfl⟩)
   | (go_at_call 72; refine (aggok_any _ _ _ _ _).mono ?_; rintro e w' ⟨rfl, hb⟩; obtain ⟨hc, hf, hs⟩ := bcell hb; (try have hz0 := zA hb w.heap.size); (try have hz1 := zA hb (w.heap.size + 1))))
  go_ret
  exact ⟨ret_b (unhide hq).symm, (belB)⟩
/-- Whether two windows touch. -/
def touchB (a b c d : Int) : Bool := decide (a < d) && decide (c < b)
theorem hd_2_2 {b0 b1 a0 a1 c0 c1 : Nat} {k0 k1 l0 l1 : Value} {W W' : World} (h : ((W.cell? ⟨b0, a0, none⟩ = some k0 ∧ W.cell? ⟨b0, a1, none⟩ = some k1 ∧ W.cell? ⟨b1, c0, none⟩ = some l0 ∧ W.cell? ⟨b1, c1, none⟩ = some l1) ∧ b0 < W.heap.size ∧ b1 < W.heap.size)) (hb : Below W.heap.size W W') : ((W'.cell? ⟨b0, a0, none⟩ = some k0 ∧ W'.cell? ⟨b0, a1, none⟩ = some k1 ∧ W'.cell? ⟨b1, c0, none⟩ = some l0 ∧ W'.cell? ⟨b1, c1, none⟩ = some l1) ∧ b0 < W'.heap.size ∧ b1 < W'.heap.size) := by
 obtain ⟨h99, s0, s1⟩ := h
 have e0 : ∀ z, W'.cell? ⟨b0, z, none⟩ = W.cell? ⟨b0, z, none⟩ := fun z => hb.cell s0
 have e1 : ∀ z, W'.cell? ⟨b1, z, none⟩ = W.cell? ⟨b1, z, none⟩ := fun z => hb.cell s1
 refine ⟨?_, Nat.lt_of_lt_of_le s0 hb.size, Nat.lt_of_lt_of_le s1 hb.size⟩
 simp only [e0, e1]
 exact h99
theorem hd_2_2_set {b0 b1 a0 a1 c0 c1 : Nat} {k0 k1 l0 l1 : Value} {W : World} {p : Addr} (h : ((W.cell? ⟨b0, a0, none⟩ = some k0 ∧ W.cell? ⟨b0, a1, none⟩ = some k1 ∧ W.cell? ⟨b1, c0, none⟩ = some l0 ∧ W.cell? ⟨b1, c1, none⟩ = some l1) ∧ b0 < W.heap.size ∧ b1 < W.heap.size)) (p0 : p.block ≠ b0) (p1 : p.block ≠ b1) (u : Value) : (((W.setCell p u).cell? ⟨b0, a0, none⟩ = some k0 ∧ (W.setCell p u).cell? ⟨b0, a1, none⟩ = some k1 ∧ (W.setCell p u).cell? ⟨b1, c0, none⟩ = some l0 ∧ (W.setCell p u).cell? ⟨b1, c1, none⟩ = some l1) ∧ b0 < (W.setCell p u).heap.size ∧ b1 < (W.setCell p u).heap.size) := by
 obtain ⟨h99, s0, s1⟩ := h
 have hb : W.heap.size ≤ (W.setCell p u).heap.size := by simp [World.setCell]
 have e0 : ∀ z, (W.setCell p u).cell? ⟨b0, z, none⟩ = W.cell? ⟨b0, z, none⟩ := fun z => cell_set_ne p0
 have e1 : ∀ z, (W.setCell p u).cell? ⟨b1, z, none⟩ = W.cell? ⟨b1, z, none⟩ := fun z => cell_set_ne p1
 refine ⟨?_, Nat.lt_of_lt_of_le s0 hb, Nat.lt_of_lt_of_le s1 hb⟩
 simp only [e0, e1]
 exact h99
theorem hd_2_2_re {b0 b1 a0 a1 c0 c1 : Nat} {k0 k1 l0 l1 : Value} {W : World} {o o' : Obj} (h : (((W.alloc o).cell? ⟨b0, a0, none⟩ = some k0 ∧ (W.alloc o).cell? ⟨b0, a1, none⟩ = some k1 ∧ (W.alloc o).cell? ⟨b1, c0, none⟩ = some l0 ∧ (W.alloc o).cell? ⟨b1, c1, none⟩ = some l1) ∧ b0 < (W.alloc o).heap.size ∧ b1 < (W.alloc o).heap.size)) (p0 : b0 < W.heap.size) (p1 : b1 < W.heap.size) : (((W.alloc o').cell? ⟨b0, a0, none⟩ = some k0 ∧ (W.alloc o').cell? ⟨b0, a1, none⟩ = some k1 ∧ (W.alloc o').cell? ⟨b1, c0, none⟩ = some l0 ∧ (W.alloc o').cell? ⟨b1, c1, none⟩ = some l1) ∧ b0 < (W.alloc o').heap.size ∧ b1 < (W.alloc o').heap.size) := by
 obtain ⟨h99, s0, s1⟩ := h
 have hb : Below W.heap.size (W.alloc o) (W.alloc o') := bel_re W o o'
 have e0 : ∀ z, (W.alloc o').cell? ⟨b0, z, none⟩ = (W.alloc o).cell? ⟨b0, z, none⟩ := fun z => hb.cell p0
 have e1 : ∀ z, (W.alloc o').cell? ⟨b1, z, none⟩ = (W.alloc o).cell? ⟨b1, z, none⟩ := fun z => hb.cell p1
 refine ⟨?_, Nat.lt_of_lt_of_le s0 hb.size, Nat.lt_of_lt_of_le s1 hb.size⟩
 simp only [e0, e1]
 exact h99
theorem touches_any (a b c d : Int) (w : World) : Calls Tryz.prog 73 #[.agg #[.int .i64 a, .int .i64 b], .agg #[.int .i64 c, .int .i64 d]] w fun e w' => e = .returned (.bool (touchB a b c d)) ∧ Below w.heap.size w w' := by
 by_cases h1 : a < d
 ·by_cases h2 : c < b
  ·have h3 : Hid (touchB a b c d = true) := hide (by simp only [touchB]; simp [h1, h2])
   go_enter Tryz.func73, Tryz.ntmps73
   go_wp2
   go_ret
   exact ⟨ret_b (unhide h3).symm, bel_alloc (bel_one _ _) _⟩
  ·have h3 : Hid (touchB a b c d = false) := hide (by simp only [touchB]; simp [h1, h2])
   go_enter Tryz.func73, Tryz.ntmps73
   go_wp2
   go_ret
   exact ⟨ret_b (unhide h3).symm, bel_alloc (bel_one _ _) _⟩
 ·have h3 : Hid (touchB a b c d = false) := hide (by simp only [touchB]; simp [h1])
  go_enter Tryz.func73, Tryz.ntmps73
  go_wp2
  go_ret
  exact ⟨ret_b (unhide h3).symm, bel_alloc (bel_one _ _) _⟩
theorem spectouch_any (a b c d : Int) (w : World) : Calls Tryz.prog 39 #[.agg #[.int .i64 a, .int .i64 b], .agg #[.int .i64 c, .int .i64 d]] w fun e w' => e = .returned (.bool (touchB a b c d)) ∧ Below w.heap.size w w' := by
 by_cases h1 : a < d
 ·by_cases h2 : c < b
  ·have h3 : Hid (touchB a b c d = true) := hide (by simp only [touchB]; simp [h1, h2])
   go_enter Tryz.func39, Tryz.ntmps39
   go_wp2
   go_ret
   exact ⟨ret_b (unhide h3).symm, bel_alloc (bel_one _ _) _⟩
  ·have h3 : Hid (touchB a b c d = false) := hide (by simp only [touchB]; simp [h1, h2])
   go_enter Tryz.func39, Tryz.ntmps39
   go_wp2
   go_ret
   exact ⟨ret_b (unhide h3).symm, bel_alloc (bel_one _ _) _⟩
 ·have h3 : Hid (touchB a b c d = false) := hide (by simp only [touchB]; simp [h1])
  go_enter Tryz.func39, Tryz.ntmps39
  go_wp2
  go_ret
  exact ⟨ret_b (unhide h3).symm, bel_alloc (bel_one _ _) _⟩
theorem ret_agg2 {a b c d : Int} (h : a = c) (k : b = d) : Ending.returned (.agg #[.int .i64 a, .int .i64 b]) = .returned (.agg #[.int .i64 c, .int .i64 d]) := by rw [h, k]
theorem span_any (a b c d : Int) (w : World) : Calls Tryz.prog 80 #[.agg #[.int .i64 a, .int .i64 b], .agg #[.int .i64 c, .int .i64 d]] w fun e w' => e = .returned (.agg #[.int .i64 (loI a c), .int .i64 (hiI b d)]) ∧ Below w.heap.size w w' := by
 by_cases h1 : c < a <;> by_cases h2 : b < d
 ·have h3 := hide (loI_c h1)
  have h4 := hide (hiI_d h2)
  go_enter Tryz.func80, Tryz.ntmps80
  go_wp2
  refine bodyPost_ret (v := .agg #[.int .i64 c, .int .i64 d]) (by simp [results, Tryz.results80, go_sem] <;> omega) rfl ⟨ret_agg2 (unhide h3).symm (unhide h4).symm, ?_⟩
  exact (belC)
 ·have h3 := hide (loI_c h1)
  have h4 := hide (hiI_b h2)
  go_enter Tryz.func80, Tryz.ntmps80
  go_wp2
  refine bodyPost_ret (v := .agg #[.int .i64 c, .int .i64 b]) (by simp [results, Tryz.results80, go_sem] <;> omega) rfl ⟨ret_agg2 (unhide h3).symm (unhide h4).symm, ?_⟩
  exact (belC)
 ·have h3 := hide (loI_a h1)
  have h4 := hide (hiI_d h2)
  go_enter Tryz.func80, Tryz.ntmps80
  go_wp2
  refine bodyPost_ret (v := .agg #[.int .i64 a, .int .i64 d]) (by simp [results, Tryz.results80, go_sem] <;> omega) rfl ⟨ret_agg2 (unhide h3).symm (unhide h4).symm, ?_⟩
  exact (belC)
 ·have h3 := hide (loI_a h1)
  have h4 := hide (hiI_b h2)
  go_enter Tryz.func80, Tryz.ntmps80
  go_wp2
  refine bodyPost_ret (v := .agg #[.int .i64 a, .int .i64 b]) (by simp [results, Tryz.results80, go_sem] <;> omega) rfl ⟨ret_agg2 (unhide h3).symm (unhide h4).symm, ?_⟩
  exact (belC)
theorem specspan_any (a b c d : Int) (w : World) : Calls Tryz.prog 64 #[.agg #[.int .i64 a, .int .i64 b], .agg #[.int .i64 c, .int .i64 d]] w fun e w' => e = .returned (.agg #[.int .i64 (loI a c), .int .i64 (hiI b d)]) ∧ Below w.heap.size w w' := by
 by_cases h1 : c < a <;> by_cases h2 : b < d
 ·have h3 := hide (loI_c h1)
  have h4 := hide (hiI_d h2)
  go_enter Tryz.func64, Tryz.ntmps64
  go_wp2
  refine bodyPost_ret (v := .agg #[.int .i64 c, .int .i64 d]) (by simp [results, Tryz.results64, go_sem] <;> omega) rfl ⟨ret_agg2 (unhide h3).symm (unhide h4).symm, ?_⟩
  exact (belC)
 ·have h3 := hide (loI_c h1)
  have h4 := hide (hiI_b h2)
  go_enter Tryz.func64, Tryz.ntmps64
  go_wp2
  refine bodyPost_ret (v := .agg #[.int .i64 c, .int .i64 b]) (by simp [results, Tryz.results64, go_sem] <;> omega) rfl ⟨ret_agg2 (unhide h3).symm (unhide h4).symm, ?_⟩
  exact (belC)
 ·have h3 := hide (loI_a h1)
  have h4 := hide (hiI_d h2)
  go_enter Tryz.func64, Tryz.ntmps64
  go_wp2
  refine bodyPost_ret (v := .agg #[.int .i64 a, .int .i64 d]) (by simp [results, Tryz.results64, go_sem] <;> omega) rfl ⟨ret_agg2 (unhide h3).symm (unhide h4).symm, ?_⟩
  exact (belC)
 ·have h3 := hide (loI_a h1)
  have h4 := hide (hiI_b h2)
  go_enter Tryz.func64, Tryz.ntmps64
  go_wp2
  refine bodyPost_ret (v := .agg #[.int .i64 a, .int .i64 b]) (by simp [results, Tryz.results64, go_sem] <;> omega) rfl ⟨ret_agg2 (unhide h3).symm (unhide h4).symm, ?_⟩
  exact (belC)
theorem ret_pb {a b : Bool} (h : b = a) : Ending.returned (.bool a) = .returned (.bool b) := by rw [h]
/-- Whether a window of a key is ahead of another one. -/
def aheadP (ky st en ky' st' en' : Int) : Bool := decide (plCmp ky st en ky' st' en' < 0)
theorem aheadP_ky {ky st en ky' st' en' : Int} (h : ¬ ky = ky') : aheadP ky st en ky' st' en' = decide (ky < ky') := by
 unfold aheadP plCmp orI cmpI
 by_cases h1 : ky < ky'
 ·simp [h1]
 ·have h2 : ky' < ky := by omega
  simp [h1, h2]
theorem aheadP_st {ky st en st' en' : Int} (h2 : ¬ st = st') : aheadP ky st en ky st' en' = decide (st < st') := by
 unfold aheadP plCmp orI cmpI
 by_cases h1 : st < st'
 ·simp [h1]
 ·have h3 : st' < st := by omega
  simp [h1, h3]
theorem aheadP_en {ky st en en' : Int} : aheadP ky st en ky st en' = decide (en < en') := by
 unfold aheadP plCmp orI cmpI
 by_cases h1 : en < en'
 ·simp [h1]
 ·by_cases h3 : en' < en
  ·simp [h1, h3]
  ·simp [h1, h3]
/-- Whether a window is ahead of another one. -/
def lessW (st en st' en' : Int) : Bool := if st = st' then decide (en < en') else decide (st < st')
theorem l2less_any (st en st' en' : Int) (w : World) : Calls Tryz.prog 62 #[.agg #[.int .i64 st, .int .i64 en], .agg #[.int .i64 st', .int .i64 en']] w fun e w' => e = .returned (.bool (lessW st en st' en')) ∧ Below w.heap.size w w' := by
 by_cases h : st = st'
 ·have hq : lessW st en st' en' = decide (en < en') := if_pos h
  have HQ := hide hq
  have h' : (st == st') = true := by simpa using h
  clear hq
  go_enter Tryz.func62, Tryz.ntmps62
  go_wp2
  go_ret
  exact ⟨ret_pb (unhide HQ), (belA)⟩
 ·have hq : lessW st en st' en' = decide (st < st') := if_neg h
  have HQ := hide hq
  have h' : (st == st') = false := by simpa using h
  clear hq
  go_enter Tryz.func62, Tryz.ntmps62
  go_wp2
  go_ret
  exact ⟨ret_pb (unhide HQ), (belA)⟩
theorem ahead_kP {ky st en st' en' : Int} : lessW st en st' en' = aheadP ky st en ky st' en' := by
 unfold lessW
 by_cases h2 : st = st'
 ·subst h2; rw [if_pos rfl, aheadP_en]
 ·rw [if_neg h2, aheadP_st h2]
theorem l5aheadP_any (ky st en ky' st' en' : Int) (w : World) : Calls Tryz.prog 38 #[.int .i64 ky, .agg #[.int .i64 st, .int .i64 en], .int .i64 ky', .agg #[.int .i64 st', .int .i64 en']] w fun e w' => e = .returned (.bool (aheadP ky st en ky' st' en')) ∧ Below w.heap.size w w' := by
 by_cases h : ky = ky'
 ·subst h
  have HQ := hide (ahead_kP (ky := ky) (st := st) (en := en) (st' := st') (en' := en')).symm
  go_enter Tryz.func38, Tryz.ntmps38
  go_wp2_with (go_at_call 62; refine (l2less_any _ _ _ _ _).mono ?_; rintro e w' ⟨rfl, hb⟩)
  go_ret
  exact ⟨ret_pb (unhide HQ), (belA)⟩
 ·have HQ := hide (aheadP_ky (st := st) (en := en) (st' := st') (en' := en') h)
  have h' : (ky == ky') = false := by simpa using h
  go_enter Tryz.func38, Tryz.ntmps38
  go_wp2
  go_ret
  exact ⟨ret_pb (unhide HQ), (belA)⟩
/-- Whether a row may stand behind another one. -/
def nextP (kd ky st en ky' st' en' : Int) : Bool := !(kd == 3 && (ky == ky' && touchB st en st' en')) && aheadP ky' st' en' ky st en
set_option maxRecDepth 20000 in
set_option maxHeartbeats 4000000 in
theorem behind_any (ky st en an asu ale amo fn fsu fle fmo td : Int) (tm : Bool) (ky' st' en' an' asu' ale' amo' fn' fsu' fle' fmo' td' : Int) (tm' : Bool) (kd : Int) (w : World) : Calls Tryz.prog 47 #[.agg #[.int .i64 ky, .int .i64 st, .int .i64 en, .int .i64 an, .int .i64 asu, .int .i64 ale, .int .i64 amo, .int .i64 fn, .int .i64 fsu, .int .i64 fle, .int .i64 fmo, .int .i64 td, .bool tm], .agg #[.int .i64 ky', .int .i64 st', .int .i64 en', .int .i64 an', .int .i64 asu', .int .i64 ale', .int .i64 amo', .int .i64 fn', .int .i64 fsu', .int .i64 fle', .int .i64 fmo', .int .i64 td', .bool tm'], .int .i64 kd] w fun e' w' => e' = .returned (.bool (nextP kd ky st en ky' st' en')) ∧ Below w.heap.size w w' := by
 cases c0 : (kd == 3)
 ·have hq : Hid (nextP kd ky st en ky' st' en' = decide (plCmp ky' st' en' ky st en < 0)) := hide (by simp [nextP, c0, aheadP])
  go_enter Tryz.func47, Tryz.ntmps47
  go_wp2_with (first
   | (go_at_call 73; refine (touches_any _ _ _ _ _).mono ?_; rintro e w' ⟨rfl, hb⟩; obtain ⟨hc, hf, hs⟩ := bcell hb; (try have hz0 := zA hb w.heap.size); (try have hz1 := zA hb (w.heap.size + 1)))
   | (go_at_call 51; refine (opplace_any _ _ _ _ _ _ _ _ _ _ _ _ _ _).mono ?_; rintro e w' ⟨rfl, hb⟩; obtain ⟨hc, hf, hs⟩ := bcell hb; (try have hz0 := zA hb w.heap.size); (try have hz1 := zA hb (w.heap.size + 1)))
   | (go_at_call 74; refine (compare_any _ _ _ _ _ _ _).mono ?_; rintro e w' ⟨rfl, hb⟩; obtain ⟨hc, hf, hs⟩ := bcell hb; (try have hz0 := zA hb w.heap.size); (try have hz1 := zA hb (w.heap.size + 1))))
  go_region_held3 (fun W => ((W.cell? ⟨w.heap.size, 0, none⟩ = some (.int .i64 ky) ∧ W.cell? ⟨w.heap.size, 1, none⟩ = some (.int .i64 st) ∧ W.cell? ⟨w.heap.size, 2, none⟩ = some (.int .i64 en) ∧ W.cell? ⟨w.heap.size, 3, none⟩ = some (.int .i64 an) ∧ W.cell? ⟨w.heap.size, 4, none⟩ = some (.int .i64 asu) ∧ W.cell? ⟨w.heap.size, 5, none⟩ = some (.int .i64 ale) ∧ W.cell? ⟨w.heap.size, 6, none⟩ = some (.int .i64 amo) ∧ W.cell? ⟨w.heap.size, 7, none⟩ = some (.int .i64 fn) ∧ W.cell? ⟨w.heap.size, 8, none⟩ = some (.int .i64 fsu) ∧ W.cell? ⟨w.heap.size, 9, none⟩ = some (.int .i64 fle) ∧ W.cell? ⟨w.heap.size, 10, none⟩ = some (.int .i64 fmo) ∧ W.cell? ⟨w.heap.size, 11, none⟩ = some (.int .i64 td) ∧ W.cell? ⟨w.heap.size, 12, none⟩ = some (.bool tm) ∧ W.cell? ⟨w.heap.size + 1, 0, none⟩ = some (.int .i64 ky') ∧ W.cell? ⟨w.heap.size + 1, 1, none⟩ = some (.int .i64 st') ∧ W.cell? ⟨w.heap.size + 1, 2, none⟩ = some (.int .i64 en') ∧ W.cell? ⟨w.heap.size + 1, 3, none⟩ = some (.int .i64 an') ∧ W.cell? ⟨w.heap.size + 1, 4, none⟩ = some (.int .i64 asu') ∧ W.cell? ⟨w.heap.size + 1, 5, none⟩ = some (.int .i64 ale') ∧ W.cell? ⟨w.heap.size + 1, 6, none⟩ = some (.int .i64 amo') ∧ W.cell? ⟨w.heap.size + 1, 7, none⟩ = some (.int .i64 fn') ∧ W.cell? ⟨w.heap.size + 1, 8, none⟩ = some (.int .i64 fsu') ∧ W.cell? ⟨w.heap.size + 1, 9, none⟩ = some (.int .i64 fle') ∧ W.cell? ⟨w.heap.size + 1, 10, none⟩ = some (.int .i64 fmo') ∧ W.cell? ⟨w.heap.size + 1, 11, none⟩ = some (.int .i64 td') ∧ W.cell? ⟨w.heap.size + 1, 12, none⟩ = some (.bool tm')) ∧ w.heap.size < W.heap.size ∧ w.heap.size + 1 < W.heap.size)) ((first | ((repeat (first | (with_reducible assumption) | (with_reducible refine hd_13_13 ?_ (by with_reducible assumption)) | (with_reducible refine hd_13_13 ?_ (bel_drew (Below.refl _ _))) | (with_reducible exact hd_13_13_re (by with_reducible assumption) (sB) (sB)) | (with_reducible refine hd_13_13 ?_ (bel_one _ _)) | (with_reducible refine hd_13_13_set ?_ (sB) (sB) _))); done) | (refine ⟨⟨?_, ?_, ?_, ?_, ?_, ?_, ?_, ?_, ?_, ?_, ?_, ?_, ?_, ?_, ?_, ?_, ?_, ?_, ?_, ?_, ?_, ?_, ?_, ?_, ?_, ?_⟩, ?_, ?_⟩ <;> first | (go_keep; done) | (simp; done) | (simp; omega) | omega)))
   (first
   | (go_at_call 73; refine (touches_any _ _ _ _ _).mono ?_; rintro e w' ⟨rfl, hb⟩; obtain ⟨hc, hf, hs⟩ := bcell hb)
   | (go_at_call 51; refine (opplace_any _ _ _ _ _ _ _ _ _ _ _ _ _ _).mono ?_; rintro e w' ⟨rfl, hb⟩; obtain ⟨hc, hf, hs⟩ := bcell hb)
   | (go_at_call 74; refine (compare_any _ _ _ _ _ _ _).mono ?_; rintro e w' ⟨rfl, hb⟩; obtain ⟨hc, hf, hs⟩ := bcell hb))
  all_goals
   go_wp2_with (first
    | (go_at_call 73; refine (touches_any _ _ _ _ _).mono ?_; rintro e w' ⟨rfl, hb⟩; obtain ⟨hc, hf, hs⟩ := bcell hb; (try have hz0 := zA hb w.heap.size); (try have hz1 := zA hb (w.heap.size + 1)))
    | (go_at_call 51; refine (opplace_any _ _ _ _ _ _ _ _ _ _ _ _ _ _).mono ?_; rintro e w' ⟨rfl, hb⟩; obtain ⟨hc, hf, hs⟩ := bcell hb; (try have hz0 := zA hb w.heap.size); (try have hz1 := zA hb (w.heap.size + 1)))
    | (go_at_call 74; refine (compare_any _ _ _ _ _ _ _).mono ?_; rintro e w' ⟨rfl, hb⟩; obtain ⟨hc, hf, hs⟩ := bcell hb; (try have hz0 := zA hb w.heap.size); (try have hz1 := zA hb (w.heap.size + 1))))
   go_ret
   exact ⟨ret_b (unhide hq).symm, (belB)⟩
 ·cases c1 : (ky == ky')
  ·have hq : Hid (nextP kd ky st en ky' st' en' = decide (plCmp ky' st' en' ky st en < 0)) := hide (by simp [nextP, c1, aheadP])
   go_enter Tryz.func47, Tryz.ntmps47
   go_wp2_with (first
    | (go_at_call 73; refine (touches_any _ _ _ _ _).mono ?_; rintro e w' ⟨rfl, hb⟩; obtain ⟨hc, hf, hs⟩ := bcell hb; (try have hz0 := zA hb w.heap.size); (try have hz1 := zA hb (w.heap.size + 1)))
    | (go_at_call 51; refine (opplace_any _ _ _ _ _ _ _ _ _ _ _ _ _ _).mono ?_; rintro e w' ⟨rfl, hb⟩; obtain ⟨hc, hf, hs⟩ := bcell hb; (try have hz0 := zA hb w.heap.size); (try have hz1 := zA hb (w.heap.size + 1)))
    | (go_at_call 74; refine (compare_any _ _ _ _ _ _ _).mono ?_; rintro e w' ⟨rfl, hb⟩; obtain ⟨hc, hf, hs⟩ := bcell hb; (try have hz0 := zA hb w.heap.size); (try have hz1 := zA hb (w.heap.size + 1))))
   go_region_held3 (fun W => ((W.cell? ⟨w.heap.size, 0, none⟩ = some (.int .i64 ky) ∧ W.cell? ⟨w.heap.size, 1, none⟩ = some (.int .i64 st) ∧ W.cell? ⟨w.heap.size, 2, none⟩ = some (.int .i64 en) ∧ W.cell? ⟨w.heap.size, 3, none⟩ = some (.int .i64 an) ∧ W.cell? ⟨w.heap.size, 4, none⟩ = some (.int .i64 asu) ∧ W.cell? ⟨w.heap.size, 5, none⟩ = some (.int .i64 ale) ∧ W.cell? ⟨w.heap.size, 6, none⟩ = some (.int .i64 amo) ∧ W.cell? ⟨w.heap.size, 7, none⟩ = some (.int .i64 fn) ∧ W.cell? ⟨w.heap.size, 8, none⟩ = some (.int .i64 fsu) ∧ W.cell? ⟨w.heap.size, 9, none⟩ = some (.int .i64 fle) ∧ W.cell? ⟨w.heap.size, 10, none⟩ = some (.int .i64 fmo) ∧ W.cell? ⟨w.heap.size, 11, none⟩ = some (.int .i64 td) ∧ W.cell? ⟨w.heap.size, 12, none⟩ = some (.bool tm) ∧ W.cell? ⟨w.heap.size + 1, 0, none⟩ = some (.int .i64 ky') ∧ W.cell? ⟨w.heap.size + 1, 1, none⟩ = some (.int .i64 st') ∧ W.cell? ⟨w.heap.size + 1, 2, none⟩ = some (.int .i64 en') ∧ W.cell? ⟨w.heap.size + 1, 3, none⟩ = some (.int .i64 an') ∧ W.cell? ⟨w.heap.size + 1, 4, none⟩ = some (.int .i64 asu') ∧ W.cell? ⟨w.heap.size + 1, 5, none⟩ = some (.int .i64 ale') ∧ W.cell? ⟨w.heap.size + 1, 6, none⟩ = some (.int .i64 amo') ∧ W.cell? ⟨w.heap.size + 1, 7, none⟩ = some (.int .i64 fn') ∧ W.cell? ⟨w.heap.size + 1, 8, none⟩ = some (.int .i64 fsu') ∧ W.cell? ⟨w.heap.size + 1, 9, none⟩ = some (.int .i64 fle') ∧ W.cell? ⟨w.heap.size + 1, 10, none⟩ = some (.int .i64 fmo') ∧ W.cell? ⟨w.heap.size + 1, 11, none⟩ = some (.int .i64 td') ∧ W.cell? ⟨w.heap.size + 1, 12, none⟩ = some (.bool tm')) ∧ w.heap.size < W.heap.size ∧ w.heap.size + 1 < W.heap.size)) ((first | ((repeat (first | (with_reducible assumption) | (with_reducible refine hd_13_13 ?_ (by with_reducible assumption)) | (with_reducible refine hd_13_13 ?_ (bel_drew (Below.refl _ _))) | (with_reducible exact hd_13_13_re (by with_reducible assumption) (sB) (sB)) | (with_reducible refine hd_13_13 ?_ (bel_one _ _)) | (with_reducible refine hd_13_13_set ?_ (sB) (sB) _))); done) | (refine ⟨⟨?_, ?_, ?_, ?_, ?_, ?_, ?_, ?_, ?_, ?_, ?_, ?_, ?_, ?_, ?_, ?_, ?_, ?_, ?_, ?_, ?_, ?_, ?_, ?_, ?_, ?_⟩, ?_, ?_⟩ <;> first | (go_keep; done) | (simp; done) | (simp; omega) | omega)))
    (first
    | (go_at_call 73; refine (touches_any _ _ _ _ _).mono ?_; rintro e w' ⟨rfl, hb⟩; obtain ⟨hc, hf, hs⟩ := bcell hb)
    | (go_at_call 51; refine (opplace_any _ _ _ _ _ _ _ _ _ _ _ _ _ _).mono ?_; rintro e w' ⟨rfl, hb⟩; obtain ⟨hc, hf, hs⟩ := bcell hb)
    | (go_at_call 74; refine (compare_any _ _ _ _ _ _ _).mono ?_; rintro e w' ⟨rfl, hb⟩; obtain ⟨hc, hf, hs⟩ := bcell hb))
   all_goals
    go_wp2_with (first
     | (go_at_call 73; refine (touches_any _ _ _ _ _).mono ?_; rintro e w' ⟨rfl, hb⟩; obtain ⟨hc, hf, hs⟩ := bcell hb; (try have hz0 := zA hb w.heap.size); (try have hz1 := zA hb (w.heap.size + 1)))
     | (go_at_call 51; refine (opplace_any _ _ _ _ _ _ _ _ _ _ _ _ _ _).mono ?_; rintro e w' ⟨rfl, hb⟩; obtain ⟨hc, hf, hs⟩ := bcell hb; (try have hz0 := zA hb w.heap.size); (try have hz1 := zA hb (w.heap.size + 1)))
     | (go_at_call 74; refine (compare_any _ _ _ _ _ _ _).mono ?_; rintro e w' ⟨rfl, hb⟩; obtain ⟨hc, hf, hs⟩ := bcell hb; (try have hz0 := zA hb w.heap.size); (try have hz1 := zA hb (w.heap.size + 1))))
    go_ret
    exact ⟨ret_b (unhide hq).symm, (belB)⟩
  ·cases c2 : touchB st en st' en'
   ·have hq : Hid (nextP kd ky st en ky' st' en' = decide (plCmp ky' st' en' ky st en < 0)) := hide (by simp [nextP, c2, aheadP])
    go_enter Tryz.func47, Tryz.ntmps47
    go_wp2_with (first
     | (go_at_call 73; refine (touches_any _ _ _ _ _).mono ?_; rintro e w' ⟨rfl, hb⟩; obtain ⟨hc, hf, hs⟩ := bcell hb; (try have hz0 := zA hb w.heap.size); (try have hz1 := zA hb (w.heap.size + 1)))
     | (go_at_call 51; refine (opplace_any _ _ _ _ _ _ _ _ _ _ _ _ _ _).mono ?_; rintro e w' ⟨rfl, hb⟩; obtain ⟨hc, hf, hs⟩ := bcell hb; (try have hz0 := zA hb w.heap.size); (try have hz1 := zA hb (w.heap.size + 1)))
     | (go_at_call 74; refine (compare_any _ _ _ _ _ _ _).mono ?_; rintro e w' ⟨rfl, hb⟩; obtain ⟨hc, hf, hs⟩ := bcell hb; (try have hz0 := zA hb w.heap.size); (try have hz1 := zA hb (w.heap.size + 1))))
    have hS : ((w'.cell? ⟨w.heap.size, 0, none⟩ = some (.int .i64 ky) ∧ w'.cell? ⟨w.heap.size, 1, none⟩ = some (.int .i64 st) ∧ w'.cell? ⟨w.heap.size, 2, none⟩ = some (.int .i64 en) ∧ w'.cell? ⟨w.heap.size, 3, none⟩ = some (.int .i64 an) ∧ w'.cell? ⟨w.heap.size, 4, none⟩ = some (.int .i64 asu) ∧ w'.cell? ⟨w.heap.size, 5, none⟩ = some (.int .i64 ale) ∧ w'.cell? ⟨w.heap.size, 6, none⟩ = some (.int .i64 amo) ∧ w'.cell? ⟨w.heap.size, 7, none⟩ = some (.int .i64 fn) ∧ w'.cell? ⟨w.heap.size, 8, none⟩ = some (.int .i64 fsu) ∧ w'.cell? ⟨w.heap.size, 9, none⟩ = some (.int .i64 fle) ∧ w'.cell? ⟨w.heap.size, 10, none⟩ = some (.int .i64 fmo) ∧ w'.cell? ⟨w.heap.size, 11, none⟩ = some (.int .i64 td) ∧ w'.cell? ⟨w.heap.size, 12, none⟩ = some (.bool tm) ∧ w'.cell? ⟨w.heap.size + 1, 0, none⟩ = some (.int .i64 ky') ∧ w'.cell? ⟨w.heap.size + 1, 1, none⟩ = some (.int .i64 st') ∧ w'.cell? ⟨w.heap.size + 1, 2, none⟩ = some (.int .i64 en') ∧ w'.cell? ⟨w.heap.size + 1, 3, none⟩ = some (.int .i64 an') ∧ w'.cell? ⟨w.heap.size + 1, 4, none⟩ = some (.int .i64 asu') ∧ w'.cell? ⟨w.heap.size + 1, 5, none⟩ = some (.int .i64 ale') ∧ w'.cell? ⟨w.heap.size + 1, 6, none⟩ = some (.int .i64 amo') ∧ w'.cell? ⟨w.heap.size + 1, 7, none⟩ = some (.int .i64 fn') ∧ w'.cell? ⟨w.heap.size + 1, 8, none⟩ = some (.int .i64 fsu') ∧ w'.cell? ⟨w.heap.size + 1, 9, none⟩ = some (.int .i64 fle') ∧ w'.cell? ⟨w.heap.size + 1, 10, none⟩ = some (.int .i64 fmo') ∧ w'.cell? ⟨w.heap.size + 1, 11, none⟩ = some (.int .i64 td') ∧ w'.cell? ⟨w.heap.size + 1, 12, none⟩ = some (.bool tm')) ∧ w.heap.size < w'.heap.size ∧ w.heap.size + 1 < w'.heap.size) := ⟨⟨(hb.cell (p := ⟨w.heap.size, 0, none⟩) (by simp <;> omega)).trans (by simp [go_sem]), (hb.cell (p := ⟨w.heap.size, 1, none⟩) (by simp <;> omega)).trans (by simp [go_sem]), (hb.cell (p := ⟨w.heap.size, 2, none⟩) (by simp <;> omega)).trans (by simp [go_sem]), (hb.cell (p := ⟨w.heap.size, 3, none⟩) (by simp <;> omega)).trans (by simp [go_sem]), (hb.cell (p := ⟨w.heap.size, 4, none⟩) (by simp <;> omega)).trans (by simp [go_sem]), (hb.cell (p := ⟨w.heap.size, 5, none⟩) (by simp <;> omega)).trans (by simp [go_sem]), (hb.cell (p := ⟨w.heap.size, 6, none⟩) (by simp <;> omega)).trans (by simp [go_sem]), (hb.cell (p := ⟨w.heap.size, 7, none⟩) (by simp <;> omega)).trans (by simp [go_sem]), (hb.cell (p := ⟨w.heap.size, 8, none⟩) (by simp <;> omega)).trans (by simp [go_sem]), (hb.cell (p := ⟨w.heap.size, 9, none⟩) (by simp <;> omega)).trans (by simp [go_sem]), (hb.cell (p := ⟨w.heap.size, 10, none⟩) (by simp <;> omega)).trans (by simp [go_sem]), (hb.cell (p := ⟨w.heap.size, 11, none⟩) (by simp <;> omega)).trans (by simp [go_sem]), (hb.cell (p := ⟨w.heap.size, 12, none⟩) (by simp <;> omega)).trans (by simp [go_sem]), (hb.cell (p := ⟨w.heap.size + 1, 0, none⟩) (by simp <;> omega)).trans (by simp [go_sem]), (hb.cell (p := ⟨w.heap.size + 1, 1, none⟩) (by simp <;> omega)).trans (by simp [go_sem]), (hb.cell (p := ⟨w.heap.size + 1, 2, none⟩) (by simp <;> omega)).trans (by simp [go_sem]), (hb.cell (p := ⟨w.heap.size + 1, 3, none⟩) (by simp <;> omega)).trans (by simp [go_sem]), (hb.cell (p := ⟨w.heap.size + 1, 4, none⟩) (by simp <;> omega)).trans (by simp [go_sem]), (hb.cell (p := ⟨w.heap.size + 1, 5, none⟩) (by simp <;> omega)).trans (by simp [go_sem]), (hb.cell (p := ⟨w.heap.size + 1, 6, none⟩) (by simp <;> omega)).trans (by simp [go_sem]), (hb.cell (p := ⟨w.heap.size + 1, 7, none⟩) (by simp <;> omega)).trans (by simp [go_sem]), (hb.cell (p := ⟨w.heap.size + 1, 8, none⟩) (by simp <;> omega)).trans (by simp [go_sem]), (hb.cell (p := ⟨w.heap.size + 1, 9, none⟩) (by simp <;> omega)).trans (by simp [go_sem]), (hb.cell (p := ⟨w.heap.size + 1, 10, none⟩) (by simp <;> omega)).trans (by simp [go_sem]), (hb.cell (p := ⟨w.heap.size + 1, 11, none⟩) (by simp <;> omega)).trans (by simp [go_sem]), (hb.cell (p := ⟨w.heap.size + 1, 12, none⟩) (by simp <;> omega)).trans (by simp [go_sem])⟩, by have h9 := hb.size; simp at h9; omega, by have h9 := hb.size; simp at h9; omega⟩
    go_region_held3 (fun W => ((W.cell? ⟨w.heap.size, 0, none⟩ = some (.int .i64 ky) ∧ W.cell? ⟨w.heap.size, 1, none⟩ = some (.int .i64 st) ∧ W.cell? ⟨w.heap.size, 2, none⟩ = some (.int .i64 en) ∧ W.cell? ⟨w.heap.size, 3, none⟩ = some (.int .i64 an) ∧ W.cell? ⟨w.heap.size, 4, none⟩ = some (.int .i64 asu) ∧ W.cell? ⟨w.heap.size, 5, none⟩ = some (.int .i64 ale) ∧ W.cell? ⟨w.heap.size, 6, none⟩ = some (.int .i64 amo) ∧ W.cell? ⟨w.heap.size, 7, none⟩ = some (.int .i64 fn) ∧ W.cell? ⟨w.heap.size, 8, none⟩ = some (.int .i64 fsu) ∧ W.cell? ⟨w.heap.size, 9, none⟩ = some (.int .i64 fle) ∧ W.cell? ⟨w.heap.size, 10, none⟩ = some (.int .i64 fmo) ∧ W.cell? ⟨w.heap.size, 11, none⟩ = some (.int .i64 td) ∧ W.cell? ⟨w.heap.size, 12, none⟩ = some (.bool tm) ∧ W.cell? ⟨w.heap.size + 1, 0, none⟩ = some (.int .i64 ky') ∧ W.cell? ⟨w.heap.size + 1, 1, none⟩ = some (.int .i64 st') ∧ W.cell? ⟨w.heap.size + 1, 2, none⟩ = some (.int .i64 en') ∧ W.cell? ⟨w.heap.size + 1, 3, none⟩ = some (.int .i64 an') ∧ W.cell? ⟨w.heap.size + 1, 4, none⟩ = some (.int .i64 asu') ∧ W.cell? ⟨w.heap.size + 1, 5, none⟩ = some (.int .i64 ale') ∧ W.cell? ⟨w.heap.size + 1, 6, none⟩ = some (.int .i64 amo') ∧ W.cell? ⟨w.heap.size + 1, 7, none⟩ = some (.int .i64 fn') ∧ W.cell? ⟨w.heap.size + 1, 8, none⟩ = some (.int .i64 fsu') ∧ W.cell? ⟨w.heap.size + 1, 9, none⟩ = some (.int .i64 fle') ∧ W.cell? ⟨w.heap.size + 1, 10, none⟩ = some (.int .i64 fmo') ∧ W.cell? ⟨w.heap.size + 1, 11, none⟩ = some (.int .i64 td') ∧ W.cell? ⟨w.heap.size + 1, 12, none⟩ = some (.bool tm')) ∧ w.heap.size < W.heap.size ∧ w.heap.size + 1 < W.heap.size)) ((first | ((repeat (first | (with_reducible assumption) | (with_reducible refine hd_13_13 ?_ (by with_reducible assumption)) | (with_reducible refine hd_13_13 ?_ (bel_drew (Below.refl _ _))) | (with_reducible exact hd_13_13_re (by with_reducible assumption) (sB) (sB)) | (with_reducible refine hd_13_13 ?_ (bel_one _ _)) | (with_reducible refine hd_13_13_set ?_ (sB) (sB) _))); done) | (refine ⟨⟨?_, ?_, ?_, ?_, ?_, ?_, ?_, ?_, ?_, ?_, ?_, ?_, ?_, ?_, ?_, ?_, ?_, ?_, ?_, ?_, ?_, ?_, ?_, ?_, ?_, ?_⟩, ?_, ?_⟩ <;> first | (go_keep; done) | (simp; done) | (simp; omega) | omega)))
     (first
     | (go_at_call 73; refine (touches_any _ _ _ _ _).mono ?_; rintro e w' ⟨rfl, hb⟩; obtain ⟨hc, hf, hs⟩ := bcell hb)
     | (go_at_call 51; refine (opplace_any _ _ _ _ _ _ _ _ _ _ _ _ _ _).mono ?_; rintro e w' ⟨rfl, hb⟩; obtain ⟨hc, hf, hs⟩ := bcell hb)
     | (go_at_call 74; refine (compare_any _ _ _ _ _ _ _).mono ?_; rintro e w' ⟨rfl, hb⟩; obtain ⟨hc, hf, hs⟩ := bcell hb))
    all_goals
     go_wp2_with (first
      | (go_at_call 73; refine (touches_any _ _ _ _ _).mono ?_; rintro e w' ⟨rfl, hb⟩; obtain ⟨hc, hf, hs⟩ := bcell hb; (try have hz0 := zA hb w.heap.size); (try have hz1 := zA hb (w.heap.size + 1)))
      | (go_at_call 51; refine (opplace_any _ _ _ _ _ _ _ _ _ _ _ _ _ _).mono ?_; rintro e w' ⟨rfl, hb⟩; obtain ⟨hc, hf, hs⟩ := bcell hb; (try have hz0 := zA hb w.heap.size); (try have hz1 := zA hb (w.heap.size + 1)))
      | (go_at_call 74; refine (compare_any _ _ _ _ _ _ _).mono ?_; rintro e w' ⟨rfl, hb⟩; obtain ⟨hc, hf, hs⟩ := bcell hb; (try have hz0 := zA hb w.heap.size); (try have hz1 := zA hb (w.heap.size + 1))))
     go_ret
     exact ⟨ret_b (unhide hq).symm, (belB)⟩
   ·have hq : Hid (nextP kd ky st en ky' st' en' = false) := hide (by simp [nextP, c0, c1, c2])
    go_enter Tryz.func47, Tryz.ntmps47
    go_wp2_with (first
     | (go_at_call 73; refine (touches_any _ _ _ _ _).mono ?_; rintro e w' ⟨rfl, hb⟩; obtain ⟨hc, hf, hs⟩ := bcell hb; (try have hz0 := zA hb w.heap.size); (try have hz1 := zA hb (w.heap.size + 1)))
     | (go_at_call 51; refine (opplace_any _ _ _ _ _ _ _ _ _ _ _ _ _ _).mono ?_; rintro e w' ⟨rfl, hb⟩; obtain ⟨hc, hf, hs⟩ := bcell hb; (try have hz0 := zA hb w.heap.size); (try have hz1 := zA hb (w.heap.size + 1)))
     | (go_at_call 74; refine (compare_any _ _ _ _ _ _ _).mono ?_; rintro e w' ⟨rfl, hb⟩; obtain ⟨hc, hf, hs⟩ := bcell hb; (try have hz0 := zA hb w.heap.size); (try have hz1 := zA hb (w.heap.size + 1))))
    go_ret
    exact ⟨ret_b (unhide hq).symm, (belB)⟩
/-- A row is ok; it may stand behind another one; so far all rows are and do. -/
def OrR.okB (l mark : Int) (x : OrR) : Bool := okRow l mark x.ky x.st x.en x.an x.asu x.ale x.amo x.fn x.fsu x.fle x.fmo x.td x.tm
def nextO (kd : Int) (y x : OrR) : Bool := nextP kd x.ky x.st x.en y.ky y.st y.en
def okAt (kd l mark : Int) (xs : List OrR) (i : Nat) : Bool := match xs[i]? with
 | none => true
 | some x => x.okB l mark && match i with
  | 0 => true
  | j + 1 => match xs[j]? with
   | some y => nextO kd y x
   | none => true
def okUp (kd l mark : Int) (xs : List OrR) (n : Nat) : Bool := (List.range n).all (okAt kd l mark xs)
theorem okUp_succ (kd l mark : Int) (xs : List OrR) (n : Nat) : okUp kd l mark xs (n + 1) = (okUp kd l mark xs n && okAt kd l mark xs n) := by
 simp [okUp, List.range_succ]
theorem okUp_bad {kd l mark : Int} {xs : List OrR} {n i : Nat} (hi : i < n) (h : okAt kd l mark xs i = false) : okUp kd l mark xs n = false := by
 cases hc : okUp kd l mark xs n
 ·rfl
 ·have := List.all_eq_true.1 hc i (List.mem_range.2 hi)
  rw [h] at this
  cases this
theorem okUp_at {kd l mark : Int} {xs : List OrR} {n i : Nat} (hc : okUp kd l mark xs n = true) (hi : i < n) : okAt kd l mark xs i = true := List.all_eq_true.1 hc i (List.mem_range.2 hi)
theorem okAt_z {kd l mark : Int} {xs : List OrR} {x : OrR} (hx : xs[0]? = some x) : okAt kd l mark xs 0 = x.okB l mark := by simp [okAt, hx]
theorem okAt_s {kd l mark : Int} {xs : List OrR} {j : Nat} {x y : OrR} (hx : xs[j + 1]? = some x) (hy : xs[j]? = some y) : okAt kd l mark xs (j + 1) = (x.okB l mark && nextO kd y x) := by simp [okAt, hx, hy]
theorem okAt_z' {kd l mark : Int} {xs : List OrR} {i : Nat} {x : OrR} (h0 : i = 0) (hx : xs[i]? = some x) : okAt kd l mark xs i = x.okB l mark := by subst h0; exact okAt_z hx
theorem okAt_s' {kd l mark : Int} {xs : List OrR} {i j : Nat} {x y : OrR} (he : i = j + 1) (hx : xs[i]? = some x) (hy : xs[j]? = some y) : okAt kd l mark xs i = (x.okB l mark && nextO kd y x) := by subst he; exact okAt_s hx hy
theorem okAt_row {kd l mark : Int} {xs : List OrR} {i : Nat} {x : OrR} (hx : xs[i]? = some x) (h : x.okB l mark = false) : okAt kd l mark xs i = false := by simp [okAt, hx, h]
theorem okAt_ok {kd l mark : Int} {xs : List OrR} {i : Nat} {x : OrR} (hx : xs[i]? = some x) (h : okAt kd l mark xs i = true) : x.okB l mark = true := by
 simp only [okAt, hx, Bool.and_eq_true] at h
 exact h.1
theorem okB_win {l mark : Int} {x : OrR} (h : x.okB l mark = true) : 0 ≤ x.st ∧ x.st < x.en ∧ x.en ≤ 120 := by
 simp only [OrR.okB, okRow, Bool.and_eq_true] at h
 exact okWin_en h.1.1.1.1.1.1.1.1.1.2
theorem aheadP_iff {ky st en ky' st' en' : Int} : aheadP ky st en ky' st' en' = true ↔ (ky < ky' ∨ (ky = ky' ∧ (st < st' ∨ (st = st' ∧ en < en')))) := by
 by_cases h : ky = ky'
 ·subst h
  by_cases h2 : st = st'
  ·subst h2
   rw [aheadP_en]
   simp
  ·rw [aheadP_st h2]
   simp
   omega
 ·rw [aheadP_ky h]
  simp
  omega
theorem far_step {kd l mark : Int} {y x : OrR} (hk : kd = 3) (hx : x.okB l mark = true) (hy : y.okB l mark = true) (hn : nextO kd y x = true) : y.ky ≤ x.ky ∧ (y.ky = x.ky → y.en ≤ x.st) := by
 have h1 := okB_win hx
 have h2 := okB_win hy
 simp only [nextO, nextP, Bool.and_eq_true] at hn
 have h3 := aheadP_iff.1 hn.2
 refine ⟨by omega, fun e => ?_⟩
 have h4 := hn.1
 rw [hk, e] at h4
 have h5 : touchB x.st x.en y.st y.en = false := by simpa using h4
 simp only [touchB] at h5
 have h6 : ¬ (x.st < y.en ∧ y.st < x.en) := by
  intro hh
  simp [hh.1, hh.2] at h5
 omega
/-- Where no two neighbours touch no two at all do. -/
theorem okUp_far {kd l mark : Int} {xs : List OrR} {n : Nat} (hk : kd = 3) (h : okUp kd l mark xs n = true) : ∀ i, i < n → ∀ k, k < i → ∀ x y, xs[i]? = some x → xs[k]? = some y → y.ky ≤ x.ky ∧ (y.ky = x.ky → y.en ≤ x.st) := by
 intro i
 induction i with
 | zero => intro _ k hk; omega
 | succ i ih =>
  intro hi k hki x y hx hy
  have hil : i < xs.length := by have := (List.getElem?_eq_some_iff.1 hx).1; omega
  obtain ⟨z, hz⟩ : ∃ z, xs[i]? = some z := ⟨_, List.getElem?_eq_getElem hil⟩
  have a1 := okUp_at h hi
  have a0 := okUp_at h (Nat.lt_of_succ_lt hi)
  have hxb := okAt_ok hx a1
  have hzb := okAt_ok hz a0
  rw [okAt_s hx hz, Bool.and_eq_true] at a1
  have st := far_step hk hxb hzb a1.2
  by_cases he : k = i
  ·subst he
   rw [hz] at hy
   cases hy
   exact st
  ·have st2 := ih (Nat.lt_of_succ_lt hi) k (by omega) z y hz hy
   have w1 := okB_win hzb
   refine ⟨by omega, fun e => ?_⟩
   have e1 : z.ky = x.ky := by omega
   have e2 : y.ky = z.ky := by omega
   have := st.2 e1
   have := st2.2 e2
   omega
/-- A row that touches one ahead of it, however far, is not ok. -/
theorem okAt_touch {kd l mark : Int} {xs : List OrR} {i k : Nat} {x y : OrR} (hk : kd = 3) (h : okUp kd l mark xs i = true) (hki : k < i) (hx : xs[i]? = some x) (hy : xs[k]? = some y) (e : y.ky = x.ky) (ht : touchB y.st y.en x.st x.en = true) : okAt kd l mark xs i = false := by
 cases hc : okAt kd l mark xs i
 ·rfl
 ·have h1 : okUp kd l mark xs (i + 1) = true := by rw [okUp_succ, h, hc]; rfl
  have h2 := (okUp_far hk h1 i (by omega) k hki x y hx hy).2 e
  simp only [touchB, Bool.and_eq_true, decide_eq_true_eq] at ht
  omega
/-- When an operator is ok. -/
def okOp (s t k z p l e v r mark : Int) (xs : List OrR) : Bool := okJob s t k z p l e v r && inB mark 0 1000 && decide (xs.length ≤ 300) && okUp k l mark xs xs.length
theorem okJob_l {s t k z p l e v r : Int} (h : okJob s t k z p l e v r = true) : 0 ≤ l ∧ l ≤ 20 := by
 simp only [okJob, Bool.and_eq_true] at h
 exact inB_iff.1 h.1.1.1.2
theorem okOp_j {s t k z p l e v r mark : Int} {xs : List OrR} (h : okJob s t k z p l e v r = false) : okOp s t k z p l e v r mark xs = false := by simp [okOp, h]
theorem okOp_m {s t k z p l e v r mark : Int} {xs : List OrR} (h : inB mark 0 1000 = false) : okOp s t k z p l e v r mark xs = false := by simp [okOp, h]
theorem okOp_n {s t k z p l e v r mark : Int} {xs : List OrR} (h : ¬ xs.length ≤ 300) : okOp s t k z p l e v r mark xs = false := by simp [okOp, h]
theorem okOp_t {s t k z p l e v r mark : Int} {xs : List OrR} (h1 : okJob s t k z p l e v r = true) (h2 : inB mark 0 1000 = true) (h3 : xs.length ≤ 300) : okOp s t k z p l e v r mark xs = okUp k l mark xs xs.length := by simp [okOp, h1, h2, h3]
end Go.Proofs.YtflignpbboiahaaGreat
