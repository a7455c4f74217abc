/- Laid together: what the claim needs of the texts that were built one by one. -/
import Derived.Test.YtabphkmhafflbaaPkBase
namespace Go.Proofs.Ytabphkmhafflbaa
open Go.ChangeShapes Go.WideShapes Go.ChangeAt Go.RowKit
set_option linter.unusedVariables false

/-- When a window of a key is ok; when a pane is. -/
def okPlace (ky st en : Int) : Bool := inB ky 0 3 && okWin st en

theorem placeok_any (ky st en : Int) (w : World) : Calls Try.prog 59 #[.agg #[.int .i64 ky, .int .i64 st, .int .i64 en]] w fun e' w' => e' = .returned (.bool (okPlace ky st en)) ∧ Below w.heap.size w w' := by
  cases c0 : inB ky 0 3
  · have hq : Hid (okPlace ky st en = false) := hide (by simp [okPlace, c0])
    go_enter Try.func59, Try.ntmps59
    go_wp2_with (first
      | (go_at_call 23; refine (within_any _ _ _ _).mono ?_; rintro e' w' ⟨rfl, rfl⟩)
      | (go_at_call 42; refine (winok_any _ _ _).mono ?_; rintro e w' ⟨rfl, hb⟩; obtain ⟨hc, hf, hs⟩ := bcell hb; (try have hz0 : w.heap.size < w'.heap.size := (by have h9 := hb.size; (try simp at h9); omega))))
    go_ret
    exact ⟨ret_b (unhide hq).symm, (belB)⟩
  · have hq : Hid (okPlace ky st en = okWin st en) := hide (by simp [okPlace, c0])
    go_enter Try.func59, Try.ntmps59
    go_wp2_with (first
      | (go_at_call 23; refine (within_any _ _ _ _).mono ?_; rintro e' w' ⟨rfl, rfl⟩)
      | (go_at_call 42; refine (winok_any _ _ _).mono ?_; rintro e w' ⟨rfl, hb⟩; obtain ⟨hc, hf, hs⟩ := bcell hb; (try have hz0 : w.heap.size < w'.heap.size := (by have h9 := hb.size; (try simp at h9); omega))))
    go_ret
    exact ⟨ret_b (unhide hq).symm, (belB)⟩
end Go.Proofs.Ytabphkmhafflbaa
