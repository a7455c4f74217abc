/- Laid together: what the claim needs of the texts that were built one by one. -/
import Derived.Test.YtikidpcgnmffcaaGreatPkItm
import Derived.Test.YtikidpcgnmffcaaGreatPkBase
namespace Go.Proofs.YtikidpcgnmffcaaGreat
open Go.ChangeShapes Go.WideShapes Go.ChangeAt Go.RowKit
set_option linter.unusedVariables false

theorem implitm_any (q t k v n : Int) (w : World) : Calls Tryz.prog 64 #[.agg #[.int .i64 q, .int .i64 t, .int .i64 k, .int .i64 v, .int .i64 n]] w fun e w' => e = .returned (.bool (okItm q t k v n)) ∧ Below w.heap.size w w' := by
  by_cases h1 : q = 1
  · subst h1
    rw [okItm_1]
    have hp : partV 1 t k v n = .iface 114 (.agg #[.int .i64 1, .int .i64 t, .int .i64 k, .int .i64 v, .int .i64 n]) := rfl
    have hm : ∀ w : World, (method 266 114 (.agg #[.int .i64 1, .int .i64 t, .int .i64 k, .int .i64 v, .int .i64 n]) "loop.example/freshet/impl.ok").run Tryz.prog w = .ok (122, .agg #[.int .i64 1, .int .i64 t, .int .i64 k, .int .i64 v, .int .i64 n]) w := fun _ => by kernel_rfl
    go_enter Tryz.func64, Tryz.ntmps64
    go_wp2_with (first
      | (go_at_call 63; refine (partOf_any _ _ _ _ _ _).mono ?_; rintro e w' ⟨rfl, hb⟩)
      | (go_at_call 122; refine (recok_any _ _ _ _ _ _).mono ?_; rintro e w' ⟨rfl, hb⟩))
    go_ret
    exact ⟨rfl, (belC)⟩
  by_cases h2 : q = 2
  · subst h2
    rw [okItm_2]
    have hp : partV 2 t k v n = .iface 115 (.agg #[.int .i64 2, .int .i64 t, .int .i64 k, .int .i64 v, .int .i64 n]) := rfl
    have hm : ∀ w : World, (method 266 115 (.agg #[.int .i64 2, .int .i64 t, .int .i64 k, .int .i64 v, .int .i64 n]) "loop.example/freshet/impl.ok").run Tryz.prog w = .ok (124, .agg #[.int .i64 2, .int .i64 t, .int .i64 k, .int .i64 v, .int .i64 n]) w := fun _ => by kernel_rfl
    go_enter Tryz.func64, Tryz.ntmps64
    go_wp2_with (first
      | (go_at_call 63; refine (partOf_any _ _ _ _ _ _).mono ?_; rintro e w' ⟨rfl, hb⟩)
      | (go_at_call 124; refine (markok_any _ _ _ _ _ _).mono ?_; rintro e w' ⟨rfl, hb⟩))
    go_ret
    exact ⟨rfl, (belC)⟩
  by_cases h3 : q = 3
  · subst h3
    rw [okItm_3]
    have hp : partV 3 t k v n = .iface 116 (.agg #[.int .i64 3, .int .i64 t, .int .i64 k, .int .i64 v, .int .i64 n]) := rfl
    have hm : ∀ w : World, (method 266 116 (.agg #[.int .i64 3, .int .i64 t, .int .i64 k, .int .i64 v, .int .i64 n]) "loop.example/freshet/impl.ok").run Tryz.prog w = .ok (126, .agg #[.int .i64 3, .int .i64 t, .int .i64 k, .int .i64 v, .int .i64 n]) w := fun _ => by kernel_rfl
    go_enter Tryz.func64, Tryz.ntmps64
    go_wp2_with (first
      | (go_at_call 63; refine (partOf_any _ _ _ _ _ _).mono ?_; rintro e w' ⟨rfl, hb⟩)
      | (go_at_call 126; refine (wallok_any _ _ _ _ _ _).mono ?_; rintro e w' ⟨rfl, hb⟩))
    go_ret
    exact ⟨rfl, (belC)⟩
  have hq : Hid (okItm q t k v n = false) := hide (okItm_n h1 h2 h3 t k v n)
  have hr : partV q t k v n = .iface 117 (.agg #[.int .i64 q, .int .i64 t, .int .i64 k, .int .i64 v, .int .i64 n]) := by unfold partV; rw [if_neg h1, if_neg h2, if_neg h3]
  clear h1 h2 h3
  have hp : partV q t k v n = .iface 117 (.agg #[.int .i64 q, .int .i64 t, .int .i64 k, .int .i64 v, .int .i64 n]) := hr
  have hm : ∀ w : World, (method 266 117 (.agg #[.int .i64 q, .int .i64 t, .int .i64 k, .int .i64 v, .int .i64 n]) "loop.example/freshet/impl.ok").run Tryz.prog w = .ok (128, .agg #[.int .i64 q, .int .i64 t, .int .i64 k, .int .i64 v, .int .i64 n]) w := fun _ => by kernel_rfl
  go_enter Tryz.func64, Tryz.ntmps64
  go_wp2_with (first
    | (go_at_call 63; refine (partOf_any _ _ _ _ _ _).mono ?_; rintro e w' ⟨rfl, hb⟩)
    | (go_at_call 128; refine (noneok_any _ _ _ _ _ _).mono ?_; rintro e w' ⟨rfl, hb⟩))
  go_ret
  exact ⟨ret_b (unhide hq).symm, (belC)⟩
end Go.Proofs.YtikidpcgnmffcaaGreat
