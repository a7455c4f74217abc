/- Laid together: what the claim needs of the texts that were built one by one. -/
import Derived.Test.YtikidpcgnmffcaaGreatPkBase
namespace Go.Proofs.YtikidpcgnmffcaaGreat
open Go.ChangeShapes Go.WideShapes Go.ChangeAt Go.RowKit
set_option linter.unusedVariables false

set_option maxHeartbeats 1000000 in
theorem impladd_any (n s l m v : Int) (w : World) : Calls Tryz.prog 34 #[.agg #[.int .i64 n, .int .i64 s, .int .i64 l, .int .i64 m], .int .i64 v] w fun e w' => e = .returned (.agg #[.int .i64 (bo n 1 n 1 (wrap64 (n + 1))), .int .i64 (bo n 1 s v (wrap64 (s + v))), .int .i64 (bo n 1 l v (loI l v)), .int .i64 (bo n 1 m v (hiI m v))]) ∧ Below w.heap.size w w' := by
  go_enter Tryz.func34, Tryz.ntmps34
  go_wp2
  refine wp_loop_rounds 2 ?_
  rw [rounds_succ]
  go_wp2_with (first
    | (go_at_call 49; refine (with_any _ _ _ _ _ _).mono ?_; rintro e w' ⟨rfl, hb⟩; obtain ⟨hc, hf, hs⟩ := bcell hb; (try have hz0 : w.heap.size < w'.heap.size := (by have h9 := hb.size; (try simp at h9); omega)); (try have hz1 : w.heap.size + 1 < w'.heap.size := (by have h9 := hb.size; (try simp at h9); omega)); (try have hz2 : w.heap.size + 2 < w'.heap.size := (by have h9 := hb.size; (try simp at h9); omega)); (try have hz3 : w.heap.size + 3 < w'.heap.size := (by have h9 := hb.size; (try simp at h9); omega)); (try have hz4 : w.heap.size + 4 < w'.heap.size := (by have h9 := hb.size; (try simp at h9); omega)); (try have hz5 : w.heap.size + 5 < w'.heap.size := (by have h9 := hb.size; (try simp at h9); omega)); (try have hz6 : w.heap.size + 6 < w'.heap.size := (by have h9 := hb.size; (try simp at h9); omega))))
  rw [rounds_succ]
  go_wp2
  refine bodyPost_ret (v := .agg #[.int .i64 (bo n 1 n 1 (wrap64 (n + 1))), .int .i64 (bo n 1 s v (wrap64 (s + v))), .int .i64 (bo n 1 l v (loI l v)), .int .i64 (bo n 1 m v (hiI m v))]) (by simp [results, Tryz.results48, go_sem, hc]) rfl ?_
  go_wp2
  refine bodyPost_ret (v := .agg #[.int .i64 (bo n 1 n 1 (wrap64 (n + 1))), .int .i64 (bo n 1 s v (wrap64 (s + v))), .int .i64 (bo n 1 l v (loI l v)), .int .i64 (bo n 1 m v (hiI m v))]) (by simp [results, Tryz.results34, go_sem, hc]) rfl ⟨rfl, ?_⟩
  exact (belB)
end Go.Proofs.YtikidpcgnmffcaaGreat
