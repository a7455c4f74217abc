/- Laid together: what the claim needs of the texts that were built one by one. -/
import Derived.Test.YtblmhpngaccllaaPkBase
namespace Go.Proofs.Ytblmhpngaccllaa
open Go.ChangeShapes Go.WideShapes Go.ChangeAt Go.RowKit
set_option linter.unusedVariables false

set_option maxHeartbeats 1000000 in
theorem implboth_any (n s l m n' s' l' m' : Int) (w : World) : Calls Try.prog 11 #[.agg #[.int .i64 n, .int .i64 s, .int .i64 l, .int .i64 m], .agg #[.int .i64 n', .int .i64 s', .int .i64 l', .int .i64 m']] w fun e w' => e = .returned (.agg #[.int .i64 (bo n n' n n' (wrap64 (n + n'))), .int .i64 (bo n n' s s' (wrap64 (s + s'))), .int .i64 (bo n n' l l' (loI l l')), .int .i64 (bo n n' m m' (hiI m m'))]) ∧ Below w.heap.size w w' := by
  go_enter Try.func11, Try.ntmps11
  go_wp2
  refine wp_loop_rounds 2 ?_
  rw [rounds_succ]
  go_wp2_with (first
    | (go_at_call 27; refine (both_any _ _ _ _ _ _ _ _ _).mono ?_; rintro e w' ⟨rfl, hb⟩; obtain ⟨hc, hf, hs⟩ := bcell hb; (try have hz0 : w.heap.size < w'.heap.size := (by have h9 := hb.size; (try simp at h9); omega)); (try have hz1 : w.heap.size + 1 < w'.heap.size := (by have h9 := hb.size; (try simp at h9); omega)); (try have hz2 : w.heap.size + 2 < w'.heap.size := (by have h9 := hb.size; (try simp at h9); omega)); (try have hz3 : w.heap.size + 3 < w'.heap.size := (by have h9 := hb.size; (try simp at h9); omega)); (try have hz4 : w.heap.size + 4 < w'.heap.size := (by have h9 := hb.size; (try simp at h9); omega)); (try have hz5 : w.heap.size + 5 < w'.heap.size := (by have h9 := hb.size; (try simp at h9); omega)); (try have hz6 : w.heap.size + 6 < w'.heap.size := (by have h9 := hb.size; (try simp at h9); omega))))
  rw [rounds_succ]
  go_wp2
  refine bodyPost_ret (v := .agg #[.int .i64 (bo n n' n n' (wrap64 (n + n'))), .int .i64 (bo n n' s s' (wrap64 (s + s'))), .int .i64 (bo n n' l l' (loI l l')), .int .i64 (bo n n' m m' (hiI m m'))]) (by simp [results, Try.results26, go_sem, hc]) rfl ?_
  go_wp2
  refine bodyPost_ret (v := .agg #[.int .i64 (bo n n' n n' (wrap64 (n + n'))), .int .i64 (bo n n' s s' (wrap64 (s + s'))), .int .i64 (bo n n' l l' (loI l l')), .int .i64 (bo n n' m m' (hiI m m'))]) (by simp [results, Try.results11, go_sem, hc]) rfl ⟨rfl, ?_⟩
  exact (belB)
end Go.Proofs.Ytblmhpngaccllaa
