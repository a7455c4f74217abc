/- Proved here: the program's fold over one value, and with it what is known of both, and with one value more. -/
import Derived.Test.YtbockbdlojkpiaaGreatBoth
namespace Go.Proofs.YtbockbdlojkpiaaGreat
open Go.ChangeShapes Go.WideShapes Go.ChangeAt Go.RowKit
set_option linter.unusedVariables false

set_option maxHeartbeats 1000000 in
theorem impladd_any (n s l m v : Int) (w : World) : Calls Tryz.prog 13 #[.agg #[.int .i64 n, .int .i64 s, .int .i64 l, .int .i64 m], .int .i64 v] w fun e w' => e = .returned (.agg #[.int .i64 (bo n 1 n 1 (wrap64 (n + 1))), .int .i64 (bo n 1 s v (wrap64 (s + v))), .int .i64 (bo n 1 l v (loI l v)), .int .i64 (bo n 1 m v (hiI m v))]) ∧ Below w.heap.size w w' := by
  go_enter Tryz.func13, Tryz.ntmps13
  go_wp2
  refine wp_loop_rounds 2 ?_
  rw [rounds_succ]
  go_wp2_with (first
    | (go_at_call 31; refine (with_any _ _ _ _ _ _).mono ?_; rintro e w' ⟨rfl, hb⟩; obtain ⟨hc, hf, hs⟩ := bcell hb; (try have hz0 : w.heap.size < w'.heap.size := (by have h9 := hb.size; (try simp at h9); omega)); (try have hz1 : w.heap.size + 1 < w'.heap.size := (by have h9 := hb.size; (try simp at h9); omega)); (try have hz2 : w.heap.size + 2 < w'.heap.size := (by have h9 := hb.size; (try simp at h9); omega)); (try have hz3 : w.heap.size + 3 < w'.heap.size := (by have h9 := hb.size; (try simp at h9); omega)); (try have hz4 : w.heap.size + 4 < w'.heap.size := (by have h9 := hb.size; (try simp at h9); omega)); (try have hz5 : w.heap.size + 5 < w'.heap.size := (by have h9 := hb.size; (try simp at h9); omega)); (try have hz6 : w.heap.size + 6 < w'.heap.size := (by have h9 := hb.size; (try simp at h9); omega))))
  rw [rounds_succ]
  go_wp2
  refine bodyPost_ret (v := .agg #[.int .i64 (bo n 1 n 1 (wrap64 (n + 1))), .int .i64 (bo n 1 s v (wrap64 (s + v))), .int .i64 (bo n 1 l v (loI l v)), .int .i64 (bo n 1 m v (hiI m v))]) (by simp [results, Tryz.results30, go_sem, hc]) rfl ?_
  go_wp2
  refine bodyPost_ret (v := .agg #[.int .i64 (bo n 1 n 1 (wrap64 (n + 1))), .int .i64 (bo n 1 s v (wrap64 (s + v))), .int .i64 (bo n 1 l v (loI l v)), .int .i64 (bo n 1 m v (hiI m v))]) (by simp [results, Tryz.results13, go_sem, hc]) rfl ⟨rfl, ?_⟩
  exact (by repeat (first | (with_reducible refine bel_set ?_ (by first | (simp; done) | (simp; omega)) _) | (with_reducible refine bel_alloc ?_ _) | (with_reducible exact Below.refl _ _) | (with_reducible assumption) | (with_reducible refine bel_drew ?_) | (with_reducible refine bel_drewN ?_ _) | (with_reducible refine bel_trans ?_ (by with_reducible assumption))))

end Go.Proofs.YtbockbdlojkpiaaGreat
