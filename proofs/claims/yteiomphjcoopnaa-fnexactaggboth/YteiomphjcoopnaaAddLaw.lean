/- Proved here: the two laws on what is known of both and with one value more, walked: they answer true at every argument. -/
import Derived.Test.YteiomphjcoopnaaBoth2
namespace Go.Proofs.Yteiomphjcoopnaa
open Go.ChangeShapes Go.WideShapes Go.ChangeAt Go.RowKit
set_option linter.unusedVariables false

theorem eqAgg_any (n s l m : Int) (w : World) : Calls Try.prog 15 #[.agg #[.int .i64 n, .int .i64 s, .int .i64 l, .int .i64 m], .agg #[.int .i64 n, .int .i64 s, .int .i64 l, .int .i64 m]] w fun e w' => e = .returned (.bool true) ∧ Below w.heap.size w w' := by
  go_enter Try.func15, Try.ntmps15
  go_wp2
  go_ret
  exact ⟨rfl, (by repeat (first | (with_reducible refine bel_set ?_ (by first | (simp; done) | (simp; omega)) _) | (with_reducible refine bel_alloc ?_ _) | (with_reducible exact Below.refl _ _) | (with_reducible assumption) | (with_reducible refine bel_drew ?_) | (with_reducible refine bel_drewN ?_ _) | (with_reducible refine bel_trans ?_ (by with_reducible assumption))))⟩

set_option maxHeartbeats 1000000 in
theorem lawAggAdd (n s l m v : Int) (w : World) : Calls Try.prog 5 #[.agg #[.int .i64 n, .int .i64 s, .int .i64 l, .int .i64 m], .int .i64 v] w fun e w' => e = .returned (.bool true) ∧ Below w.heap.size w w' := by
  go_enter Try.func5, Try.ntmps5
  go_wp2_with (first
    | (go_at_call 11; refine (toAgg_any _ _ _ _ _).mono ?_; rintro e w' ⟨rfl, hb⟩; obtain ⟨hc, hf, hs⟩ := bcell hb; (try have hz0 : w.heap.size < w'.heap.size := (by have h9 := hb.size; (try simp at h9); omega)); (try have hz1 : ws.heap.size < w'.heap.size := (by have h9 := hb.size; (try simp at h9); omega)); (try have hz2 : wi.heap.size < w'.heap.size := (by have h9 := hb.size; (try simp at h9); omega)))
    | (go_at_call 16; refine (specadd_any _ _ _ _ _ _).mono ?_; rintro e ws ⟨rfl, hb⟩; obtain ⟨hc, hf, hs⟩ := bcell hb; (try have hz0 : w.heap.size < ws.heap.size := (by have h9 := hb.size; (try simp at h9); omega)); (try have hz1 : ws.heap.size < ws.heap.size := (by have h9 := hb.size; (try simp at h9); omega)); (try have hz2 : wi.heap.size < ws.heap.size := (by have h9 := hb.size; (try simp at h9); omega)))
    | (go_at_call 17; refine (impladd_any _ _ _ _ _ _).mono ?_; rintro e wi ⟨rfl, hb⟩; obtain ⟨hc, hf, hs⟩ := bcell hb; (try have hz0 : w.heap.size < wi.heap.size := (by have h9 := hb.size; (try simp at h9); omega)); (try have hz1 : ws.heap.size < wi.heap.size := (by have h9 := hb.size; (try simp at h9); omega)); (try have hz2 : wi.heap.size < wi.heap.size := (by have h9 := hb.size; (try simp at h9); omega)))
    | (go_at_call 15; refine (eqAgg_any _ _ _ _ _).mono ?_; rintro e w' ⟨rfl, hb⟩; obtain ⟨hc, hf, hs⟩ := bcell hb; (try have hz0 : w.heap.size < w'.heap.size := (by have h9 := hb.size; (try simp at h9); omega)); (try have hz1 : ws.heap.size < w'.heap.size := (by have h9 := hb.size; (try simp at h9); omega)); (try have hz2 : wi.heap.size < w'.heap.size := (by have h9 := hb.size; (try simp at h9); omega))))
  go_ret
  exact ⟨rfl, (by repeat (first | (with_reducible refine bel_set ?_ (by first | (simp; done) | (simp; omega)) _) | (with_reducible refine bel_alloc ?_ _) | (with_reducible exact Below.refl _ _) | (with_reducible assumption) | (with_reducible refine bel_drew ?_) | (with_reducible refine bel_drewN ?_ _) | (with_reducible refine bel_trans ?_ (by with_reducible assumption))))⟩
end Go.Proofs.Yteiomphjcoopnaa
