/- Laid together: what the claim needs of the texts that were built one by one. -/
import Derived.Test.YtflignpbboiahaaGreatQ2
import Derived.Test.YtflignpbboiahaaGreatQ0
set_option linter.unusedVariables false
namespace Go.Proofs.YtflignpbboiahaaGreat
open Go.ChangeShapes Go.WideShapes Go.ChangeAt Go.RowKit
theorem szSt_small (m : Int) (a : Option Addr) (len cap : Nat) (w : World) (h : len ≤ maxLen) (h1 : (len : Int) ≤ 1048576) : Calls Tryz.prog 4 #[.agg #[.int .i64 m, .slice a len cap], .int .i64 1048576] w fun e w' => e = .returned (.int .i64 (1048576 - (len : Int))) ∧ w' = w.alloc (.cells #[.int .i64 m, .slice a len cap] 26) := by
 unfold maxLen at h
 go_enter Tryz.func4, Tryz.ntmps4
 go_wp2_with (go_at_call 19; refine (szOr_small _ _ _ _ (by unfold maxLen; omega) h1).mono ?_; rintro e' w' ⟨rfl, rfl⟩)
 go_ret
 exact ⟨rfl, rfl⟩
theorem szSt_big (m : Int) (a : Option Addr) (len cap : Nat) (w : World) (h : len ≤ maxLen) (h1 : ¬ (len : Int) ≤ 1048576) : Calls Tryz.prog 4 #[.agg #[.int .i64 m, .slice a len cap], .int .i64 1048576] w fun e w' => e = .returned (.int .i64 (-1)) ∧ w' = w.alloc (.cells #[.int .i64 m, .slice a len cap] 26) := by
 unfold maxLen at h
 go_enter Tryz.func4, Tryz.ntmps4
 go_wp2_with (go_at_call 19; refine (szOr_big _ _ _ _ (by unfold maxLen; omega) h1).mono ?_; rintro e' w' ⟨rfl, rfl⟩)
 go_ret
 exact ⟨rfl, rfl⟩
theorem grown_one {W : World} (p : Addr) (v : Value) : W.grownBy (W.setCell p v) (some p.block) := ⟨rfl, rfl, rfl, by simp [World.setCell], fun k hk hne => Below.heap_setCell W p v k (fun e => hne (by rw [e]))⟩
theorem OrRs.set {W : World} {p : Addr} {v : Value} {a : Option Addr} {n : Nat} {xs : List OrR} (h : OrRs W a n xs) (hp : ∀ g o, 0 < n → a = some ⟨g, o, none⟩ → p.block < g) : OrRs (W.setCell p v) a n xs := h.grown (grown_one p v) (fun g o hn ha => by have := hp g o hn ha; simp; omega)
theorem WrOr.set {W : World} {p : Addr} {v : Value} {a : Option Addr} {n cap : Nat} (h : WrOr W a n cap) (hp : ∀ g o, 0 < n → a = some ⟨g, o, none⟩ → p.block < g) : WrOr (W.setCell p v) a n cap := h.grown (grown_one p v) (fun g o hn ha => by have := hp g o hn ha; simp; omega)
set_option maxRecDepth 20000 in
theorem toSt_any (m : Int) (a : Option Addr) (len cap : Nat) (xs : List OrR) (w : World) (h : OrRs w a len xs) (hl : len ≤ 1048576) : Calls Tryz.prog 7 #[.agg #[.int .i64 m, .slice a len cap]] w fun e w' => ∃ a', e = .returned (.agg #[.int .i64 m, .slice a' len len]) ∧ OrRs w' a' len xs ∧ WrOr w' a' len len ∧ (∀ g o, 0 < len → a' = some ⟨g, o, none⟩ → w.heap.size ≤ g) ∧ Below w.heap.size w w' := by
 go_enter Tryz.func7, Tryz.ntmps7
 go_wp2_with (go_at_call 24; refine (toOr_any a len cap xs _ (h.below (belB)) hl).mono ?_; rintro e' w' ⟨a', rfl, H, R, ge, hb⟩; obtain ⟨hc, hf, hs⟩ := bcell hb; have hz0 : w.heap.size + 1 < w'.heap.size := (zB hb); have hz1 : w.heap.size + 1 + 1 < w'.heap.size := (zB hb))
 have ge' : ∀ g o, 0 < len → a' = some ⟨g, o, none⟩ → w.heap.size + 1 + 1 < g := fun g o hp ha => by have := ge g o hp ha; simp at this; omega
 refine bodyPost_ret (v := .agg #[.int .i64 m, .slice a' len len]) (by simp (maxDischargeDepth := 9) [results, Tryz.results7, go_sem, *]) rfl ⟨a', rfl, ?_, ?_, fun g o hp ha => by have := ge' g o hp ha; omega, ?_⟩
 ·repeat (first | exact H | refine OrRs.set ?_ (fun g o hp ha => by have := ge' g o hp ha; simp; omega))
 ·repeat (first | exact R | refine WrOr.set ?_ (fun g o hp ha => by have := ge' g o hp ha; simp; omega))
 ·exact (belB)
set_option maxRecDepth 20000 in
theorem eqSt_any (m : Int) (a1 a2 : Option Addr) (len cap1 cap2 : Nat) (xs : List OrR) (w : World) (h1 : OrRs w a1 len xs) (h2 : OrRs w a2 len xs) : Calls Tryz.prog 10 #[.agg #[.int .i64 m, .slice a1 len cap1], .agg #[.int .i64 m, .slice a2 len cap2]] w fun e w' => e = .returned (.bool true) ∧ Below w.heap.size w w' := by
 go_enter Tryz.func10, Tryz.ntmps10
 go_wp2_with (go_at_call 30; refine (eqOr_any a1 a2 len cap1 cap2 xs _ (h1.below (belB)) (h2.below (belB))).mono ?_; rintro e' w' ⟨rfl, hb⟩)
 go_ret
 exact ⟨rfl, (belB)⟩
end Go.Proofs.YtflignpbboiahaaGreat
