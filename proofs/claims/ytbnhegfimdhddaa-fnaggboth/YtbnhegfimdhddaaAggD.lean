/- Proved here: what is known of some values, and one number more, are drawn of a code. -/
import Derived.Test.YtbnhegfimdhddaaDrawAgg
import Derived.Test.YtbnhegfimdhddaaWin2
import Derived.Test.YtbnhegfimdhddaaBoth2
namespace Go.Proofs.Ytbnhegfimdhddaa
open Go.ChangeShapes Go.WideShapes Go.ChangeAt Go.RowKit
set_option linter.unusedVariables false

/-- What is known of values, and a number, drawn of a code. -/
def AggOneD (w : World) (n off : Int) (e : Ending) (w' : World) : Prop := ∃ n0 m0 l0 t0 v : Int, e = .returned (.tuple #[.agg #[.int .i64 n0, .int .i64 m0, .int .i64 l0, .int .i64 t0], .int .i64 v]) ∧ ((-10 ≤ n0 ∧ (n0 ≤ 10 ∨ n0 = 1001)) ∧ (-8000 ≤ m0 ∧ m0 ≤ 8000) ∧ (-10 ≤ l0 ∧ l0 ≤ 1001) ∧ (-10 ≤ t0 ∧ t0 ≤ 1001)) ∧ -off ≤ v ∧ v < n - off ∧ Below w.heap.size w w'

set_option maxRecDepth 20000 in
theorem drawaggadd_any (a : Option Addr) (len cap : Nat) (w : World) (hlc : len ≤ cap) (hlm : len ≤ 1048576) (hb : BytesAt w a len) (hl : ∀ g o, a = some ⟨g, o, none⟩ → 0 < len → g < w.heap.size) (hn : a = none → cap = 0) : Calls Try.prog 22 #[.slice a len cap] w fun e w' => AggOneD w 19 9 e w' := by
  have hbX : Below w.heap.size w (w.alloc (.cells #[.int .i64 0, .int .i64 0, .int .i64 0, .int .i64 0] 33)) := bel_one _ _
  have hb' := BytesAt.bel hb hl hbX
  have hl' : ∀ g o, a = some ⟨g, o, none⟩ → 0 < len → g < (w.alloc (.cells #[.int .i64 0, .int .i64 0, .int .i64 0, .int .i64 0] 33)).heap.size := fun g o ha hp => Nat.lt_of_lt_of_le (hl g o ha hp) hbX.size
  go_enter Try.func22, Try.ntmps22
  go_wp2_with fail
  refine (open_any a len cap _ hlc hlm hb' hl' hn).mono ?_
  rintro e w1 ⟨R, len', cap', rfl, h1, h2, hb1, hr⟩
  have h1' : w.heap.size < R := by simp at h1; omega
  have xc0a : w1.cell? ⟨w.heap.size, 0, none⟩ = some (.int .i64 0) := (hb1.cell (p := ⟨w.heap.size, 0, none⟩) (by simp <;> omega)).trans (by simp [go_sem])
  have xf0a : w1.frozen? ⟨w.heap.size, 0, none⟩ = false := (hb1.frozen (p := ⟨w.heap.size, 0, none⟩) (by simp <;> omega)).trans (by simp [go_sem])
  have xc1a : w1.cell? ⟨w.heap.size, 1, none⟩ = some (.int .i64 0) := (hb1.cell (p := ⟨w.heap.size, 1, none⟩) (by simp <;> omega)).trans (by simp [go_sem])
  have xf1a : w1.frozen? ⟨w.heap.size, 1, none⟩ = false := (hb1.frozen (p := ⟨w.heap.size, 1, none⟩) (by simp <;> omega)).trans (by simp [go_sem])
  have xc2a : w1.cell? ⟨w.heap.size, 2, none⟩ = some (.int .i64 0) := (hb1.cell (p := ⟨w.heap.size, 2, none⟩) (by simp <;> omega)).trans (by simp [go_sem])
  have xf2a : w1.frozen? ⟨w.heap.size, 2, none⟩ = false := (hb1.frozen (p := ⟨w.heap.size, 2, none⟩) (by simp <;> omega)).trans (by simp [go_sem])
  have xc3a : w1.cell? ⟨w.heap.size, 3, none⟩ = some (.int .i64 0) := (hb1.cell (p := ⟨w.heap.size, 3, none⟩) (by simp <;> omega)).trans (by simp [go_sem])
  have xf3a : w1.frozen? ⟨w.heap.size, 3, none⟩ = false := (hb1.frozen (p := ⟨w.heap.size, 3, none⟩) (by simp <;> omega)).trans (by simp [go_sem])
  clear hb hb' hl hl'
  go_wp2_with fail
  refine (agg_any R a len' cap' 0 12 w1 (by omega) (by omega) (by omega) h2 hr).mono ?_
  rintro e w2 ⟨n0, m0, l0, t0, rfl, b1, b2, b3, b4, k, p', hp', hr2⟩
  have h3 := k.low.size
  have hw1 : w.heap.size < w1.heap.size := by omega
  have h2' : R < w2.heap.size := by omega
  have xc0b : w2.cell? ⟨w.heap.size, 0, none⟩ = some (.int .i64 0) := (k.cell (b := w.heap.size) (o := 0) (by omega) (by omega)).trans xc0a
  have xf0b : w2.frozen? ⟨w.heap.size, 0, none⟩ = false := (k.frozen (b := w.heap.size) (o := 0) (by omega) (by omega)).trans xf0a
  have xc1b : w2.cell? ⟨w.heap.size, 1, none⟩ = some (.int .i64 0) := (k.cell (b := w.heap.size) (o := 1) (by omega) (by omega)).trans xc1a
  have xf1b : w2.frozen? ⟨w.heap.size, 1, none⟩ = false := (k.frozen (b := w.heap.size) (o := 1) (by omega) (by omega)).trans xf1a
  have xc2b : w2.cell? ⟨w.heap.size, 2, none⟩ = some (.int .i64 0) := (k.cell (b := w.heap.size) (o := 2) (by omega) (by omega)).trans xc2a
  have xf2b : w2.frozen? ⟨w.heap.size, 2, none⟩ = false := (k.frozen (b := w.heap.size) (o := 2) (by omega) (by omega)).trans xf2a
  have xc3b : w2.cell? ⟨w.heap.size, 3, none⟩ = some (.int .i64 0) := (k.cell (b := w.heap.size) (o := 3) (by omega) (by omega)).trans xc3a
  have xf3b : w2.frozen? ⟨w.heap.size, 3, none⟩ = false := (k.frozen (b := w.heap.size) (o := 3) (by omega) (by omega)).trans xf3a
  go_wp2_with fail
  refine (pick_any R a len' cap' p' 19 w2 (by omega) (by omega) hr2).mono ?_
  rintro e w3 ⟨v, rfl, bv1, bv2, k3, q3⟩
  have hw2 : w.heap.size < w2.heap.size := by omega
  have xc0d : w3.cell? ⟨w.heap.size, 0, none⟩ = some (.int .i64 0) := (k3.cell (b := w.heap.size) (o := 0) (by omega) (by omega)).trans xc0b
  have xf0d : w3.frozen? ⟨w.heap.size, 0, none⟩ = false := (k3.frozen (b := w.heap.size) (o := 0) (by omega) (by omega)).trans xf0b
  have xc1d : w3.cell? ⟨w.heap.size, 1, none⟩ = some (.int .i64 0) := (k3.cell (b := w.heap.size) (o := 1) (by omega) (by omega)).trans xc1b
  have xf1d : w3.frozen? ⟨w.heap.size, 1, none⟩ = false := (k3.frozen (b := w.heap.size) (o := 1) (by omega) (by omega)).trans xf1b
  have xc2d : w3.cell? ⟨w.heap.size, 2, none⟩ = some (.int .i64 0) := (k3.cell (b := w.heap.size) (o := 2) (by omega) (by omega)).trans xc2b
  have xf2d : w3.frozen? ⟨w.heap.size, 2, none⟩ = false := (k3.frozen (b := w.heap.size) (o := 2) (by omega) (by omega)).trans xf2b
  have xc3d : w3.cell? ⟨w.heap.size, 3, none⟩ = some (.int .i64 0) := (k3.cell (b := w.heap.size) (o := 3) (by omega) (by omega)).trans xc3b
  have xf3d : w3.frozen? ⟨w.heap.size, 3, none⟩ = false := (k3.frozen (b := w.heap.size) (o := 3) (by omega) (by omega)).trans xf3b
  have hbF : Below w.heap.size w w3 := bel_trans hbX (hb1.trans ((k.low.trans k3.low).mono h1))
  have hwv : IntKind.i64.wrap (v - 9) = v - 9 := IntWalk.i64_in _ (by omega)
  clear hr hr2 q3 xc0a xf0a xc0b xf0b xc1a xf1a xc1b xf1b xc2a xf2a xc2b xf2b xc3a xf3a xc3b xf3b
  go_wp2
  refine bodyPost_ret (v := .tuple #[.agg #[.int .i64 n0, .int .i64 m0, .int .i64 l0, .int .i64 t0], .int .i64 (v - 9)]) (by simp (maxDischargeDepth := 9) [results, Try.results22, go_sem, *]) rfl ⟨n0, m0, l0, t0, v - 9, rfl, ⟨b1, b2, b3, b4⟩, by omega, by omega, (by repeat (first | (with_reducible exact Below.refl _ _) | (with_reducible assumption) | (with_reducible refine bel_set ?_ (by first | (simp; done) | (simp; omega)) _) | (with_reducible refine bel_alloc ?_ _) | (with_reducible refine bel_drew ?_) | (with_reducible refine bel_drewN ?_ _) | (with_reducible refine bel_trans ?_ (by with_reducible assumption))))⟩

set_option maxRecDepth 20000 in
theorem drawaggtell_any (a : Option Addr) (len cap : Nat) (w : World) (hlc : len ≤ cap) (hlm : len ≤ 1048576) (hb : BytesAt w a len) (hl : ∀ g o, a = some ⟨g, o, none⟩ → 0 < len → g < w.heap.size) (hn : a = none → cap = 0) : Calls Try.prog 18 #[.slice a len cap] w fun e w' => AggOneD w 7 1 e w' := by
  have hbX : Below w.heap.size w (w.alloc (.cells #[.int .i64 0, .int .i64 0, .int .i64 0, .int .i64 0] 33)) := bel_one _ _
  have hb' := BytesAt.bel hb hl hbX
  have hl' : ∀ g o, a = some ⟨g, o, none⟩ → 0 < len → g < (w.alloc (.cells #[.int .i64 0, .int .i64 0, .int .i64 0, .int .i64 0] 33)).heap.size := fun g o ha hp => Nat.lt_of_lt_of_le (hl g o ha hp) hbX.size
  go_enter Try.func18, Try.ntmps18
  go_wp2_with fail
  refine (open_any a len cap _ hlc hlm hb' hl' hn).mono ?_
  rintro e w1 ⟨R, len', cap', rfl, h1, h2, hb1, hr⟩
  have h1' : w.heap.size < R := by simp at h1; omega
  have xc0a : w1.cell? ⟨w.heap.size, 0, none⟩ = some (.int .i64 0) := (hb1.cell (p := ⟨w.heap.size, 0, none⟩) (by simp <;> omega)).trans (by simp [go_sem])
  have xf0a : w1.frozen? ⟨w.heap.size, 0, none⟩ = false := (hb1.frozen (p := ⟨w.heap.size, 0, none⟩) (by simp <;> omega)).trans (by simp [go_sem])
  have xc1a : w1.cell? ⟨w.heap.size, 1, none⟩ = some (.int .i64 0) := (hb1.cell (p := ⟨w.heap.size, 1, none⟩) (by simp <;> omega)).trans (by simp [go_sem])
  have xf1a : w1.frozen? ⟨w.heap.size, 1, none⟩ = false := (hb1.frozen (p := ⟨w.heap.size, 1, none⟩) (by simp <;> omega)).trans (by simp [go_sem])
  have xc2a : w1.cell? ⟨w.heap.size, 2, none⟩ = some (.int .i64 0) := (hb1.cell (p := ⟨w.heap.size, 2, none⟩) (by simp <;> omega)).trans (by simp [go_sem])
  have xf2a : w1.frozen? ⟨w.heap.size, 2, none⟩ = false := (hb1.frozen (p := ⟨w.heap.size, 2, none⟩) (by simp <;> omega)).trans (by simp [go_sem])
  have xc3a : w1.cell? ⟨w.heap.size, 3, none⟩ = some (.int .i64 0) := (hb1.cell (p := ⟨w.heap.size, 3, none⟩) (by simp <;> omega)).trans (by simp [go_sem])
  have xf3a : w1.frozen? ⟨w.heap.size, 3, none⟩ = false := (hb1.frozen (p := ⟨w.heap.size, 3, none⟩) (by simp <;> omega)).trans (by simp [go_sem])
  clear hb hb' hl hl'
  go_wp2_with fail
  refine (agg_any R a len' cap' 0 12 w1 (by omega) (by omega) (by omega) h2 hr).mono ?_
  rintro e w2 ⟨n0, m0, l0, t0, rfl, b1, b2, b3, b4, k, p', hp', hr2⟩
  have h3 := k.low.size
  have hw1 : w.heap.size < w1.heap.size := by omega
  have h2' : R < w2.heap.size := by omega
  have xc0b : w2.cell? ⟨w.heap.size, 0, none⟩ = some (.int .i64 0) := (k.cell (b := w.heap.size) (o := 0) (by omega) (by omega)).trans xc0a
  have xf0b : w2.frozen? ⟨w.heap.size, 0, none⟩ = false := (k.frozen (b := w.heap.size) (o := 0) (by omega) (by omega)).trans xf0a
  have xc1b : w2.cell? ⟨w.heap.size, 1, none⟩ = some (.int .i64 0) := (k.cell (b := w.heap.size) (o := 1) (by omega) (by omega)).trans xc1a
  have xf1b : w2.frozen? ⟨w.heap.size, 1, none⟩ = false := (k.frozen (b := w.heap.size) (o := 1) (by omega) (by omega)).trans xf1a
  have xc2b : w2.cell? ⟨w.heap.size, 2, none⟩ = some (.int .i64 0) := (k.cell (b := w.heap.size) (o := 2) (by omega) (by omega)).trans xc2a
  have xf2b : w2.frozen? ⟨w.heap.size, 2, none⟩ = false := (k.frozen (b := w.heap.size) (o := 2) (by omega) (by omega)).trans xf2a
  have xc3b : w2.cell? ⟨w.heap.size, 3, none⟩ = some (.int .i64 0) := (k.cell (b := w.heap.size) (o := 3) (by omega) (by omega)).trans xc3a
  have xf3b : w2.frozen? ⟨w.heap.size, 3, none⟩ = false := (k.frozen (b := w.heap.size) (o := 3) (by omega) (by omega)).trans xf3a
  go_wp2_with fail
  refine (pick_any R a len' cap' p' 7 w2 (by omega) (by omega) hr2).mono ?_
  rintro e w3 ⟨v, rfl, bv1, bv2, k3, q3⟩
  have hw2 : w.heap.size < w2.heap.size := by omega
  have xc0d : w3.cell? ⟨w.heap.size, 0, none⟩ = some (.int .i64 0) := (k3.cell (b := w.heap.size) (o := 0) (by omega) (by omega)).trans xc0b
  have xf0d : w3.frozen? ⟨w.heap.size, 0, none⟩ = false := (k3.frozen (b := w.heap.size) (o := 0) (by omega) (by omega)).trans xf0b
  have xc1d : w3.cell? ⟨w.heap.size, 1, none⟩ = some (.int .i64 0) := (k3.cell (b := w.heap.size) (o := 1) (by omega) (by omega)).trans xc1b
  have xf1d : w3.frozen? ⟨w.heap.size, 1, none⟩ = false := (k3.frozen (b := w.heap.size) (o := 1) (by omega) (by omega)).trans xf1b
  have xc2d : w3.cell? ⟨w.heap.size, 2, none⟩ = some (.int .i64 0) := (k3.cell (b := w.heap.size) (o := 2) (by omega) (by omega)).trans xc2b
  have xf2d : w3.frozen? ⟨w.heap.size, 2, none⟩ = false := (k3.frozen (b := w.heap.size) (o := 2) (by omega) (by omega)).trans xf2b
  have xc3d : w3.cell? ⟨w.heap.size, 3, none⟩ = some (.int .i64 0) := (k3.cell (b := w.heap.size) (o := 3) (by omega) (by omega)).trans xc3b
  have xf3d : w3.frozen? ⟨w.heap.size, 3, none⟩ = false := (k3.frozen (b := w.heap.size) (o := 3) (by omega) (by omega)).trans xf3b
  have hbF : Below w.heap.size w w3 := bel_trans hbX (hb1.trans ((k.low.trans k3.low).mono h1))
  have hwv : IntKind.i64.wrap (v - 1) = v - 1 := IntWalk.i64_in _ (by omega)
  clear hr hr2 q3 xc0a xf0a xc0b xf0b xc1a xf1a xc1b xf1b xc2a xf2a xc2b xf2b xc3a xf3a xc3b xf3b
  go_wp2
  refine bodyPost_ret (v := .tuple #[.agg #[.int .i64 n0, .int .i64 m0, .int .i64 l0, .int .i64 t0], .int .i64 (v - 1)]) (by simp (maxDischargeDepth := 9) [results, Try.results18, go_sem, *]) rfl ⟨n0, m0, l0, t0, v - 1, rfl, ⟨b1, b2, b3, b4⟩, by omega, by omega, (by repeat (first | (with_reducible exact Below.refl _ _) | (with_reducible assumption) | (with_reducible refine bel_set ?_ (by first | (simp; done) | (simp; omega)) _) | (with_reducible refine bel_alloc ?_ _) | (with_reducible refine bel_drew ?_) | (with_reducible refine bel_drewN ?_ _) | (with_reducible refine bel_trans ?_ (by with_reducible assumption))))⟩

theorem frok_any (w : World) : Calls Try.prog 14 #[] w fun e w' => e = .returned (.bool true) ∧ Below w.heap.size w w' := by
  have ho : okWin 0 1 = true := by decide
  go_enter Try.func14, Try.ntmps14
  go_wp2_with (go_at_call 13; refine (implwinok_any _ _ _).mono ?_; rintro e w' ⟨rfl, hb⟩)
  go_ret
  exact ⟨by first | rfl | rw [ho], (by repeat (first | (with_reducible exact Below.refl _ _) | (with_reducible assumption) | (with_reducible refine bel_set ?_ (by first | (simp; done) | (simp; omega)) _) | (with_reducible refine bel_alloc ?_ _) | (with_reducible refine bel_drew ?_) | (with_reducible refine bel_drewN ?_ _) | (with_reducible refine bel_trans ?_ (by with_reducible assumption))))⟩
end Go.Proofs.Ytbnhegfimdhddaa
