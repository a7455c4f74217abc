/- Proved here: what is known of two lots of values is drawn of a code; both in either order, and with brackets anywhere. -/
import Derived.Test.YtbnhegfimdhddaaAddP
namespace Go.Proofs.Ytbnhegfimdhddaa
open Go.ChangeShapes Go.WideShapes Go.ChangeAt Go.RowKit
set_option linter.unusedVariables false

/-- What is known of two lots of values, drawn of a code. -/
def AggTwoD (w : World) (e : Ending) (w' : World) : Prop := ∃ n0 m0 l0 t0 n2 m2 l2 t2 : Int, e = .returned (.tuple #[.agg #[.int .i64 n0, .int .i64 m0, .int .i64 l0, .int .i64 t0], .agg #[.int .i64 n2, .int .i64 m2, .int .i64 l2, .int .i64 t2]]) ∧ ((-10 ≤ n0 ∧ (n0 ≤ 10 ∨ n0 = 1001)) ∧ (-8000 ≤ m0 ∧ m0 ≤ 8000) ∧ (-10 ≤ l0 ∧ l0 ≤ 1001) ∧ (-10 ≤ t0 ∧ t0 ≤ 1001)) ∧ ((-10 ≤ n2 ∧ (n2 ≤ 10 ∨ n2 = 1001)) ∧ (-8000 ≤ m2 ∧ m2 ≤ 8000) ∧ (-10 ≤ l2 ∧ l2 ≤ 1001) ∧ (-10 ≤ t2 ∧ t2 ≤ 1001)) ∧ Below w.heap.size w w'

set_option maxRecDepth 20000 in
set_option maxHeartbeats 1000000 in
theorem drawaggboth_any (a : Option Addr) (len cap : Nat) (w : World) (hlc : len ≤ cap) (hlm : len ≤ 1048576) (hb : BytesAt w a len) (hl : ∀ g o, a = some ⟨g, o, none⟩ → 0 < len → g < w.heap.size) (hn : a = none → cap = 0) : Calls Try.prog 27 #[.slice a len cap] w fun e w' => AggTwoD w e w' := by
  have hbX : Below w.heap.size w ((w.alloc (.cells #[.int .i64 0, .int .i64 0, .int .i64 0, .int .i64 0] 33)).alloc (.cells #[.int .i64 0, .int .i64 0, .int .i64 0, .int .i64 0] 33)) := bel_alloc (bel_one _ _) _
  have hb' := BytesAt.bel hb hl hbX
  have hl' : ∀ g o, a = some ⟨g, o, none⟩ → 0 < len → g < ((w.alloc (.cells #[.int .i64 0, .int .i64 0, .int .i64 0, .int .i64 0] 33)).alloc (.cells #[.int .i64 0, .int .i64 0, .int .i64 0, .int .i64 0] 33)).heap.size := fun g o ha hp => Nat.lt_of_lt_of_le (hl g o ha hp) hbX.size
  go_enter Try.func27, Try.ntmps27
  go_wp2_with fail
  refine (open_any a len cap _ hlc hlm hb' hl' hn).mono ?_
  rintro e w1 ⟨R, len', cap', rfl, h1, h2, hb1, hr⟩
  have h1' : w.heap.size + 1 < R := by simp at h1; omega
  have xc0a : w1.cell? ⟨w.heap.size, 0, none⟩ = some (.int .i64 0) := (hb1.cell (p := ⟨w.heap.size, 0, none⟩) (by simp <;> omega)).trans (by simp [go_sem])
  have xf0a : w1.frozen? ⟨w.heap.size, 0, none⟩ = false := (hb1.frozen (p := ⟨w.heap.size, 0, none⟩) (by simp <;> omega)).trans (by simp [go_sem])
  have xc1a : w1.cell? ⟨w.heap.size, 1, none⟩ = some (.int .i64 0) := (hb1.cell (p := ⟨w.heap.size, 1, none⟩) (by simp <;> omega)).trans (by simp [go_sem])
  have xf1a : w1.frozen? ⟨w.heap.size, 1, none⟩ = false := (hb1.frozen (p := ⟨w.heap.size, 1, none⟩) (by simp <;> omega)).trans (by simp [go_sem])
  have xc2a : w1.cell? ⟨w.heap.size, 2, none⟩ = some (.int .i64 0) := (hb1.cell (p := ⟨w.heap.size, 2, none⟩) (by simp <;> omega)).trans (by simp [go_sem])
  have xf2a : w1.frozen? ⟨w.heap.size, 2, none⟩ = false := (hb1.frozen (p := ⟨w.heap.size, 2, none⟩) (by simp <;> omega)).trans (by simp [go_sem])
  have xc3a : w1.cell? ⟨w.heap.size, 3, none⟩ = some (.int .i64 0) := (hb1.cell (p := ⟨w.heap.size, 3, none⟩) (by simp <;> omega)).trans (by simp [go_sem])
  have xf3a : w1.frozen? ⟨w.heap.size, 3, none⟩ = false := (hb1.frozen (p := ⟨w.heap.size, 3, none⟩) (by simp <;> omega)).trans (by simp [go_sem])
  have yc0a : w1.cell? ⟨w.heap.size + 1, 0, none⟩ = some (.int .i64 0) := (hb1.cell (p := ⟨w.heap.size + 1, 0, none⟩) (by simp <;> omega)).trans (by simp [go_sem])
  have yf0a : w1.frozen? ⟨w.heap.size + 1, 0, none⟩ = false := (hb1.frozen (p := ⟨w.heap.size + 1, 0, none⟩) (by simp <;> omega)).trans (by simp [go_sem])
  have yc1a : w1.cell? ⟨w.heap.size + 1, 1, none⟩ = some (.int .i64 0) := (hb1.cell (p := ⟨w.heap.size + 1, 1, none⟩) (by simp <;> omega)).trans (by simp [go_sem])
  have yf1a : w1.frozen? ⟨w.heap.size + 1, 1, none⟩ = false := (hb1.frozen (p := ⟨w.heap.size + 1, 1, none⟩) (by simp <;> omega)).trans (by simp [go_sem])
  have yc2a : w1.cell? ⟨w.heap.size + 1, 2, none⟩ = some (.int .i64 0) := (hb1.cell (p := ⟨w.heap.size + 1, 2, none⟩) (by simp <;> omega)).trans (by simp [go_sem])
  have yf2a : w1.frozen? ⟨w.heap.size + 1, 2, none⟩ = false := (hb1.frozen (p := ⟨w.heap.size + 1, 2, none⟩) (by simp <;> omega)).trans (by simp [go_sem])
  have yc3a : w1.cell? ⟨w.heap.size + 1, 3, none⟩ = some (.int .i64 0) := (hb1.cell (p := ⟨w.heap.size + 1, 3, none⟩) (by simp <;> omega)).trans (by simp [go_sem])
  have yf3a : w1.frozen? ⟨w.heap.size + 1, 3, none⟩ = false := (hb1.frozen (p := ⟨w.heap.size + 1, 3, none⟩) (by simp <;> omega)).trans (by simp [go_sem])
  clear hb hb' hl hl'
  go_wp2_with fail
  refine (agg_any R a len' cap' 0 12 w1 (by omega) (by omega) (by omega) h2 hr).mono ?_
  rintro e w2 ⟨n0, m0, l0, t0, rfl, b1, b2, b3, b4, k, p', hp', hr2⟩
  have h3 := k.low.size
  have h2' : R < w2.heap.size := by omega
  have xc0b : w2.cell? ⟨w.heap.size, 0, none⟩ = some (.int .i64 0) := (k.cell (b := w.heap.size) (o := 0) (by omega) (by omega)).trans xc0a
  have xf0b : w2.frozen? ⟨w.heap.size, 0, none⟩ = false := (k.frozen (b := w.heap.size) (o := 0) (by omega) (by omega)).trans xf0a
  have xc1b : w2.cell? ⟨w.heap.size, 1, none⟩ = some (.int .i64 0) := (k.cell (b := w.heap.size) (o := 1) (by omega) (by omega)).trans xc1a
  have xf1b : w2.frozen? ⟨w.heap.size, 1, none⟩ = false := (k.frozen (b := w.heap.size) (o := 1) (by omega) (by omega)).trans xf1a
  have xc2b : w2.cell? ⟨w.heap.size, 2, none⟩ = some (.int .i64 0) := (k.cell (b := w.heap.size) (o := 2) (by omega) (by omega)).trans xc2a
  have xf2b : w2.frozen? ⟨w.heap.size, 2, none⟩ = false := (k.frozen (b := w.heap.size) (o := 2) (by omega) (by omega)).trans xf2a
  have xc3b : w2.cell? ⟨w.heap.size, 3, none⟩ = some (.int .i64 0) := (k.cell (b := w.heap.size) (o := 3) (by omega) (by omega)).trans xc3a
  have xf3b : w2.frozen? ⟨w.heap.size, 3, none⟩ = false := (k.frozen (b := w.heap.size) (o := 3) (by omega) (by omega)).trans xf3a
  have yc0b : w2.cell? ⟨w.heap.size + 1, 0, none⟩ = some (.int .i64 0) := (k.cell (b := w.heap.size + 1) (o := 0) (by omega) (by omega)).trans yc0a
  have yf0b : w2.frozen? ⟨w.heap.size + 1, 0, none⟩ = false := (k.frozen (b := w.heap.size + 1) (o := 0) (by omega) (by omega)).trans yf0a
  have yc1b : w2.cell? ⟨w.heap.size + 1, 1, none⟩ = some (.int .i64 0) := (k.cell (b := w.heap.size + 1) (o := 1) (by omega) (by omega)).trans yc1a
  have yf1b : w2.frozen? ⟨w.heap.size + 1, 1, none⟩ = false := (k.frozen (b := w.heap.size + 1) (o := 1) (by omega) (by omega)).trans yf1a
  have yc2b : w2.cell? ⟨w.heap.size + 1, 2, none⟩ = some (.int .i64 0) := (k.cell (b := w.heap.size + 1) (o := 2) (by omega) (by omega)).trans yc2a
  have yf2b : w2.frozen? ⟨w.heap.size + 1, 2, none⟩ = false := (k.frozen (b := w.heap.size + 1) (o := 2) (by omega) (by omega)).trans yf2a
  have yc3b : w2.cell? ⟨w.heap.size + 1, 3, none⟩ = some (.int .i64 0) := (k.cell (b := w.heap.size + 1) (o := 3) (by omega) (by omega)).trans yc3a
  have yf3b : w2.frozen? ⟨w.heap.size + 1, 3, none⟩ = false := (k.frozen (b := w.heap.size + 1) (o := 3) (by omega) (by omega)).trans yf3a
  clear xc0a xf0a xc1a xf1a xc2a xf2a xc3a xf3a yc0a yf0a yc1a yf1a yc2a yf2a yc3a yf3a
  go_wp2_with fail
  refine (agg_any R a len' cap' p' 12 w2 (by omega) (by omega) (by omega) h2' hr2).mono ?_
  rintro e w3 ⟨n2, m2, l2, t2, rfl, d1, d2, d3, d4, k3, p3, hp3, hr3⟩
  have h4 := k3.low.size
  have xc0d : w3.cell? ⟨w.heap.size, 0, none⟩ = some (.int .i64 0) := (k3.cell (b := w.heap.size) (o := 0) (by omega) (by omega)).trans xc0b
  have xf0d : w3.frozen? ⟨w.heap.size, 0, none⟩ = false := (k3.frozen (b := w.heap.size) (o := 0) (by omega) (by omega)).trans xf0b
  have xc1d : w3.cell? ⟨w.heap.size, 1, none⟩ = some (.int .i64 0) := (k3.cell (b := w.heap.size) (o := 1) (by omega) (by omega)).trans xc1b
  have xf1d : w3.frozen? ⟨w.heap.size, 1, none⟩ = false := (k3.frozen (b := w.heap.size) (o := 1) (by omega) (by omega)).trans xf1b
  have xc2d : w3.cell? ⟨w.heap.size, 2, none⟩ = some (.int .i64 0) := (k3.cell (b := w.heap.size) (o := 2) (by omega) (by omega)).trans xc2b
  have xf2d : w3.frozen? ⟨w.heap.size, 2, none⟩ = false := (k3.frozen (b := w.heap.size) (o := 2) (by omega) (by omega)).trans xf2b
  have xc3d : w3.cell? ⟨w.heap.size, 3, none⟩ = some (.int .i64 0) := (k3.cell (b := w.heap.size) (o := 3) (by omega) (by omega)).trans xc3b
  have xf3d : w3.frozen? ⟨w.heap.size, 3, none⟩ = false := (k3.frozen (b := w.heap.size) (o := 3) (by omega) (by omega)).trans xf3b
  have yc0d : w3.cell? ⟨w.heap.size + 1, 0, none⟩ = some (.int .i64 0) := (k3.cell (b := w.heap.size + 1) (o := 0) (by omega) (by omega)).trans yc0b
  have yf0d : w3.frozen? ⟨w.heap.size + 1, 0, none⟩ = false := (k3.frozen (b := w.heap.size + 1) (o := 0) (by omega) (by omega)).trans yf0b
  have yc1d : w3.cell? ⟨w.heap.size + 1, 1, none⟩ = some (.int .i64 0) := (k3.cell (b := w.heap.size + 1) (o := 1) (by omega) (by omega)).trans yc1b
  have yf1d : w3.frozen? ⟨w.heap.size + 1, 1, none⟩ = false := (k3.frozen (b := w.heap.size + 1) (o := 1) (by omega) (by omega)).trans yf1b
  have yc2d : w3.cell? ⟨w.heap.size + 1, 2, none⟩ = some (.int .i64 0) := (k3.cell (b := w.heap.size + 1) (o := 2) (by omega) (by omega)).trans yc2b
  have yf2d : w3.frozen? ⟨w.heap.size + 1, 2, none⟩ = false := (k3.frozen (b := w.heap.size + 1) (o := 2) (by omega) (by omega)).trans yf2b
  have yc3d : w3.cell? ⟨w.heap.size + 1, 3, none⟩ = some (.int .i64 0) := (k3.cell (b := w.heap.size + 1) (o := 3) (by omega) (by omega)).trans yc3b
  have yf3d : w3.frozen? ⟨w.heap.size + 1, 3, none⟩ = false := (k3.frozen (b := w.heap.size + 1) (o := 3) (by omega) (by omega)).trans yf3b
  clear xc0b xf0b xc1b xf1b xc2b xf2b xc3b xf3b yc0b yf0b yc1b yf1b yc2b yf2b yc3b yf3b
  have hbF : Below w.heap.size w w3 := bel_trans hbX (hb1.trans ((k.low.trans k3.low).mono h1))
  clear hr hr2 hr3
  go_wp2
  refine bodyPost_ret (v := .tuple #[.agg #[.int .i64 n0, .int .i64 m0, .int .i64 l0, .int .i64 t0], .agg #[.int .i64 n2, .int .i64 m2, .int .i64 l2, .int .i64 t2]]) (by simp (maxDischargeDepth := 9) [results, Try.results27, go_sem, *]) rfl ⟨n0, m0, l0, t0, n2, m2, l2, t2, rfl, ⟨b1, b2, b3, b4⟩, ⟨d1, d2, d3, d4⟩, (by repeat (first | (with_reducible exact Below.refl _ _) | (with_reducible assumption) | (with_reducible refine bel_set ?_ (by first | (simp; done) | (simp; omega)) _) | (with_reducible refine bel_alloc ?_ _) | (with_reducible refine bel_drew ?_) | (with_reducible refine bel_drewN ?_ _) | (with_reducible refine bel_trans ?_ (by with_reducible assumption))))⟩

theorem implboth_c {na ma la ta nb mb lb tb nc mc lc tc : Int} (w : World) (h : Hid (bo na nb na nb (wrap64 (na + nb)) = nc ∧ bo na nb ma mb (wrap64 (ma + mb)) = mc ∧ bo na nb la lb (loI la lb) = lc ∧ bo na nb ta tb (hiI ta tb) = tc)) : Calls Try.prog 26 #[.agg #[.int .i64 na, .int .i64 ma, .int .i64 la, .int .i64 ta], .agg #[.int .i64 nb, .int .i64 mb, .int .i64 lb, .int .i64 tb]] w fun e w' => e = .returned (.agg #[.int .i64 nc, .int .i64 mc, .int .i64 lc, .int .i64 tc]) ∧ Below w.heap.size w w' := by
  have := implboth_any na ma la ta nb mb lb tb w
  obtain ⟨h1, h2, h3, h4⟩ := unhide h
  rw [h1, h2, h3, h4] at this
  exact this
theorem specboth_c {na ma la ta nb mb lb tb nc mc lc tc : Int} (w : World) (h : Hid (bo na nb na nb (wrap64 (na + nb)) = nc ∧ bo na nb ma mb (wrap64 (ma + mb)) = mc ∧ bo na nb la lb (loI la lb) = lc ∧ bo na nb ta tb (hiI ta tb) = tc)) : Calls Try.prog 28 #[.agg #[.int .i64 na, .int .i64 ma, .int .i64 la, .int .i64 ta], .agg #[.int .i64 nb, .int .i64 mb, .int .i64 lb, .int .i64 tb]] w fun e w' => e = .returned (.agg #[.int .i64 nc, .int .i64 mc, .int .i64 lc, .int .i64 tc]) ∧ Below w.heap.size w w' := by
  have := specboth_any na ma la ta nb mb lb tb w
  obtain ⟨h1, h2, h3, h4⟩ := unhide h
  rw [h1, h2, h3, h4] at this
  exact this
/-- Known of values: nothing, or so many, within what is drawn. -/
def Kn (n m l t : Int) (N : Int) : Prop := (n = 0 ∧ m = 0 ∧ l = 0 ∧ t = 0) ∨ (1 ≤ n ∧ n ≤ N ∧ (-9 ≤ l ∧ l ≤ t ∧ t ≤ 9) ∧ n * l ≤ m ∧ m ≤ n * t)
theorem Kn.of_ok {n m l t : Int} (h : okAgg n m l t = true) (hb : n ≤ 10 ∨ n = 1001) : Kn n m l t 10 := by
  by_cases hz : n = 0
  · subst hz
    exact Or.inl ⟨rfl, ok0 h⟩
  · rw [okAgg_n hz] at h
    simp only [Bool.and_eq_true, inB_iff] at h
    exact Or.inr ⟨h.1.1.1.1, by omega, ⟨h.1.1.2.1, h.1.2.1, h.1.2.2⟩, h.2.1, h.2.2⟩
theorem Kn.ok {n m l t N : Int} (h : Kn n m l t N) (hN : N ≤ 1000) : okAgg n m l t = true := by
  rcases h with ⟨rfl, rfl, rfl, rfl⟩ | ⟨h1, h2, ⟨h3, h4, h5⟩, h6, h7⟩
  · rfl
  · rw [okAgg_n (by omega)]
    simp only [Bool.and_eq_true, inB_iff]
    exact ⟨⟨⟨⟨h1, by omega⟩, h3, by omega⟩, h4, h5⟩, h6, h7⟩
theorem Kn.bd {n m l t N : Int} (h : Kn n m l t N) (hN : 0 ≤ N) (hN2 : N ≤ 100) : -900 ≤ m ∧ m ≤ 900 ∧ 0 ≤ n ∧ n ≤ N := by
  rcases h with ⟨rfl, rfl, rfl, rfl⟩ | ⟨h1, h2, ⟨h3, h4, h5⟩, h6, h7⟩
  · omega
  · have p1 := Int.mul_le_mul_of_nonneg_left h3 (show (0 : Int) ≤ n by omega)
    have p2 := Int.mul_le_mul_of_nonneg_left h5 (show (0 : Int) ≤ n by omega)
    omega
/-- What is known of both, as numbers. -/
def bN (n m : Int) : Int := n + m
def bL (n n' l l' : Int) : Int := if n = 0 then l' else if n' = 0 then l else loI l l'
def bT (n n' t t' : Int) : Int := if n = 0 then t' else if n' = 0 then t else hiI t t'
theorem both_is {n0 m0 l0 t0 n2 m2 l2 t2 N M : Int} (h : Kn n0 m0 l0 t0 N) (k : Kn n2 m2 l2 t2 M) (h0 : 0 ≤ N) (k0 : 0 ≤ M) (hN : N ≤ 100) (hM : M ≤ 100) : (bo n0 n2 n0 n2 (wrap64 (n0 + n2)) = (n0 + n2) ∧ bo n0 n2 m0 m2 (wrap64 (m0 + m2)) = (m0 + m2) ∧ bo n0 n2 l0 l2 (loI l0 l2) = (bL n0 n2 l0 l2) ∧ bo n0 n2 t0 t2 (hiI t0 t2) = (bT n0 n2 t0 t2)) ∧ Kn (n0 + n2) (m0 + m2) (bL n0 n2 l0 l2) (bT n0 n2 t0 t2) (N + M) := by
  have bd1 := h.bd h0 hN
  have bd2 := k.bd k0 hM
  have w1 : wrap64 (n0 + n2) = n0 + n2 := by unfold wrap64; omega
  have w2 : wrap64 (m0 + m2) = m0 + m2 := by unfold wrap64; omega
  rw [w1, w2]
  rcases h with ⟨rfl, rfl, rfl, rfl⟩ | ⟨h1, h2, ⟨h3, h4, h5⟩, h6, h7⟩
  · refine ⟨⟨by simp [bo], by simp [bo], rfl, rfl⟩, ?_⟩
    simp only [Int.zero_add, bL, bT, if_true]
    rcases k with k | ⟨k1, k2, k3⟩
    · exact Or.inl k
    · exact Or.inr ⟨k1, by omega, k3⟩
  · have z1 : n0 ≠ 0 := by omega
    rcases k with ⟨rfl, rfl, rfl, rfl⟩ | ⟨k1, k2, ⟨k3, k4, k5⟩, k6, k7⟩
    · refine ⟨⟨by simp [bo, z1], by simp [bo, z1], by simp [bo, bL, z1], by simp [bo, bT, z1]⟩, ?_⟩
      have e1 : bL n0 0 l0 0 = l0 := by unfold bL; rw [if_neg z1, if_pos rfl]
      have e2 : bT n0 0 t0 0 = t0 := by unfold bT; rw [if_neg z1, if_pos rfl]
      rw [e1, e2, Int.add_zero, Int.add_zero]
      exact Or.inr ⟨h1, by omega, ⟨h3, h4, h5⟩, h6, h7⟩
    · have z2 : n2 ≠ 0 := by omega
      refine ⟨⟨by simp [bo, z1, z2], by simp [bo, z1, z2], by simp [bo, bL, z1, z2], by simp [bo, bT, z1, z2]⟩, ?_⟩
      have e1 : bL n0 n2 l0 l2 = loI l0 l2 := by unfold bL; rw [if_neg z1, if_neg z2]
      have e2 : bT n0 n2 t0 t2 = hiI t0 t2 := by unfold bT; rw [if_neg z1, if_neg z2]
      rw [e1, e2]
      have q1 : loI l0 l2 ≤ l0 := by unfold loI; split <;> omega
      have q2 : loI l0 l2 ≤ l2 := by unfold loI; split <;> omega
      have q3 : t0 ≤ hiI t0 t2 := by unfold hiI; split <;> omega
      have q4 : t2 ≤ hiI t0 t2 := by unfold hiI; split <;> omega
      have q5 : -9 ≤ loI l0 l2 := by unfold loI; split <;> omega
      have q6 : hiI t0 t2 ≤ 9 := by unfold hiI; split <;> omega
      have p1 := Int.mul_le_mul_of_nonneg_left q1 (show (0 : Int) ≤ n0 by omega)
      have p2 := Int.mul_le_mul_of_nonneg_left q2 (show (0 : Int) ≤ n2 by omega)
      have p3 := Int.mul_le_mul_of_nonneg_left q3 (show (0 : Int) ≤ n0 by omega)
      have p4 := Int.mul_le_mul_of_nonneg_left q4 (show (0 : Int) ≤ n2 by omega)
      refine Or.inr ⟨by omega, by omega, ⟨q5, by omega, q6⟩, ?_, ?_⟩
      · rw [Int.add_mul]; omega
      · rw [Int.add_mul]; omega
theorem bL_comm (n n' l l' : Int) (h : n = 0 → l = 0) (h' : n' = 0 → l' = 0) : bL n n' l l' = bL n' n l' l := by
  unfold bL loI
  split <;> split <;> (try split) <;> (try split) <;> omega
theorem bT_comm (n n' l l' : Int) (h : n = 0 → l = 0) (h' : n' = 0 → l' = 0) : bT n n' l l' = bT n' n l' l := by
  unfold bT hiI
  split <;> split <;> (try split) <;> (try split) <;> omega
theorem bL_assoc (n n' n'' l l' l'' : Int) (h : 0 ≤ n) (h' : 0 ≤ n') (h'' : 0 ≤ n'') : bL (n + n') n'' (bL n n' l l') l'' = bL n (n' + n'') l (bL n' n'' l' l'') := by
  unfold bL loI
  by_cases a : n = 0 <;> by_cases b : n' = 0 <;> by_cases c : n'' = 0
  all_goals
    (try subst a) <;> (try subst b) <;> (try subst c)
    simp_all
    try omega
  all_goals
    repeat' split
    all_goals omega
theorem bT_assoc (n n' n'' l l' l'' : Int) (h : 0 ≤ n) (h' : 0 ≤ n') (h'' : 0 ≤ n'') : bT (n + n') n'' (bT n n' l l') l'' = bT n (n' + n'') l (bT n' n'' l' l'') := by
  unfold bT hiI
  by_cases a : n = 0 <;> by_cases b : n' = 0 <;> by_cases c : n'' = 0
  all_goals
    (try subst a) <;> (try subst b) <;> (try subst c)
    simp_all
    try omega
  all_goals
    repeat' split
    all_goals omega
theorem Kn.z {n m l t N : Int} (h : Kn n m l t N) : (n = 0 → l = 0) ∧ (n = 0 → t = 0) ∧ 0 ≤ n := by
  rcases h with ⟨rfl, rfl, rfl, rfl⟩ | ⟨h1, h2, _⟩
  · simp
  · omega
theorem Kn.nil : Kn 0 0 0 0 0 := Or.inl ⟨rfl, rfl, rfl, rfl⟩
end Go.Proofs.Ytbnhegfimdhddaa
