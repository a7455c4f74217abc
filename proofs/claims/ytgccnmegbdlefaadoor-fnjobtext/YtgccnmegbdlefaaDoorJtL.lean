/- Proved here: the law on a job's lines returns true at every two codes. -/
import Derived.Test.YtgccnmegbdlefaaDoorJtD
import Derived.Test.YtgccnmegbdlefaaDoorJtM
import Derived.Test.YtgccnmegbdlefaaDoorJpL
import Derived.Test.YtgccnmegbdlefaaDoorJpQ
import Derived.Test.YtgccnmegbdlefaaDoorJpP3
namespace Go.Proofs.YtgccnmegbdlefaaDoor
open Go.ChangeShapes Go.WideShapes Go.ChangeAt Go.RowKit
set_option linter.unusedVariables false
set_option linter.unusedSimpArgs false

set_option maxRecDepth 20000 in
set_option maxHeartbeats 1000000 in
theorem frtx_any (a1 a2 : Option Addr) (len cap1 cap2 : Nat) (xs : List StR) (w : World) (h1 : StRs w a1 len xs) (h2 : StRs w a2 len xs) : Calls Tryd.prog 11 #[.slice a1 len cap1, .slice a2 len cap2] w fun e w' => e = .returned (.bool true) ∧ Below w.heap.size w w' := by
  have hm := h1.2.1
  unfold maxLen at hm
  go_enter Tryd.func11, Tryd.ntmps11
  go_wp2
  go_loopw [5] (fun i wr => ∃ k : Nat, k ≤ len ∧ i = .int .i64 k ∧ Below w.heap.size w wr) (fun i _ => len - (intOf i).toNat)
  case atStart => exact ⟨0, Nat.zero_le _, rfl, Below.refl _ _⟩
  case round =>
    obtain ⟨k, hk, rfl, hbw⟩ := hrel
    by_cases hlt : k < len
    · obtain ⟨hl1, _, hx1⟩ := h1
      obtain ⟨hl2, _, hx2⟩ := h2
      obtain ⟨g1, o1, rfl, hr1⟩ := hx1.resolve_left (by omega)
      obtain ⟨g2, o2, rfl, hr2⟩ := hx2.resolve_left (by omega)
      obtain ⟨x, hxk⟩ : ∃ x, xs[k]? = some x := ⟨_, List.getElem?_eq_getElem (by omega)⟩
      have t1 : wr.cell? ⟨g1, o1 + k * 1, none⟩ = some (.string x.s) := (hbw.cell (p := ⟨g1, _, none⟩) (hr1 k x hxk).lt).trans (hr1 k x hxk)
      have t2 : wr.cell? ⟨g2, o2 + k * 1, none⟩ = some (.string x.s) := (hbw.cell (p := ⟨g2, _, none⟩) (hr2 k x hxk).lt).trans (hr2 k x hxk)
      simp only [Nat.mul_one] at t1 t2
      clear hx1 hx2 hxk hr1 hr2
      go_wp2_with fail
      go_quiet (fail)
      go_wp2
      go_roundw
      case rel => exact ⟨k + 1, by omega, by go_num, (by repeat (first | (with_reducible exact Below.refl _ _) | (with_reducible assumption) | (with_reducible refine bel_set ?_ (by first | (simp; done) | (simp; omega)) _) | (with_reducible refine bel_alloc ?_ _) | (with_reducible refine bel_drew ?_) | (with_reducible refine bel_drewN ?_ _) | (with_reducible refine bel_trans ?_ (by with_reducible assumption))))⟩
      case measure => simp [intOf]; omega
    · go_wp2
      go_ret
      exact ⟨rfl, hbw⟩
theorem holdN {W : World} {B : Nat} {v : Value} {ys : List StR} (h : OwnSt W B v ys) (hl : ys.length ≤ 1048576) : ∃ a n cap, v = .slice a n cap ∧ ys.length = n ∧ StRs W a n ys := by
  obtain ⟨a, cap, h1, h2, _⟩ := holdSt h hl
  exact ⟨a, _, cap, h1, rfl, h2⟩
theorem hold3 {W : World} {B : Nat} {v : Value} {L : List ByteArray} (h : OwnSt W B v (stL L)) (hl : L.length ≤ 1048576) : ∃ a n cap, v = .slice a n cap ∧ L.length = n ∧ StRs W a n (stL L) ∧ (0 < n → ∃ g, a = some ⟨g, 0, none⟩ ∧ n ≤ cap) := by
  rcases Nat.eq_zero_or_pos L.length with h0 | h0
  · obtain ⟨a, n, cap, h1, h2, h3⟩ := holdN h (by rw [stL_len]; omega)
    rw [stL_len] at h2
    exact ⟨a, n, cap, h1, h2, h3, fun h9 => by omega⟩
  · obtain ⟨g, c, rfl, _, _, hc⟩ := ownSt_shape h h0
    obtain ⟨a, n, cap, h1, h2, h3⟩ := holdN h (by rw [stL_len]; omega)
    simp only [Value.slice.injEq] at h1
    obtain ⟨rfl, rfl, rfl⟩ := h1
    exact ⟨_, _, _, rfl, rfl, h3, fun _ => ⟨g, rfl, hc⟩⟩
theorem ex_sz : ∀ x ∈ exJ, x.size ≤ 1048576 := by
  intro x hx
  simp only [exJ, List.mem_cons, List.not_mem_nil, or_false] at hx
  rcases hx with rfl | rfl <;> decide
theorem st_lit {W : World} {g : Nat} (hg : g = W.heap.size) : StRs (W.alloc (.cells #[.string ⟨#[115, 111, 117, 114, 99, 101, 115, 32, 49]⟩, .string ⟨#[120]⟩] 9)) (some ⟨g, 0, none⟩) 2 (stL exJ) := by
  subst hg
  refine ⟨rfl, by decide, Or.inr ⟨_, 0, rfl, fun i x hx => ?_⟩⟩
  rw [st_map] at hx
  match i, hx with
  | 0, hx => obtain rfl := Option.some.inj hx; show World.cell? _ _ = _; simp [go_sem]
  | 1, hx => obtain rfl := Option.some.inj hx; show World.cell? _ _ = _; simp [go_sem]
  | i + 2, hx => simp [exJ] at hx
theorem specok_isT (s t k z q l e : Int) (b : Bool) (v r : Int) (w : World) {o : Bool} (h : Hid (okJob s t k z q l e v r = o)) : Calls Tryd.prog 13 #[.agg #[.int .i64 s, .int .i64 t, .int .i64 k, .int .i64 z, .int .i64 q, .int .i64 l, .int .i64 e, .bool b, .int .i64 v, .int .i64 r]] w fun e' w' => e' = .returned (.bool o) ∧ Below w.heap.size w w' := by
  rw [← unhide h]; exact specjobok_any s t k z q l e b v r w
set_option maxRecDepth 20000 in
set_option maxHeartbeats 8000000 in
theorem lawJobText {tp1 tp2 : TypeId} {p1 p2 : Value} (a : Option Addr) (len cap : Nat) (a2 : Option Addr) (len2 cap2 : Nat) (w : World) (hlc : len ≤ cap) (hm : len ≤ maxLen) (hb : BytesAt w a len) (hl : ∀ g o, a = some ⟨g, o, none⟩ → 0 < len → g < w.heap.size) (hn : a = none → cap = 0) (hlc2 : len2 ≤ cap2) (hm2 : len2 ≤ maxLen) (hbB : BytesAt w a2 len2) (hl2 : ∀ g o, a2 = some ⟨g, o, none⟩ → 0 < len2 → g < w.heap.size) (hn2 : a2 = none → cap2 = 0) (hE : EnvJ tp1 tp2 p1 p2 w) : Calls Tryd.prog 3 #[.slice a len cap, .slice a2 len2 cap2] w fun e w' => e = .returned (.bool true) ∧ Below w.heap.size w w' := by
  unfold maxLen at hm hm2
  by_cases hlen : (len : Int) ≤ 1048576
  case neg =>
    go_enter Tryd.func3, Tryd.ntmps3
    go_wp2
    go_ret
    exact ⟨rfl, Below.refl _ _⟩
  by_cases hlen2 : (len2 : Int) ≤ 1048576
  case neg =>
    go_enter Tryd.func3, Tryd.ntmps3
    go_wp2
    go_ret
    exact ⟨rfl, Below.refl _ _⟩
  · go_enter Tryd.func3, Tryd.ntmps3
    go_wp2_with fail
    refine (drawjobprint_any a len cap w hlc (by omega) hb hl hn).mono ?_
    rintro e' w1 ⟨s, t, k, z, q, l, e, b, v, r, rfl, hb1⟩
    have hbB1 := BytesAt.bel hbB hl2 hb1
    have hl21 : ∀ g o, a2 = some ⟨g, o, none⟩ → 0 < len2 → g < w1.heap.size := fun g o ha hp => Nat.lt_of_lt_of_le (hl2 g o ha hp) hb1.size
    clear hb hl hn hbB hl2
    have hRl : (jobLines s t k z q l e b v r).length ≤ 1048576 := jobLines_le s t k z q l e b v r
    generalize hR : jobLines s t k z q l e b v r = RR at hRl
    have HR := hide hR
    clear hR
    have hX1 : (w1.alloc (.cells #[.int .i64 s, .int .i64 t, .int .i64 k, .int .i64 z, .int .i64 q, .int .i64 l, .int .i64 e, .bool b, .int .i64 v, .int .i64 r] 24)).heap[w1.heap.size]? = some (.cells #[.int .i64 s, .int .i64 t, .int .i64 k, .int .i64 z, .int .i64 q, .int .i64 l, .int .i64 e, .bool b, .int .i64 v, .int .i64 r] 24 (0, 0)) := heap_alloc_new _ _
    have hB1 : Below w.heap.size w (w1.alloc (.cells #[.int .i64 s, .int .i64 t, .int .i64 k, .int .i64 z, .int .i64 q, .int .i64 l, .int .i64 e, .bool b, .int .i64 v, .int .i64 r] 24)) := bel_alloc hb1 _
    have hq1 : Below w1.heap.size w1 (w1.alloc (.cells #[.int .i64 s, .int .i64 t, .int .i64 k, .int .i64 z, .int .i64 q, .int .i64 l, .int .i64 e, .bool b, .int .i64 v, .int .i64 r] 24)) := bel_one _ _
    go_wp2_with fail
    refine (impljobprint_eq s t k z q l e b v r _ RR (hE.bel hB1).wg (hE.bel hB1).tab HR).mono ?_
    rintro e' w2 ⟨vl, rfl, hO, hb2⟩
    have hX2 := (hb2.block w1.heap.size (by simp)).trans hX1
    have hB2 : Below w.heap.size w w2 := bel_trans hB1 hb2
    have hbB2 := BytesAt.bel hbB1 hl21 (bel_trans hq1 hb2)
    have hl22 : ∀ g o, a2 = some ⟨g, o, none⟩ → 0 < len2 → g < w2.heap.size := fun g o ha hp => Nat.lt_of_lt_of_le (hl21 g o ha hp) (bel_trans hq1 hb2).size
    obtain ⟨bl1, n1, cp1, rfl, hn1, H1⟩ := holdN hO hRl
    have HH1 := hide H1
    clear hO H1 hbB1 hl21 hq1 hb2 hX1
    go_wp2_with fail
    refine (drawjobparse_any a2 len2 cap2 w2 hlc2 (by omega) hbB2 hl22 hn2).mono ?_
    rintro e' w3 ⟨vt, L, rfl, hO, hL11, hLs, hb3⟩
    have hX3 := (hb3.block w1.heap.size (heap_lt hX2)).trans hX2
    have hB3 : Below w.heap.size w w3 := bel_trans hB2 hb3
    obtain ⟨bt, nt, ct, rfl, hnt, H3, hsh⟩ := hold3 hO (by omega)
    have HH13 := hide ((unhide HH1).below hb3)
    have hLs' : Hid (∀ x ∈ L, x.size ≤ 1048576) := hide (fun x hx => by have := hLs x hx; omega)
    have HT3 := hide H3
    clear hO hbB2 hl22 hb3 hX2 HH1 hLs H3
    go_wp2_with fail
    refine (impljobparse_any _ _ _ L _ (unhide HT3) (unhide hLs') (by omega) (hE.bel hB3)).mono ?_
    rintro e9 w4 ⟨s4, t4, k4, z4, p4, l4, e4, b4, v4, r4, c4, rfl, hJ4, hb4⟩
    have HJ := hide hJ4
    have hX4 := (hb4.block w1.heap.size (heap_lt hX3)).trans hX3
    have hB4 : Below w.heap.size w w4 := bel_trans hB3 hb4
    have HH14 := hide ((unhide HH13).below hb4)
    have HT4 := hide ((unhide HT3).below hb4)
    have hY4 : (w4.alloc (.cells #[.int .i64 s4, .int .i64 t4, .int .i64 k4, .int .i64 z4, .int .i64 p4, .int .i64 l4, .int .i64 e4, .bool b4, .int .i64 v4, .int .i64 r4] 24)).heap[w4.heap.size]? = some (.cells #[.int .i64 s4, .int .i64 t4, .int .i64 k4, .int .i64 z4, .int .i64 p4, .int .i64 l4, .int .i64 e4, .bool b4, .int .i64 v4, .int .i64 r4] 24 (0, 0)) := heap_alloc_new _ _
    have hq4 : Below w4.heap.size w4 (w4.alloc (.cells #[.int .i64 s4, .int .i64 t4, .int .i64 k4, .int .i64 z4, .int .i64 p4, .int .i64 l4, .int .i64 e4, .bool b4, .int .i64 v4, .int .i64 r4] 24)) := bel_one _ _
    clear hJ4 hb4 hX3 HH13 HT3
    go_wp2_with fail
    refine (specjobparse_any _ _ _ L _ ((unhide HT4).below hq4) (unhide hLs') (by omega)).mono ?_
    rintro e9 w5 ⟨s5, t5, k5, z5, p5, l5, e5, b5, v5, r5, c5, rfl, hJ5, hb5⟩
    obtain ⟨h5a, h5b, h5c⟩ := hJ5.same (unhide HJ)
    simp only [List.cons.injEq, and_true] at h5a
    obtain ⟨rfl, rfl, rfl, rfl, rfl, rfl, rfl, rfl, rfl⟩ := h5a
    subst h5b
    subst h5c
    have hq5 := bel_trans hq4 hb5
    have hX5 := (hq5.block w1.heap.size (heap_lt hX4)).trans hX4
    have hY5 := (hb5.block w4.heap.size (by simp)).trans hY4
    have hB5 : Below w.heap.size w w5 := bel_trans hB4 hq5
    have HH15 := hide ((unhide HH14).below hq5)
    have HT5 := hide ((unhide HT4).below hq5)
    have hZ5 : (w5.alloc (.cells #[.int .i64 s5, .int .i64 t5, .int .i64 k5, .int .i64 z5, .int .i64 p5, .int .i64 l5, .int .i64 e5, .bool b5, .int .i64 v5, .int .i64 r5] 24)).heap[w5.heap.size]? = some (.cells #[.int .i64 s5, .int .i64 t5, .int .i64 k5, .int .i64 z5, .int .i64 p5, .int .i64 l5, .int .i64 e5, .bool b5, .int .i64 v5, .int .i64 r5] 24 (0, 0)) := heap_alloc_new _ _
    have hq5a : Below w5.heap.size w5 (w5.alloc (.cells #[.int .i64 s5, .int .i64 t5, .int .i64 k5, .int .i64 z5, .int .i64 p5, .int .i64 l5, .int .i64 e5, .bool b5, .int .i64 v5, .int .i64 r5] 24)) := bel_one _ _
    have zx5 := heap_lt hX5
    have zx5a : ¬ w1.heap.size = w5.heap.size := by omega
    have zy5 := heap_lt hY5
    clear hJ5 hb5 hX4 HH14 HT4 hY4 hq4 hq5
    obtain ⟨x0, xf0⟩ := cells_blk (n := 0) hX5 0
    obtain ⟨x1, xf1⟩ := cells_blk (n := 0) hX5 1
    obtain ⟨x2, xf2⟩ := cells_blk (n := 0) hX5 2
    obtain ⟨x3, xf3⟩ := cells_blk (n := 0) hX5 3
    obtain ⟨x4, xf4⟩ := cells_blk (n := 0) hX5 4
    obtain ⟨x5, xf5⟩ := cells_blk (n := 0) hX5 5
    obtain ⟨x6, xf6⟩ := cells_blk (n := 0) hX5 6
    obtain ⟨x7, xf7⟩ := cells_blk (n := 0) hX5 7
    obtain ⟨x8, xf8⟩ := cells_blk (n := 0) hX5 8
    obtain ⟨x9, xf9⟩ := cells_blk (n := 0) hX5 9
    simp only [List.getElem?_toArray, List.getElem?_cons_zero, List.getElem?_cons_succ] at x0 x1 x2 x3 x4 x5 x6 x7 x8 x9
    clear xf0 xf1 xf2 xf3 xf4 xf5 xf6 xf7 xf8 xf9
    go_wp2_with fail
    clear x0 x1 x2 x3 x4 x5 x6 x7 x8 x9
    refine (specjobprint_eq s t k z q l e b v r _ RR HR).mono ?_
    rintro e' w6 ⟨v6, rfl, hO, hb6⟩
    obtain ⟨bl6, n6, cp6, rfl, hn6, H6⟩ := holdN hO hRl
    obtain rfl : n1 = n6 := hn1.symm.trans hn6
    have hq6 := bel_trans hq5a hb6
    have hX6 := (hq6.block w1.heap.size zx5).trans hX5
    have hY6 := (hq6.block w4.heap.size zy5).trans hY5
    have hZ6 := (hb6.block w5.heap.size (by simp)).trans hZ5
    have hB6 : Below w.heap.size w w6 := bel_trans hB5 hq6
    have HH16 := hide ((unhide HH15).below hq6)
    have HT6 := hide ((unhide HT5).below hq6)
    clear hO hb6 hX5 hY5 hZ5 hq5a HH15 HT5 zx5 zx5a zy5 hn6 hq6
    go_wp2_with fail
    refine (frtx_any _ _ _ _ _ RR _ (unhide HH16) H6).mono ?_
    rintro e' w7 ⟨rfl, hb7⟩
    have hX7 := (hb7.block w1.heap.size (heap_lt hX6)).trans hX6
    have hY7 := (hb7.block w4.heap.size (heap_lt hY6)).trans hY6
    have hZ7 := (hb7.block w5.heap.size (heap_lt hZ6)).trans hZ6
    have hB7 : Below w.heap.size w w7 := bel_trans hB6 hb7
    have HH17 := hide ((unhide HH16).below hb7)
    have HT7 := hide ((unhide HT6).below hb7)
    clear H6 hb7 hX6 hY6 hZ6 HH16 HT6 hB6 hB5 hB4 hB3 hB2 hB1
    obtain ⟨y0, yf0⟩ := cells_blk (n := 0) hY7 0
    obtain ⟨y1, yf1⟩ := cells_blk (n := 0) hY7 1
    obtain ⟨y2, yf2⟩ := cells_blk (n := 0) hY7 2
    obtain ⟨y3, yf3⟩ := cells_blk (n := 0) hY7 3
    obtain ⟨y4, yf4⟩ := cells_blk (n := 0) hY7 4
    obtain ⟨y5, yf5⟩ := cells_blk (n := 0) hY7 5
    obtain ⟨y6, yf6⟩ := cells_blk (n := 0) hY7 6
    obtain ⟨y7, yf7⟩ := cells_blk (n := 0) hY7 7
    obtain ⟨y8, yf8⟩ := cells_blk (n := 0) hY7 8
    obtain ⟨y9, yf9⟩ := cells_blk (n := 0) hY7 9
    simp only [List.getElem?_toArray, List.getElem?_cons_zero, List.getElem?_cons_succ] at y0 y1 y2 y3 y4 y5 y6 y7 y8 y9
    clear yf0 yf1 yf2 yf3 yf4 yf5 yf6 yf7 yf8 yf9
    obtain ⟨u0, uf0⟩ := cells_blk (n := 0) hZ7 0
    obtain ⟨u1, uf1⟩ := cells_blk (n := 0) hZ7 1
    obtain ⟨u2, uf2⟩ := cells_blk (n := 0) hZ7 2
    obtain ⟨u3, uf3⟩ := cells_blk (n := 0) hZ7 3
    obtain ⟨u4, uf4⟩ := cells_blk (n := 0) hZ7 4
    obtain ⟨u5, uf5⟩ := cells_blk (n := 0) hZ7 5
    obtain ⟨u6, uf6⟩ := cells_blk (n := 0) hZ7 6
    obtain ⟨u7, uf7⟩ := cells_blk (n := 0) hZ7 7
    obtain ⟨u8, uf8⟩ := cells_blk (n := 0) hZ7 8
    obtain ⟨u9, uf9⟩ := cells_blk (n := 0) hZ7 9
    simp only [List.getElem?_toArray, List.getElem?_cons_zero, List.getElem?_cons_succ] at u0 u1 u2 u3 u4 u5 u6 u7 u8 u9
    clear uf0 uf1 uf2 uf3 uf4 uf5 uf6 uf7 uf8 uf9
    rcases unhide HJ with ⟨rfl, s', t', k', z', p', l', e', q', v', r', hG, hok, hJe, hbe⟩ | ⟨_, _, ix, sx, ns, hLi, hc, hG, hno⟩ | ⟨_, _, hc, _⟩
    · simp only [List.cons.injEq, and_true] at hJe
      obtain ⟨rfl, rfl, rfl, rfl, rfl, rfl, rfl, rfl, rfl⟩ := hJe
      have HL9 := hide (good_lines hok hG)
      rw [← hbe] at HL9
      clear hG hok hbe HJ
      go_wp2_with fail
      clear y0 y1 y2 y3 y4 y5 y6 y7 y8 y9
      clear u0 u1 u2 u3 u4 u5 u6 u7 u8 u9
      refine (impljobprint_eq s5 t5 k5 z5 p5 l5 e5 b5 v5 r5 _ (stL L) (hE.bel hB7).wg (hE.bel hB7).tab HL9).mono ?_
      rintro e' w8 ⟨v8, rfl, hO, hb8⟩
      obtain ⟨bl8, n8, cp8, rfl, hn8, H8⟩ := holdN hO (by rw [stL_len]; omega)
      obtain rfl : nt = n8 := by rw [← hn8, stL_len, hnt]
      have hX8 := (hb8.block w1.heap.size (heap_lt hX7)).trans hX7
      have hB8 : Below w.heap.size w w8 := bel_trans hB7 hb8
      have HH18 := hide ((unhide HH17).below hb8)
      have HT8 := hide ((unhide HT7).below hb8)
      clear hO hb8 hX7 HH17 HT7 hB7 hY7 hZ7
      go_wp2_with fail
      refine (frtx_any _ _ _ _ _ (stL L) _ H8 (unhide HT8)).mono ?_
      rintro e' w9 ⟨rfl, hb9⟩
      have hX9 := (hb9.block w1.heap.size (heap_lt hX8)).trans hX8
      have hB9 : Below w.heap.size w w9 := bel_trans hB8 hb9
      have HH19 := hide ((unhide HH18).below hb9)
      clear H8 hb9 hX8 HH18 HT8 hB8
      cases hj : okJob s t k z q l e v r with
      | false =>
        obtain rfl : RR = [] := by rw [← unhide HR]; exact jobLines_no hj
        obtain rfl : n1 = 0 := hn1.symm
        have hj' := hide hj
        clear hj
        have hBt := bel_alloc hB9 (.cells #[.string ⟨#[115, 111, 117, 114, 99, 101, 115, 32, 49]⟩, .string ⟨#[120]⟩] 9)
        go_wp2_with fail
        refine (impljobparse_any _ _ _ exJ _ (st_lit (by simp)) ex_sz (by decide) (hE.bel hBt)).mono ?_
        rintro e9 wy ⟨s7, t7, k7, z7, p7, l7, e7, b7, v7, r7, c7, rfl, hJ7, hb7⟩
        have hXy := (hb7.block w1.heap.size (Nat.lt_of_lt_of_le (heap_lt hX9) (by simp))).trans (((bel_one _ _).block w1.heap.size (heap_lt hX9)).trans hX9)
        obtain rfl := ex_c hJ7
        have hBy : Below w.heap.size w wy := bel_trans hBt hb7
        have zy := heap_lt hXy
        have zy2 : ¬ w1.heap.size = wy.heap.size := by omega
        clear hb7 hJ7
        obtain ⟨x0, xf0⟩ := cells_blk (n := 0) hXy 0
        obtain ⟨x1, xf1⟩ := cells_blk (n := 0) hXy 1
        obtain ⟨x2, xf2⟩ := cells_blk (n := 0) hXy 2
        obtain ⟨x3, xf3⟩ := cells_blk (n := 0) hXy 3
        obtain ⟨x4, xf4⟩ := cells_blk (n := 0) hXy 4
        obtain ⟨x5, xf5⟩ := cells_blk (n := 0) hXy 5
        obtain ⟨x6, xf6⟩ := cells_blk (n := 0) hXy 6
        obtain ⟨x7, xf7⟩ := cells_blk (n := 0) hXy 7
        obtain ⟨x8, xf8⟩ := cells_blk (n := 0) hXy 8
        obtain ⟨x9, xf9⟩ := cells_blk (n := 0) hXy 9
        simp only [List.getElem?_toArray, List.getElem?_cons_zero, List.getElem?_cons_succ] at x0 x1 x2 x3 x4 x5 x6 x7 x8 x9
        clear xf0 xf1 xf2 xf3 xf4 xf5 xf6 xf7 xf8 xf9
        go_wp2_with fail
        refine (specok_isT s t k z q l e b v r _ hj').mono ?_
        rintro e9 wz ⟨rfl, hbz⟩
        go_wp2
        go_ret
        exact ⟨rfl, bel_trans (bel_alloc hBy _) hbz⟩
      | true =>
        obtain ⟨L1, hL1, hL10, hLb⟩ := lines_of (jNums s t k z q l e b v r) rfl (jNums_bd s t k z q l e b v r hj)
        obtain rfl : RR = stL L1 := by rw [← unhide HR, jobLines_ok hj, hL1]
        have hgood := hide (lines_good hj (unhide HR) hL10)
        obtain rfl : n1 = 10 := by rw [← hn1, stL_len, hL10]
        have hLb' := hide hLb
        clear hj hL1 hLb
        go_wp2_with fail
        refine (impljobparse_any _ _ _ L1 _ (unhide HH19) (fun x hx => by have := unhide hLb' x hx; omega) (by decide) (hE.bel hB9)).mono ?_
        rintro e9 wy ⟨s7, t7, k7, z7, p7, l7, e7, b7, v7, r7, c7, rfl, hJ7, hb7⟩
        have hXy := (hb7.block w1.heap.size (heap_lt hX9)).trans hX9
        obtain ⟨h7a, h7b, h7c⟩ := hJ7.same (unhide hgood)
        simp only [List.cons.injEq, and_true] at h7a
        obtain ⟨rfl, rfl, rfl, rfl, rfl, rfl, rfl, rfl, rfl⟩ := h7a
        subst h7b
        subst h7c
        have hBy : Below w.heap.size w wy := bel_trans hB9 hb7
        have zy := heap_lt hXy
        have zy2 : ¬ w1.heap.size = wy.heap.size := by omega
        clear hb7 hJ7
        obtain ⟨x0, xf0⟩ := cells_blk (n := 0) hXy 0
        obtain ⟨x1, xf1⟩ := cells_blk (n := 0) hXy 1
        obtain ⟨x2, xf2⟩ := cells_blk (n := 0) hXy 2
        obtain ⟨x3, xf3⟩ := cells_blk (n := 0) hXy 3
        obtain ⟨x4, xf4⟩ := cells_blk (n := 0) hXy 4
        obtain ⟨x5, xf5⟩ := cells_blk (n := 0) hXy 5
        obtain ⟨x6, xf6⟩ := cells_blk (n := 0) hXy 6
        obtain ⟨x7, xf7⟩ := cells_blk (n := 0) hXy 7
        obtain ⟨x8, xf8⟩ := cells_blk (n := 0) hXy 8
        obtain ⟨x9, xf9⟩ := cells_blk (n := 0) hXy 9
        simp only [List.getElem?_toArray, List.getElem?_cons_zero, List.getElem?_cons_succ] at x0 x1 x2 x3 x4 x5 x6 x7 x8 x9
        clear xf0 xf1 xf2 xf3 xf4 xf5 xf6 xf7 xf8 xf9
        go_wp2
        go_ret
        exact ⟨rfl, bel_alloc hBy _⟩
    · have hix : ix < L.length := (List.getElem?_eq_some_iff.1 hLi).1
      obtain ⟨gt, rfl, hct⟩ := hsh (by omega)
      obtain ⟨m, hm0⟩ : ∃ m, m = ix + 1 := ⟨_, rfl⟩
      rw [← hm0] at hc
      subst hc
      have hP := hide (And.intro hLi (And.intro hG hno))
      have hm1 : m ≤ nt := by omega
      have hm2' : 0 < (m : Int) := by omega
      have hm3 : (m : Int) ≤ (nt : Int) := by omega
      have hm4 : (m : Int) ≠ 0 := by omega
      have hm5 : m ≤ ct := by omega
      have hm6 : (m : Int) ≤ (ct : Int) := by omega
      have hw1 : IntKind.i64.wrap ((m : Int) - 1) = (ix : Int) := by rw [hm0]; exact (IntWalk.i64_in _ ⟨by omega, by omega⟩).trans (by omega)
      have hm7 : ix ≤ ct := by omega
      have hm8 : (ix : Int) ≤ (ct : Int) := by omega
      have HM0 := hide hm0
      clear hLi hG hno HJ hm0
      go_wp2_with fail
      clear y0 y1 y2 y3 y4 y5 y6 y7 y8 y9
      clear u0 u1 u2 u3 u4 u5 u6 u7 u8 u9
      refine (impljobparse_any _ _ _ (L.take m) _ ((unhide HT7).upto hm1) (fun x hx => unhide hLs' x (List.mem_of_mem_take hx)) (by omega) (hE.bel hB7)).mono ?_
      rintro e9 w8 ⟨s8, t8, k8, z8, p8, l8, e8, b8, v8, r8, c8, rfl, hJ8, hb8⟩
      obtain rfl : c8 = (m : Int) := by rw [unhide HM0] at hJ8 ⊢; exact pre_c (unhide hP).1 (unhide hP).2.1 (unhide hP).2.2 hJ8
      have hX8 := (hb8.block w1.heap.size (heap_lt hX7)).trans hX7
      have hB8 : Below w.heap.size w w8 := bel_trans hB7 hb8
      have HH18 := hide ((unhide HH17).below hb8)
      have HT8 := hide ((unhide HT7).below hb8)
      have hq8 : Below w8.heap.size w8 (w8.alloc (.cells #[.int .i64 s8, .int .i64 t8, .int .i64 k8, .int .i64 z8, .int .i64 p8, .int .i64 l8, .int .i64 e8, .bool b8, .int .i64 v8, .int .i64 r8] 24)) := bel_one _ _
      clear hJ8 hb8 hX7 HH17 HT7 hB7 hY7 hZ7
      go_wp2_with fail
      refine (impljobparse_any _ _ _ (L.take ix) _ (((unhide HT8).below hq8).upto (by omega)) (fun x hx => unhide hLs' x (List.mem_of_mem_take hx)) (by omega) (hE.bel (bel_alloc hB8 _))).mono ?_
      rintro e9 w9 ⟨s9, t9, k9, z9, p9, l9, e9, b9, v9, r9, c9, rfl, hJ9, hb9⟩
      have hq9 := bel_trans hq8 hb9
      have hX9 := (hq9.block w1.heap.size (heap_lt hX8)).trans hX8
      have hB9 : Below w.heap.size w w9 := bel_trans hB8 hq9
      have HH19 := hide ((unhide HH18).below hq9)
      have hqA : Below w9.heap.size w9 (w9.alloc (.cells #[.int .i64 s9, .int .i64 t9, .int .i64 k9, .int .i64 z9, .int .i64 p9, .int .i64 l9, .int .i64 e9, .bool b9, .int .i64 v9, .int .i64 r9] 24)) := bel_one _ _
      have hXA := (hqA.block w1.heap.size (heap_lt hX9)).trans hX9
      have hBA := bel_trans hB9 hqA
      have HH1A := hide ((unhide HH19).below hqA)
      have h9 := pre_d (unhide hP).1 (unhide hP).2.1 hJ9
      rw [← unhide HM0] at h9
      clear hJ9 hb9 hX8 HH18 HT8 hB8 hq8 hq9 hP hX9 hB9 HH19 hqA
      rcases h9 with rfl | rfl
      · skip
        cases hj : okJob s t k z q l e v r with
        | false =>
          obtain rfl : RR = [] := by rw [← unhide HR]; exact jobLines_no hj
          obtain rfl : n1 = 0 := hn1.symm
          have hj' := hide hj
          clear hj
          have hBt := bel_alloc hBA (.cells #[.string ⟨#[115, 111, 117, 114, 99, 101, 115, 32, 49]⟩, .string ⟨#[120]⟩] 9)
          go_wp2_with fail
          refine (impljobparse_any _ _ _ exJ _ (st_lit (by simp)) ex_sz (by decide) (hE.bel hBt)).mono ?_
          rintro e9 wy ⟨s7, t7, k7, z7, p7, l7, e7, b7, v7, r7, c7, rfl, hJ7, hb7⟩
          have hXy := (hb7.block w1.heap.size (Nat.lt_of_lt_of_le (heap_lt hXA) (by simp))).trans (((bel_one _ _).block w1.heap.size (heap_lt hXA)).trans hXA)
          obtain rfl := ex_c hJ7
          have hBy : Below w.heap.size w wy := bel_trans hBt hb7
          have zy := heap_lt hXy
          have zy2 : ¬ w1.heap.size = wy.heap.size := by omega
          clear hb7 hJ7
          obtain ⟨x0, xf0⟩ := cells_blk (n := 0) hXy 0
          obtain ⟨x1, xf1⟩ := cells_blk (n := 0) hXy 1
          obtain ⟨x2, xf2⟩ := cells_blk (n := 0) hXy 2
          obtain ⟨x3, xf3⟩ := cells_blk (n := 0) hXy 3
          obtain ⟨x4, xf4⟩ := cells_blk (n := 0) hXy 4
          obtain ⟨x5, xf5⟩ := cells_blk (n := 0) hXy 5
          obtain ⟨x6, xf6⟩ := cells_blk (n := 0) hXy 6
          obtain ⟨x7, xf7⟩ := cells_blk (n := 0) hXy 7
          obtain ⟨x8, xf8⟩ := cells_blk (n := 0) hXy 8
          obtain ⟨x9, xf9⟩ := cells_blk (n := 0) hXy 9
          simp only [List.getElem?_toArray, List.getElem?_cons_zero, List.getElem?_cons_succ] at x0 x1 x2 x3 x4 x5 x6 x7 x8 x9
          clear xf0 xf1 xf2 xf3 xf4 xf5 xf6 xf7 xf8 xf9
          go_wp2_with fail
          refine (specok_isT s t k z q l e b v r _ hj').mono ?_
          rintro e9 wz ⟨rfl, hbz⟩
          go_wp2
          go_ret
          exact ⟨rfl, bel_trans (bel_alloc hBy _) hbz⟩
        | true =>
          obtain ⟨L1, hL1, hL10, hLb⟩ := lines_of (jNums s t k z q l e b v r) rfl (jNums_bd s t k z q l e b v r hj)
          obtain rfl : RR = stL L1 := by rw [← unhide HR, jobLines_ok hj, hL1]
          have hgood := hide (lines_good hj (unhide HR) hL10)
          obtain rfl : n1 = 10 := by rw [← hn1, stL_len, hL10]
          have hLb' := hide hLb
          clear hj hL1 hLb
          go_wp2_with fail
          refine (impljobparse_any _ _ _ L1 _ (unhide HH1A) (fun x hx => by have := unhide hLb' x hx; omega) (by decide) (hE.bel hBA)).mono ?_
          rintro e9 wy ⟨s7, t7, k7, z7, p7, l7, e7, b7, v7, r7, c7, rfl, hJ7, hb7⟩
          have hXy := (hb7.block w1.heap.size (heap_lt hXA)).trans hXA
          obtain ⟨h7a, h7b, h7c⟩ := hJ7.same (unhide hgood)
          simp only [List.cons.injEq, and_true] at h7a
          obtain ⟨rfl, rfl, rfl, rfl, rfl, rfl, rfl, rfl, rfl⟩ := h7a
          subst h7b
          subst h7c
          have hBy : Below w.heap.size w wy := bel_trans hBA hb7
          have zy := heap_lt hXy
          have zy2 : ¬ w1.heap.size = wy.heap.size := by omega
          clear hb7 hJ7
          obtain ⟨x0, xf0⟩ := cells_blk (n := 0) hXy 0
          obtain ⟨x1, xf1⟩ := cells_blk (n := 0) hXy 1
          obtain ⟨x2, xf2⟩ := cells_blk (n := 0) hXy 2
          obtain ⟨x3, xf3⟩ := cells_blk (n := 0) hXy 3
          obtain ⟨x4, xf4⟩ := cells_blk (n := 0) hXy 4
          obtain ⟨x5, xf5⟩ := cells_blk (n := 0) hXy 5
          obtain ⟨x6, xf6⟩ := cells_blk (n := 0) hXy 6
          obtain ⟨x7, xf7⟩ := cells_blk (n := 0) hXy 7
          obtain ⟨x8, xf8⟩ := cells_blk (n := 0) hXy 8
          obtain ⟨x9, xf9⟩ := cells_blk (n := 0) hXy 9
          simp only [List.getElem?_toArray, List.getElem?_cons_zero, List.getElem?_cons_succ] at x0 x1 x2 x3 x4 x5 x6 x7 x8 x9
          clear xf0 xf1 xf2 xf3 xf4 xf5 xf6 xf7 xf8 xf9
          go_wp2
          go_ret
          exact ⟨rfl, bel_alloc hBy _⟩
      · skip
        cases hj : okJob s t k z q l e v r with
        | false =>
          obtain rfl : RR = [] := by rw [← unhide HR]; exact jobLines_no hj
          obtain rfl : n1 = 0 := hn1.symm
          have hj' := hide hj
          clear hj
          have hBt := bel_alloc hBA (.cells #[.string ⟨#[115, 111, 117, 114, 99, 101, 115, 32, 49]⟩, .string ⟨#[120]⟩] 9)
          go_wp2_with fail
          refine (impljobparse_any _ _ _ exJ _ (st_lit (by simp)) ex_sz (by decide) (hE.bel hBt)).mono ?_
          rintro e9 wy ⟨s7, t7, k7, z7, p7, l7, e7, b7, v7, r7, c7, rfl, hJ7, hb7⟩
          have hXy := (hb7.block w1.heap.size (Nat.lt_of_lt_of_le (heap_lt hXA) (by simp))).trans (((bel_one _ _).block w1.heap.size (heap_lt hXA)).trans hXA)
          obtain rfl := ex_c hJ7
          have hBy : Below w.heap.size w wy := bel_trans hBt hb7
          have zy := heap_lt hXy
          have zy2 : ¬ w1.heap.size = wy.heap.size := by omega
          clear hb7 hJ7
          obtain ⟨x0, xf0⟩ := cells_blk (n := 0) hXy 0
          obtain ⟨x1, xf1⟩ := cells_blk (n := 0) hXy 1
          obtain ⟨x2, xf2⟩ := cells_blk (n := 0) hXy 2
          obtain ⟨x3, xf3⟩ := cells_blk (n := 0) hXy 3
          obtain ⟨x4, xf4⟩ := cells_blk (n := 0) hXy 4
          obtain ⟨x5, xf5⟩ := cells_blk (n := 0) hXy 5
          obtain ⟨x6, xf6⟩ := cells_blk (n := 0) hXy 6
          obtain ⟨x7, xf7⟩ := cells_blk (n := 0) hXy 7
          obtain ⟨x8, xf8⟩ := cells_blk (n := 0) hXy 8
          obtain ⟨x9, xf9⟩ := cells_blk (n := 0) hXy 9
          simp only [List.getElem?_toArray, List.getElem?_cons_zero, List.getElem?_cons_succ] at x0 x1 x2 x3 x4 x5 x6 x7 x8 x9
          clear xf0 xf1 xf2 xf3 xf4 xf5 xf6 xf7 xf8 xf9
          go_wp2_with fail
          refine (specok_isT s t k z q l e b v r _ hj').mono ?_
          rintro e9 wz ⟨rfl, hbz⟩
          go_wp2
          go_ret
          exact ⟨rfl, bel_trans (bel_alloc hBy _) hbz⟩
        | true =>
          obtain ⟨L1, hL1, hL10, hLb⟩ := lines_of (jNums s t k z q l e b v r) rfl (jNums_bd s t k z q l e b v r hj)
          obtain rfl : RR = stL L1 := by rw [← unhide HR, jobLines_ok hj, hL1]
          have hgood := hide (lines_good hj (unhide HR) hL10)
          obtain rfl : n1 = 10 := by rw [← hn1, stL_len, hL10]
          have hLb' := hide hLb
          clear hj hL1 hLb
          go_wp2_with fail
          refine (impljobparse_any _ _ _ L1 _ (unhide HH1A) (fun x hx => by have := unhide hLb' x hx; omega) (by decide) (hE.bel hBA)).mono ?_
          rintro e9 wy ⟨s7, t7, k7, z7, p7, l7, e7, b7, v7, r7, c7, rfl, hJ7, hb7⟩
          have hXy := (hb7.block w1.heap.size (heap_lt hXA)).trans hXA
          obtain ⟨h7a, h7b, h7c⟩ := hJ7.same (unhide hgood)
          simp only [List.cons.injEq, and_true] at h7a
          obtain ⟨rfl, rfl, rfl, rfl, rfl, rfl, rfl, rfl, rfl⟩ := h7a
          subst h7b
          subst h7c
          have hBy : Below w.heap.size w wy := bel_trans hBA hb7
          have zy := heap_lt hXy
          have zy2 : ¬ w1.heap.size = wy.heap.size := by omega
          clear hb7 hJ7
          obtain ⟨x0, xf0⟩ := cells_blk (n := 0) hXy 0
          obtain ⟨x1, xf1⟩ := cells_blk (n := 0) hXy 1
          obtain ⟨x2, xf2⟩ := cells_blk (n := 0) hXy 2
          obtain ⟨x3, xf3⟩ := cells_blk (n := 0) hXy 3
          obtain ⟨x4, xf4⟩ := cells_blk (n := 0) hXy 4
          obtain ⟨x5, xf5⟩ := cells_blk (n := 0) hXy 5
          obtain ⟨x6, xf6⟩ := cells_blk (n := 0) hXy 6
          obtain ⟨x7, xf7⟩ := cells_blk (n := 0) hXy 7
          obtain ⟨x8, xf8⟩ := cells_blk (n := 0) hXy 8
          obtain ⟨x9, xf9⟩ := cells_blk (n := 0) hXy 9
          simp only [List.getElem?_toArray, List.getElem?_cons_zero, List.getElem?_cons_succ] at x0 x1 x2 x3 x4 x5 x6 x7 x8 x9
          clear xf0 xf1 xf2 xf3 xf4 xf5 xf6 xf7 xf8 xf9
          go_wp2
          go_ret
          exact ⟨rfl, bel_alloc hBy _⟩
    · have hc0 : 0 < c5 := by omega
      have hc1 : ¬ c5 ≤ (nt : Int) := by omega
      have hc2 : c5 ≠ 0 := by omega
      clear HJ hc
      skip
      cases hj : okJob s t k z q l e v r with
      | false =>
        obtain rfl : RR = [] := by rw [← unhide HR]; exact jobLines_no hj
        obtain rfl : n1 = 0 := hn1.symm
        have hj' := hide hj
        clear hj
        have hBt := bel_alloc hB7 (.cells #[.string ⟨#[115, 111, 117, 114, 99, 101, 115, 32, 49]⟩, .string ⟨#[120]⟩] 9)
        go_wp2_with fail
        refine (impljobparse_any _ _ _ exJ _ (st_lit (by simp)) ex_sz (by decide) (hE.bel hBt)).mono ?_
        rintro e9 wy ⟨s7, t7, k7, z7, p7, l7, e7, b7, v7, r7, c7, rfl, hJ7, hb7⟩
        have hXy := (hb7.block w1.heap.size (Nat.lt_of_lt_of_le (heap_lt hX7) (by simp))).trans (((bel_one _ _).block w1.heap.size (heap_lt hX7)).trans hX7)
        obtain rfl := ex_c hJ7
        have hBy : Below w.heap.size w wy := bel_trans hBt hb7
        have zy := heap_lt hXy
        have zy2 : ¬ w1.heap.size = wy.heap.size := by omega
        clear hb7 hJ7
        obtain ⟨x0, xf0⟩ := cells_blk (n := 0) hXy 0
        obtain ⟨x1, xf1⟩ := cells_blk (n := 0) hXy 1
        obtain ⟨x2, xf2⟩ := cells_blk (n := 0) hXy 2
        obtain ⟨x3, xf3⟩ := cells_blk (n := 0) hXy 3
        obtain ⟨x4, xf4⟩ := cells_blk (n := 0) hXy 4
        obtain ⟨x5, xf5⟩ := cells_blk (n := 0) hXy 5
        obtain ⟨x6, xf6⟩ := cells_blk (n := 0) hXy 6
        obtain ⟨x7, xf7⟩ := cells_blk (n := 0) hXy 7
        obtain ⟨x8, xf8⟩ := cells_blk (n := 0) hXy 8
        obtain ⟨x9, xf9⟩ := cells_blk (n := 0) hXy 9
        simp only [List.getElem?_toArray, List.getElem?_cons_zero, List.getElem?_cons_succ] at x0 x1 x2 x3 x4 x5 x6 x7 x8 x9
        clear xf0 xf1 xf2 xf3 xf4 xf5 xf6 xf7 xf8 xf9
        go_wp2_with fail
        refine (specok_isT s t k z q l e b v r _ hj').mono ?_
        rintro e9 wz ⟨rfl, hbz⟩
        go_wp2
        go_ret
        exact ⟨rfl, bel_trans (bel_alloc hBy _) hbz⟩
      | true =>
        obtain ⟨L1, hL1, hL10, hLb⟩ := lines_of (jNums s t k z q l e b v r) rfl (jNums_bd s t k z q l e b v r hj)
        obtain rfl : RR = stL L1 := by rw [← unhide HR, jobLines_ok hj, hL1]
        have hgood := hide (lines_good hj (unhide HR) hL10)
        obtain rfl : n1 = 10 := by rw [← hn1, stL_len, hL10]
        have hLb' := hide hLb
        clear hj hL1 hLb
        go_wp2_with fail
        refine (impljobparse_any _ _ _ L1 _ (unhide HH17) (fun x hx => by have := unhide hLb' x hx; omega) (by decide) (hE.bel hB7)).mono ?_
        rintro e9 wy ⟨s7, t7, k7, z7, p7, l7, e7, b7, v7, r7, c7, rfl, hJ7, hb7⟩
        have hXy := (hb7.block w1.heap.size (heap_lt hX7)).trans hX7
        obtain ⟨h7a, h7b, h7c⟩ := hJ7.same (unhide hgood)
        simp only [List.cons.injEq, and_true] at h7a
        obtain ⟨rfl, rfl, rfl, rfl, rfl, rfl, rfl, rfl, rfl⟩ := h7a
        subst h7b
        subst h7c
        have hBy : Below w.heap.size w wy := bel_trans hB7 hb7
        have zy := heap_lt hXy
        have zy2 : ¬ w1.heap.size = wy.heap.size := by omega
        clear hb7 hJ7
        obtain ⟨x0, xf0⟩ := cells_blk (n := 0) hXy 0
        obtain ⟨x1, xf1⟩ := cells_blk (n := 0) hXy 1
        obtain ⟨x2, xf2⟩ := cells_blk (n := 0) hXy 2
        obtain ⟨x3, xf3⟩ := cells_blk (n := 0) hXy 3
        obtain ⟨x4, xf4⟩ := cells_blk (n := 0) hXy 4
        obtain ⟨x5, xf5⟩ := cells_blk (n := 0) hXy 5
        obtain ⟨x6, xf6⟩ := cells_blk (n := 0) hXy 6
        obtain ⟨x7, xf7⟩ := cells_blk (n := 0) hXy 7
        obtain ⟨x8, xf8⟩ := cells_blk (n := 0) hXy 8
        obtain ⟨x9, xf9⟩ := cells_blk (n := 0) hXy 9
        simp only [List.getElem?_toArray, List.getElem?_cons_zero, List.getElem?_cons_succ] at x0 x1 x2 x3 x4 x5 x6 x7 x8 x9
        clear xf0 xf1 xf2 xf3 xf4 xf5 xf6 xf7 xf8 xf9
        go_wp2
        go_ret
        exact ⟨rfl, bel_alloc hBy _⟩
end Go.Proofs.YtgccnmegbdlefaaDoor
