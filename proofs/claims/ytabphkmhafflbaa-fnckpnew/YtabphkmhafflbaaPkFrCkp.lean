/- Laid together: what the claim needs of the texts that were built one by one. -/
import Derived.Test.YtabphkmhafflbaaPkCkpX
import Derived.Test.YtabphkmhafflbaaPkBase
import Derived.BigQuiet
namespace Go.Proofs.Ytabphkmhafflbaa
open Go.ChangeShapes Go.WideShapes Go.ChangeAt Go.RowKit
set_option linter.unusedVariables false
set_option linter.unusedSimpArgs false

set_option maxRecDepth 20000 in
set_option maxHeartbeats 1000000 in
theorem frints_any (a1 a2 : Option Addr) (len cap1 cap2 : Nat) (xs : List Int) (w : World) (h1 : InRs w a1 len xs) (h2 : InRs w a2 len xs) : Calls Try.prog 17 #[.slice a1 len cap1, .slice a2 len cap2] w fun e w' => e = .returned (.bool true) ∧ Below w.heap.size w w' := by
  have hm := h1.2.1
  unfold maxLen at hm
  go_enter Try.func17, Try.ntmps17
  go_wp2
  go_loopw [5] (fun i wr => ∃ k : Nat, k ≤ len ∧ i = .int .i64 k ∧ Below w.heap.size w wr) (fun i _ => len - (intOf i).toNat)
  case atStart => exact ⟨0, Nat.zero_le _, rfl, Below.refl _ _⟩
  case round =>
    obtain ⟨k, hk, rfl, hbw⟩ := hrel
    by_cases hlt : k < len
    · obtain ⟨hl1, _, hx1⟩ := h1
      obtain ⟨hl2, _, hx2⟩ := h2
      obtain ⟨g1, o1, rfl, hr1⟩ := hx1.resolve_left (by omega)
      obtain ⟨g2, o2, rfl, hr2⟩ := hx2.resolve_left (by omega)
      obtain ⟨x, hxk⟩ : ∃ x, xs[k]? = some x := ⟨_, List.getElem?_eq_getElem (by omega)⟩
      have hg1 : g1 < w.heap.size := hr1.lt (by omega)
      have hg2 : g2 < w.heap.size := hr2.lt (by omega)
      have c0 := (hbw.cell (p := ⟨g1, o1 + k, none⟩) hg1).trans (hr1 k _ hxk)
      have d0 := (hbw.cell (p := ⟨g2, o2 + k, none⟩) hg2).trans (hr2 k _ hxk)
      clear hx1 hx2 hxk hr1 hr2
      go_wp2_with fail
      go_quiet (fail)
      go_wp2
      go_roundw
      case rel => exact ⟨k + 1, by omega, by go_num, (by repeat (first | (with_reducible exact Below.refl _ _) | (with_reducible assumption) | (with_reducible refine bel_drew ?_) | (with_reducible refine bel_drewN ?_ _)))⟩
      case measure => simp [intOf]; omega
    · go_wp2
      go_ret
      exact ⟨rfl, hbw⟩

set_option maxRecDepth 20000 in
set_option maxHeartbeats 1000000 in
theorem frop0_any (m : Int) (a1 a2 : Option Addr) (cap1 cap2 : Nat) (w : World) : Calls Try.prog 31 #[.agg #[.int .i64 m, .slice a1 0 cap1], .agg #[.int .i64 m, .slice a2 0 cap2]] w fun e w' => e = .returned (.bool true) ∧ Below w.heap.size w w' := by
  go_enter Try.func31, Try.ntmps31
  go_wp2
  refine wp_loop_rounds 1 ?_
  rw [rounds_succ]
  go_wp2
  go_ret
  exact ⟨rfl, bel_alloc (bel_one _ _) _⟩

theorem sn6 {W W' : World} {g1 g2 x0 x1 x2 y0 y1 y2 : Nat} {v0 v1 v2 u0 u1 u2 : Value} (h : (W.cell? ⟨g1, x0, none⟩ = some v0 ∧ W.cell? ⟨g1, x1, none⟩ = some v1 ∧ W.cell? ⟨g1, x2, none⟩ = some v2 ∧ W.cell? ⟨g2, y0, none⟩ = some u0 ∧ W.cell? ⟨g2, y1, none⟩ = some u1 ∧ W.cell? ⟨g2, y2, none⟩ = some u2) ∧ g1 < W.heap.size ∧ g2 < W.heap.size) (hb : Below W.heap.size W W') : (W'.cell? ⟨g1, x0, none⟩ = some v0 ∧ W'.cell? ⟨g1, x1, none⟩ = some v1 ∧ W'.cell? ⟨g1, x2, none⟩ = some v2 ∧ W'.cell? ⟨g2, y0, none⟩ = some u0 ∧ W'.cell? ⟨g2, y1, none⟩ = some u1 ∧ W'.cell? ⟨g2, y2, none⟩ = some u2) ∧ g1 < W'.heap.size ∧ g2 < W'.heap.size := by
  obtain ⟨⟨h0, h1, h2, h3, h4, h5⟩, z1, z2⟩ := h
  exact ⟨⟨(hb.cell (p := ⟨g1, x0, none⟩) z1).trans h0, (hb.cell (p := ⟨g1, x1, none⟩) z1).trans h1, (hb.cell (p := ⟨g1, x2, none⟩) z1).trans h2, (hb.cell (p := ⟨g2, y0, none⟩) z2).trans h3, (hb.cell (p := ⟨g2, y1, none⟩) z2).trans h4, (hb.cell (p := ⟨g2, y2, none⟩) z2).trans h5⟩, Nat.lt_of_lt_of_le z1 hb.size, Nat.lt_of_lt_of_le z2 hb.size⟩

set_option maxRecDepth 20000 in
set_option maxHeartbeats 2000000 in
theorem frsnaps_any (B1 B2 : Nat) (a1 a2 : Option Addr) (len cap1 cap2 : Nat) (xs : List SnD) (w : World) (h1 : SnB w B1 a1 len xs) (h2 : SnB w B2 a2 len xs) (h0 : ∀ x ∈ xs, x.rows = []) : Calls Try.prog 18 #[.slice a1 len cap1, .slice a2 len cap2] w fun e w' => e = .returned (.bool true) ∧ Below w.heap.size w w' := by
  have hm := h1.2.1
  unfold maxLen at hm
  go_enter Try.func18, Try.ntmps18
  go_wp2
  go_loopw [5] (fun i wr => ∃ k : Nat, k ≤ len ∧ i = .int .i64 k ∧ Below w.heap.size w wr) (fun i _ => len - (intOf i).toNat)
  case atStart => exact ⟨0, Nat.zero_le _, rfl, Below.refl _ _⟩
  case round =>
    obtain ⟨k, hk, rfl, hbw⟩ := hrel
    by_cases hlt : k < len
    · obtain ⟨hl1, _, hx1⟩ := h1
      obtain ⟨hl2, _, hx2⟩ := h2
      obtain ⟨g1, o1, rfl, _, hr1⟩ := hx1.resolve_left (by omega)
      obtain ⟨g2, o2, rfl, _, hr2⟩ := hx2.resolve_left (by omega)
      obtain ⟨x, hxk⟩ : ∃ x, xs[k]? = some x := ⟨_, List.getElem?_eq_getElem (by omega)⟩
      have hx0 := h0 x (List.mem_of_getElem? hxk)
      have hg1 : g1 < w.heap.size := (hr1 k x hxk).lt
      have hg2 : g2 < w.heap.size := (hr2 k x hxk).lt
      obtain ⟨p1, l1, c1, q1, m1, d1, ⟨e0, e1, e2⟩, hO1, hI1⟩ := (hr1 k x hxk).below hbw
      obtain ⟨p2, l2, c2, q2, m2, d2, ⟨f0, f1, f2⟩, hO2, hI2⟩ := (hr2 k x hxk).below hbw
      obtain ⟨ma, rows, marks⟩ := x
      dsimp only at hx0 e0 e1 e2 f0 f1 f2 hO1 hO2 hI1 hI2
      subst hx0
      obtain rfl : l1 = 0 := hO1.1.1.symm
      obtain rfl : l2 = 0 := hO2.1.1.symm
      obtain rfl : m1 = m2 := hI1.1.1.symm.trans hI2.1.1
      have zg1 : g1 < wr.heap.size := Nat.lt_of_lt_of_le hg1 hbw.size
      have zg2 : g2 < wr.heap.size := Nat.lt_of_lt_of_le hg2 hbw.size
      have HI1 := hide hI1.1
      have HI2 := hide hI2.1
      clear hx1 hx2 hxk hr1 hr2 hO1 hO2 hI1 hI2 h0
      have hS0 : (wr.drew.cell? ⟨g1, o1 + k * 3, none⟩ = some (.int .i64 ma) ∧ wr.drew.cell? ⟨g1, o1 + k * 3 + 1, none⟩ = some (.slice p1 0 c1) ∧ wr.drew.cell? ⟨g1, o1 + k * 3 + 2, none⟩ = some (.slice q1 m1 d1) ∧ wr.drew.cell? ⟨g2, o2 + k * 3, none⟩ = some (.int .i64 ma) ∧ wr.drew.cell? ⟨g2, o2 + k * 3 + 1, none⟩ = some (.slice p2 0 c2) ∧ wr.drew.cell? ⟨g2, o2 + k * 3 + 2, none⟩ = some (.slice q2 m1 d2)) ∧ g1 < wr.drew.heap.size ∧ g2 < wr.drew.heap.size := ⟨⟨e0, e1, e2, f0, f1, f2⟩, zg1, zg2⟩
      clear e0 e1 e2 f0 f1 f2
      go_wp2_with fail
      refine wp_region_held_drew (S := (fun W => (W.cell? ⟨g1, o1 + k * 3, none⟩ = some (.int .i64 ma) ∧ W.cell? ⟨g1, o1 + k * 3 + 1, none⟩ = some (.slice p1 0 c1) ∧ W.cell? ⟨g1, o1 + k * 3 + 2, none⟩ = some (.slice q1 m1 d1) ∧ W.cell? ⟨g2, o2 + k * 3, none⟩ = some (.int .i64 ma) ∧ W.cell? ⟨g2, o2 + k * 3 + 1, none⟩ = some (.slice p2 0 c2) ∧ W.cell? ⟨g2, o2 + k * 3 + 2, none⟩ = some (.slice q2 m1 d2)) ∧ g1 < W.heap.size ∧ g2 < W.heap.size)) (by kernel_rfl) ?_ (fun hHeld => ?_)
      · (try dsimp only); first | (with_reducible assumption) | (exact sn6 (by with_reducible assumption) (by with_reducible assumption))
      refine kT 0 ?_ ?_ ?_
      rotate_left
      · (intro w9 hSw; (try dsimp only at hSw); go_simp <;> with_reducible rfl)
      try simp only [Act.put, tA, tZ, tS]
      refine kT 1 ?_ ?_ ?_
      rotate_left
      · (intro w9 hSw; (try dsimp only at hSw); go_simp <;> with_reducible rfl)
      try simp only [Act.put, tA, tZ, tS]
      refine kT 2 ?_ ?_ ?_
      rotate_left
      · (intro w9 hSw; (try dsimp only at hSw); go_simp <;> with_reducible rfl)
      try simp only [Act.put, tA, tZ, tS]
      refine kT 3 ?_ ?_ ?_
      rotate_left
      · (intro w9 hSw; (try dsimp only at hSw); go_simp <;> with_reducible rfl)
      try simp only [Act.put, tA, tZ, tS]
      refine kT 4 ?_ ?_ ?_
      rotate_left
      · (intro w9 hSw; (try dsimp only at hSw); go_simp <;> with_reducible rfl)
      try simp only [Act.put, tA, tZ, tS]
      refine kT 5 ?_ ?_ ?_
      rotate_left
      · (intro w9 hSw; (try dsimp only at hSw); go_simp <;> with_reducible rfl)
      try simp only [Act.put, tA, tZ, tS]
      refine kT 6 ?_ ?_ ?_
      rotate_left
      · (intro w9 hSw; (try dsimp only at hSw); go_simp <;> with_reducible rfl)
      try simp only [Act.put, tA, tZ, tS]
      refine kT 7 ?_ ?_ ?_
      rotate_left
      · (intro w9 hSw; (try dsimp only at hSw); go_simp <;> with_reducible rfl)
      try simp only [Act.put, tA, tZ, tS]
      refine kT 8 ?_ ?_ ?_
      rotate_left
      · (intro w9 hSw; (try dsimp only at hSw); go_simp <;> with_reducible rfl)
      try simp only [Act.put, tA, tZ, tS]
      refine kT 9 ?_ ?_ ?_
      rotate_left
      · (intro w9 hSw; (try dsimp only at hSw); go_simp <;> with_reducible rfl)
      try simp only [Act.put, tA, tZ, tS]
      refine wpAnyH_ready (rs := [10]) (by kernel_rfl) (by simp) ?_
      refine AllReadyH.cons (by simp only [gA, gZ, gS]; rfl) (fun K hK => ?_) AllReadyH.nil
      go_simp
      (go_at_call 31; refine (frop0_any _ _ _ _ _ _).mono ?_; rintro e' wa ⟨rfl, hba⟩; have hS1 := sn6 hS0 hba)
      (try go_wp2_with fail)
      refine hK.out _ _ ?_ (fun hHeld2 => ?_)
      · (try dsimp only); first | (with_reducible assumption) | (exact sn6 (by with_reducible assumption) (by with_reducible assumption))
      clear hK K hHeld
      have hHeld := hHeld2
      clear hHeld2
      try simp only [Act.put, tA, tZ, tS]
      refine kT 11 ?_ ?_ ?_
      rotate_left
      · (intro w9 hSw; (try dsimp only at hSw); go_simp <;> with_reducible rfl)
      try simp only [Act.put, tA, tZ, tS]
      refine kT 12 ?_ ?_ ?_
      rotate_left
      · (intro w9 hSw; (try dsimp only at hSw); go_simp <;> with_reducible rfl)
      try simp only [Act.put, tA, tZ, tS]
      refine kT 13 ?_ ?_ ?_
      rotate_left
      · (intro w9 hSw; (try dsimp only at hSw); go_simp <;> with_reducible rfl)
      try simp only [Act.put, tA, tZ, tS]
      refine kT 14 ?_ ?_ ?_
      rotate_left
      · (intro w9 hSw; (try dsimp only at hSw); go_simp <;> with_reducible rfl)
      try simp only [Act.put, tA, tZ, tS]
      refine kT 15 ?_ ?_ ?_
      rotate_left
      · (intro w9 hSw; (try dsimp only at hSw); go_simp <;> with_reducible rfl)
      try simp only [Act.put, tA, tZ, tS]
      refine kT 16 ?_ ?_ ?_
      rotate_left
      · (intro w9 hSw; (try dsimp only at hSw); go_simp <;> with_reducible rfl)
      try simp only [Act.put, tA, tZ, tS]
      refine kT 17 ?_ ?_ ?_
      rotate_left
      · (intro w9 hSw; (try dsimp only at hSw); go_simp <;> with_reducible rfl)
      try simp only [Act.put, tA, tZ, tS]
      refine kT 18 ?_ ?_ ?_
      rotate_left
      · (intro w9 hSw; (try dsimp only at hSw); go_simp <;> with_reducible rfl)
      try simp only [Act.put, tA, tZ, tS]
      refine kT 19 ?_ ?_ ?_
      rotate_left
      · (intro w9 hSw; (try dsimp only at hSw); go_simp <;> with_reducible rfl)
      try simp only [Act.put, tA, tZ, tS]
      refine kT 20 ?_ ?_ ?_
      rotate_left
      · (intro w9 hSw; (try dsimp only at hSw); go_simp <;> with_reducible rfl)
      try simp only [Act.put, tA, tZ, tS]
      refine kT 21 ?_ ?_ ?_
      rotate_left
      · (intro w9 hSw; (try dsimp only at hSw); go_simp <;> with_reducible rfl)
      try simp only [Act.put, tA, tZ, tS]
      refine kT 22 ?_ ?_ ?_
      rotate_left
      · (intro w9 hSw; (try dsimp only at hSw); go_simp <;> with_reducible rfl)
      try simp only [Act.put, tA, tZ, tS]
      refine wpAnyH_ready (rs := [23]) (by kernel_rfl) (by simp) ?_
      refine AllReadyH.cons (by simp only [gA, gZ, gS]; rfl) (fun K hK => ?_) AllReadyH.nil
      go_simp
      (go_at_call 17; refine (frints_any _ _ _ _ _ marks _ ((unhide HI1).below (bel_trans (bel_drew (Below.refl _ _)) hba)) ((unhide HI2).below (bel_trans (bel_drew (Below.refl _ _)) hba))).mono ?_; rintro e' wb ⟨rfl, hbb⟩; have hS2 := sn6 hS1 hbb)
      (try go_wp2_with fail)
      refine hK.out _ _ ?_ (fun hHeld2 => ?_)
      · (try dsimp only); first | (with_reducible assumption) | (exact sn6 (by with_reducible assumption) (by with_reducible assumption))
      clear hK K hHeld
      have hHeld := hHeld2
      clear hHeld2
      try simp only [Act.put, tA, tZ, tS]
      refine kT 24 ?_ ?_ ?_
      rotate_left
      · (intro w9 hSw; (try dsimp only at hSw); go_simp <;> with_reducible rfl)
      try simp only [Act.put, tA, tZ, tS]
      refine kT 25 ?_ ?_ ?_
      rotate_left
      · (intro w9 hSw; (try dsimp only at hSw); go_simp <;> with_reducible rfl)
      try simp only [Act.put, tA, tZ, tS]
      refine wpAnyH_done (by kernel_rfl) ?_ _
      all_goals
        go_wp2
        go_roundw
        case rel => exact ⟨k + 1, by omega, by go_num, (by repeat (first | (with_reducible exact Below.refl _ _) | (with_reducible assumption) | (with_reducible refine bel_drew ?_) | (with_reducible refine bel_drewN ?_ _) | (with_reducible refine bel_trans ?_ (by with_reducible assumption))))⟩
        case measure => simp [intOf]; omega
    · go_wp2
      go_ret
      exact ⟨rfl, hbw⟩

set_option maxRecDepth 20000 in
set_option maxHeartbeats 4000000 in
theorem frckp_any (n : Int) (op : Bool) (sfn : Int) (B1 B2 : Nat) (src : List Int) (tsk : List Bool) (sn : List SnD) (at_ : List Int) (ssn : List SnD) (a2 b2 a3 b3 a4 b4 a6 b6 a7 b7 : Option Addr) (l2 l3 l4 l6 l7 c2 d2 c3 d3 c4 d4 c6 d6 c7 d7 : Nat) (w : World) (h2 : InRs w a2 l2 src) (g2 : InRs w b2 l2 src) (h3 : BoRs w a3 l3 tsk) (g3 : BoRs w b3 l3 tsk) (h4 : SnB w B1 a4 l4 sn) (g4 : SnB w B2 b4 l4 sn) (h6 : InRs w a6 l6 at_) (g6 : InRs w b6 l6 at_) (h7 : SnB w B1 a7 l7 ssn) (g7 : SnB w B2 b7 l7 ssn) (hn : ∀ x ∈ sn, x.rows = []) (hs : ∀ x ∈ ssn, x.rows = []) : Calls Try.prog 6 #[.agg #[.int .i64 n, .bool op, .slice a2 l2 c2, .slice a3 l3 c3, .slice a4 l4 c4, .int .i64 sfn, .slice a6 l6 c6, .slice a7 l7 c7], .agg #[.int .i64 n, .bool op, .slice b2 l2 d2, .slice b3 l3 d3, .slice b4 l4 d4, .int .i64 sfn, .slice b6 l6 d6, .slice b7 l7 d7]] w fun e w' => e = .returned (.bool true) ∧ Below w.heap.size w w' := by
  have hm3 := h3.2.1
  unfold maxLen at hm3
  have hb0 : Below w.heap.size w ((w.alloc (.cells #[.int .i64 n, .bool op, .slice a2 l2 c2, .slice a3 l3 c3, .slice a4 l4 c4, .int .i64 sfn, .slice a6 l6 c6, .slice a7 l7 c7] 32)).alloc (.cells #[.int .i64 n, .bool op, .slice b2 l2 d2, .slice b3 l3 d3, .slice b4 l4 d4, .int .i64 sfn, .slice b6 l6 d6, .slice b7 l7 d7] 32)) := bel_alloc (bel_one _ _) _
  have H2 := hide (h2.below hb0)
  have G2 := hide (g2.below hb0)
  have H3 := hide (h3.below hb0)
  have G3 := hide (g3.below hb0)
  have H4 := hide (h4.below hb0)
  have G4 := hide (g4.below hb0)
  have H6 := hide (h6.below hb0)
  have G6 := hide (g6.below hb0)
  have H7 := hide (h7.below hb0)
  have G7 := hide (g7.below hb0)
  clear h2 g2 h3 g3 h4 g4 h6 g6 h7 g7
  go_enter Try.func6, Try.ntmps6
  go_wp2_with fail
  refine (frints_any _ _ _ _ _ src _ (unhide H2) (unhide G2)).mono ?_
  rintro e w1 ⟨rfl, hb1⟩
  obtain ⟨x1, y1, z1⟩ := bcell hb1
  go_wp2_with fail
  refine (frsnaps_any B1 B2 _ _ _ _ _ sn _ ((unhide H4).below hb1) ((unhide G4).below hb1) hn).mono ?_
  rintro e w2 ⟨rfl, hb2⟩
  have hb12 := bel_trans hb1 hb2
  obtain ⟨x2, y2, z2⟩ := bcell hb12
  clear x1 y1 z1
  go_wp2_with fail
  refine (frints_any _ _ _ _ _ at_ _ ((unhide H6).below hb12) ((unhide G6).below hb12)).mono ?_
  rintro e w3 ⟨rfl, hb3⟩
  have hb13 := bel_trans hb12 hb3
  obtain ⟨x3, y3, z3⟩ := bcell hb13
  clear x2 y2 z2
  go_wp2_with fail
  refine (frsnaps_any B1 B2 _ _ _ _ _ ssn _ ((unhide H7).below hb13) ((unhide G7).below hb13) hs).mono ?_
  rintro e w4 ⟨rfl, hb4⟩
  have hb14 := bel_trans hb13 hb4
  clear x3 y3 z3 hb1 hb2 hb3 hb4 hb12 hb13
  have HA := hide ((unhide H3).below hb14)
  have HB := hide ((unhide G3).below hb14)
  obtain ⟨x4, y4, z4⟩ := bcell hb14
  have k3 : w4.cell? ⟨w.heap.size, 3, none⟩ = some (.slice a3 l3 c3) := (x4 _ _ (by simp; omega)).trans (by simp [go_sem])
  have k4 : w4.cell? ⟨w.heap.size + 1, 3, none⟩ = some (.slice b3 l3 d3) := (x4 _ _ (by simp)).trans (by simp [go_sem])
  have q3 : w.heap.size + 1 < w4.heap.size := z4 _ (by simp)
  have hbF : Below w.heap.size w w4 := bel_trans hb0 hb14
  clear x4 y4 z4 H2 G2 H3 G3 H4 G4 H6 G6 H7 G7 hb14 hb0
  go_wp2
  go_loopw [5] (fun i wr => ∃ k : Nat, k ≤ l3 ∧ i = .int .i64 k ∧ Below w4.heap.size w4 wr) (fun i _ => l3 - (intOf i).toNat)
  case atStart => exact ⟨0, Nat.zero_le _, rfl, Below.refl _ _⟩
  case round =>
    obtain ⟨k, hk, rfl, hbw⟩ := hrel
    have k5 := (hbw.cell (p := ⟨w.heap.size, 3, none⟩) (by simp; omega)).trans k3
    have k6 := (hbw.cell (p := ⟨w.heap.size + 1, 3, none⟩) (by simp; omega)).trans k4
    have q5 : w.heap.size + 1 < wr.heap.size := Nat.lt_of_lt_of_le q3 hbw.size
    by_cases hlt : k < l3
    · obtain ⟨hl1, _, hx1⟩ := unhide HA
      obtain ⟨hl2, _, hx2⟩ := unhide HB
      obtain ⟨g1, o1, rfl, hr1⟩ := hx1.resolve_left (by omega)
      obtain ⟨g2, o2, rfl, hr2⟩ := hx2.resolve_left (by omega)
      obtain ⟨x, hxk⟩ : ∃ x, tsk[k]? = some x := ⟨_, List.getElem?_eq_getElem (by omega)⟩
      have hg1 : g1 < w4.heap.size := hr1.lt (by omega)
      have hg2 : g2 < w4.heap.size := hr2.lt (by omega)
      have e0 := (hbw.cell (p := ⟨g1, o1 + k, none⟩) hg1).trans (hr1 k _ hxk)
      have f0 := (hbw.cell (p := ⟨g2, o2 + k, none⟩) hg2).trans (hr2 k _ hxk)
      clear hx1 hx2 hxk hr1 hr2 HA HB k3 k4
      go_wp2_with fail
      go_quiet (fail)
      go_wp2
      go_roundw
      case rel => exact ⟨k + 1, by omega, by go_num, (by repeat (first | (with_reducible exact Below.refl _ _) | (with_reducible assumption) | (with_reducible refine bel_drew ?_) | (with_reducible refine bel_drewN ?_ _)))⟩
      case measure => simp [intOf]; omega
    · clear k3 k4 HA HB
      go_wp2
      go_ret
      exact ⟨rfl, bel_trans hbF hbw⟩
end Go.Proofs.Ytabphkmhafflbaa
