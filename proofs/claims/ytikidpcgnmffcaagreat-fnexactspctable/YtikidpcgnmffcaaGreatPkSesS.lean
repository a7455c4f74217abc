/- Laid together: what the claim needs of the texts that were built one by one. -/
import Derived.Test.YtikidpcgnmffcaaGreatPkSesM
import Derived.Test.YtikidpcgnmffcaaGreatPkBase
import Derived.BigQuiet
import Derived.Deep.RegionHeld3
import Derived.Lib.SmallJoins
import Derived.RangeFuncRecord
namespace Go.Proofs.YtikidpcgnmffcaaGreat
open Go.ChangeShapes Go.WideShapes Go.ChangeAt Go.RowKit
set_option linter.unusedVariables false
set_option linter.unusedSimpArgs false

theorem ses6 {W W' : World} {g B p0 p1 p2 : Nat} {v0 v1 v2 v3 v4 v5 : Value} (h : (W.cell? ⟨g, p0, none⟩ = some v0 ∧ W.cell? ⟨g, p1, none⟩ = some v1 ∧ W.cell? ⟨g, p2, none⟩ = some v2 ∧ W.cell? ⟨B, 2, none⟩ = some v3 ∧ W.cell? ⟨B + 1, 0, none⟩ = some v4 ∧ W.cell? ⟨B + 1, 1, none⟩ = some v5) ∧ g < W.heap.size ∧ B + 1 < W.heap.size) (hb : Below W.heap.size W W') : (W'.cell? ⟨g, p0, none⟩ = some v0 ∧ W'.cell? ⟨g, p1, none⟩ = some v1 ∧ W'.cell? ⟨g, p2, none⟩ = some v2 ∧ W'.cell? ⟨B, 2, none⟩ = some v3 ∧ W'.cell? ⟨B + 1, 0, none⟩ = some v4 ∧ W'.cell? ⟨B + 1, 1, none⟩ = some v5) ∧ g < W'.heap.size ∧ B + 1 < W'.heap.size := by
  obtain ⟨⟨h0, h1, h2, h3, h4, h5⟩, z1, z2⟩ := h
  exact ⟨⟨(hb.cell (p := ⟨g, p0, none⟩) z1).trans h0, (hb.cell (p := ⟨g, p1, none⟩) z1).trans h1, (hb.cell (p := ⟨g, p2, none⟩) z1).trans h2, (hb.cell (p := ⟨B, 2, none⟩) (by simp; omega)).trans h3, (hb.cell (p := ⟨B + 1, 0, none⟩) z2).trans h4, (hb.cell (p := ⟨B + 1, 1, none⟩) z2).trans h5⟩, Nat.lt_of_lt_of_le z1 hb.size, Nat.lt_of_lt_of_le z2 hb.size⟩

theorem ownTb_bel {B : Nat} {W W' : World} {v : Value} {ys : List TbR} (h : OwnTb W B v ys) (hb : Below W.heap.size W W') : OwnTb W' B v ys := by
  rcases h with ⟨hl, h | ⟨g, cap, cur, rfl, hB, hblk, r⟩⟩
  · exact ⟨hl, Or.inl h⟩
  · exact ⟨hl, Or.inr ⟨g, cap, cur, rfl, hB, (hb.block g (Array.getElem?_eq_some_iff.1 hblk).1).trans hblk, r⟩⟩

theorem own_ne_w {B b : Nat} {W : World} {v : Value} {ys : List TbR} {cs : Array Value} (h : OwnTb W B v ys) (hb : W.heap[b]? = some (.cells cs 42 (0, 0))) : v.ownBlock ≠ some b := by
  rcases h.2 with ⟨rfl, _⟩ | ⟨g, cap, cur, rfl, _, hgb, _⟩
  · simp [Value.ownBlock]
  · intro e9
    simp [Value.ownBlock] at e9
    subst e9
    rw [hb] at hgb
    simp only [Option.some.injEq, Obj.cells.injEq] at hgb
    exact absurd hgb.2.1 (by decide)

theorem ownTb_set {B : Nat} {W : World} {p : Addr} {u v : Value} {ys : List TbR} (h : OwnTb W B v ys) (hp : v.ownBlock ≠ some p.block) : OwnTb (W.setCell p u) B v ys := by
  rcases h with ⟨hl, h | ⟨g, cap, cur, rfl, hB, hblk, r⟩⟩
  · exact ⟨hl, Or.inl h⟩
  · exact ⟨hl, Or.inr ⟨g, cap, cur, rfl, hB, (Below.heap_setCell _ _ _ _ (fun e => hp (by simp [Value.ownBlock, e]))).trans hblk, r⟩⟩

theorem spectouch_is {a b c d : Int} (w : World) {o : Bool} (h : Hid (touchB a b c d = o)) : Calls Tryz.prog 28 #[.agg #[.int .i64 a, .int .i64 b], .agg #[.int .i64 c, .int .i64 d]] w fun e w' => e = .returned (.bool o) ∧ Below w.heap.size w w' := by
  have h9 := spectouch_any a b c d w
  rw [unhide h] at h9
  exact h9

theorem specspan_is {a b c d x y : Int} (w : World) (h : Hid (loI a c = x ∧ hiI b d = y)) : Calls Tryz.prog 29 #[.agg #[.int .i64 a, .int .i64 b], .agg #[.int .i64 c, .int .i64 d]] w fun e w' => e = .returned (.agg #[.int .i64 x, .int .i64 y]) ∧ Below w.heap.size w w' := by
  have h9 := specspan_any a b c d w
  rw [(unhide h).1, (unhide h).2] at h9
  exact h9

theorem specadd_is {n s l m v x y u t : Int} (w : World) (h : Hid (addF (n, s, l, m) v = (x, y, u, t))) : Calls Tryz.prog 18 #[.agg #[.int .i64 n, .int .i64 s, .int .i64 l, .int .i64 m], .int .i64 v] w fun e w' => e = .returned (.agg #[.int .i64 x, .int .i64 y, .int .i64 u, .int .i64 t]) ∧ Below w.heap.size w w' := by
  have h9 := specadd_any n s l m v w
  have h8 := unhide h
  simp only [addF, Prod.mk.injEq] at h8
  obtain ⟨rfl, rfl, rfl, rfl⟩ := h8
  exact h9

theorem sesStep_yes {k a b : Int} {q : Ses} {r : TbR} (h1 : r.ky = k) (h2 : touchB r.st r.en a b = true) : sesStep k a b q r = ⟨loI q.a r.st, hiI q.b r.en, bothF q.g r.n r.su r.le r.mo, q.l⟩ := by unfold sesStep; rw [if_pos ⟨h1, h2⟩]

theorem sesStep_no {k a b : Int} {q : Ses} {r : TbR} (h : ¬ (r.ky = k ∧ touchB r.st r.en a b = true)) : sesStep k a b q r = ⟨q.a, q.b, q.g, q.l ++ [r]⟩ := by unfold sesStep; rw [if_neg h]

set_option maxRecDepth 20000 in
set_option maxHeartbeats 8000000 in
theorem specses_any (x0 x1 x2 x3 x4 a b : Int) (ar : Option Addr) (len cap : Nat) (rows : List TbR) (w : World) (h : TbRs w ar len rows) (hl : len ≤ 1000000) : Calls Tryz.prog 15 #[.slice ar len cap, .agg #[.int .i64 x0, .int .i64 x1, .int .i64 x2, .int .i64 x3, .int .i64 x4], .agg #[.int .i64 a, .int .i64 b]] w fun e w' => ∃ v, e = .returned v ∧ OwnTb w' w.heap.size v (sesPut x2 a b (addF ag0 x3) rows) ∧ Below w.heap.size w w' := by
  obtain ⟨i0, hi, hz0', hz1', hz2'⟩ := info_parts Tryz.infoTb
  have hlen := h.1
  have hm := h.2.1
  unfold maxLen at hm
  obtain ⟨na, nb, nc, nd, hg⟩ : ∃ na nb nc nd, addF ag0 x3 = (na, nb, nc, nd) := ⟨_, _, _, _, rfl⟩
  have HG := hide hg
  have HG0 : Hid (addF (0, 0, 0, 0) x3 = (na, nb, nc, nd)) := hide hg
  rw [hg]
  clear hg
  have hb0 : Below w.heap.size w ((w.alloc (.cells #[.int .i64 x0, .int .i64 x1, .int .i64 x2, .int .i64 x3, .int .i64 x4] 40)).alloc (.cells #[.int .i64 a, .int .i64 b] 42)) := bel_alloc (bel_one _ _) _
  go_enter Tryz.func15, Tryz.ntmps15
  go_wp2_with fail
  refine (specadd_is _ HG0).mono ?_
  rintro e' w1 ⟨rfl, hb1⟩
  have z1 : w.heap.size + 1 < w1.heap.size := by have := hb1.size; simp at this; omega
  have bR : w1.heap[w.heap.size]? = some (.cells #[.int .i64 x0, .int .i64 x1, .int .i64 x2, .int .i64 x3, .int .i64 x4] 40 (0, 0)) := (hb1.block w.heap.size (by simp; omega)).trans ((Below.heap_alloc _ _ _ (by simp)).trans (World.alloc_heap_new w _))
  have bW : w1.heap[w.heap.size + 1]? = some (.cells #[.int .i64 a, .int .i64 b] 42 (0, 0)) := (hb1.block (w.heap.size + 1) (by simp)).trans (by have h9 := World.alloc_heap_new (w.alloc (.cells #[.int .i64 x0, .int .i64 x1, .int .i64 x2, .int .i64 x3, .int .i64 x4] 40)) (.cells #[.int .i64 a, .int .i64 b] 42); rw [World.size_alloc] at h9; exact h9)
  have hbw1 : Below w.heap.size w w1 := bel_trans hb0 hb1
  have cW0 := Joins.cell_of_block bW 0
  have cW1 := Joins.cell_of_block bW 1
  simp only [gA, gZ, gS] at cW0 cW1
  have zA : w.heap.size + 1 < w1.heap.size + 1 := by omega
  have zB : w.heap.size + 1 < w1.heap.size + 1 + 1 := by omega
  clear hb0 hb1 HG0
  go_wp2
  clear zA zB
  clear cW0 cW1
  go_loopw [8, 10] (fun lv iv wr => ∃ (i : Nat) (q : Ses), i ≤ len ∧ iv = .int .i64 i ∧ Hid (sesAll x2 a b (na, nb, nc, nd) (rows.take i) = q) ∧ Hid (wr.heap[w1.heap.size]? = some (.cells #[.int .i64 q.g.1, .int .i64 q.g.2.1, .int .i64 q.g.2.2.1, .int .i64 q.g.2.2.2] 47 (0, 0))) ∧ Hid (wr.heap[w1.heap.size + 1 + 1]? = some (.cells #[.int .i64 q.a, .int .i64 q.b] 42 (0, 0))) ∧ Hid (OwnTb wr (w1.heap.size + 1) lv q.l) ∧ Below w1.heap.size w1 wr) (fun _ iv _ => len - (intOf iv).toNat)
  case atStart =>
    refine ⟨0, ⟨a, b, (na, nb, nc, nd), []⟩, Nat.zero_le _, rfl, hide rfl, hide ?_, hide ?_, hide ?_, bel_alloc (bel_alloc (bel_one _ _) _) _⟩
    · rw [Below.heap_alloc _ _ _ (by simp; omega), Below.heap_alloc _ _ _ (by simp)]
      exact World.alloc_heap_new w1 _
    · have h9 := World.alloc_heap_new ((w1.alloc (.cells #[.int .i64 na, .int .i64 nb, .int .i64 nc, .int .i64 nd] 47)).alloc (.cells #[] 53)) (.cells #[.int .i64 a, .int .i64 b] 42)
      rw [World.size_alloc, World.size_alloc] at h9
      exact h9
    · refine World.ownsRow.alloc ?_ _
      have h9 := World.ownsRow_lit (base := w1.heap.size + 1) (size := 7) (e := 53) (w1.alloc (.cells #[.int .i64 na, .int .i64 nb, .int .i64 nc, .int .i64 nd] 47)) #[] 0 (by simp) (by decide) (by simp)
      rw [World.size_alloc] at h9
      exact h9
  case round =>
    obtain ⟨i, q, hil, rfl, HQ, HA, HB, HO, hbw⟩ := hrel
    have zr : w1.heap.size + 1 + 1 < wr.heap.size := (Array.getElem?_eq_some_iff.1 (unhide HB)).1
    have bR1 := (hbw.block w.heap.size (by omega)).trans bR
    have bW1 := (hbw.block (w.heap.size + 1) (by omega)).trans bW
    have hql : q.l.length ≤ i := by rw [← unhide HQ]; refine Nat.le_trans (sesAll_len _ _ _ _ _) ?_; rw [List.length_take]; omega
    by_cases hlt : i < len
    · obtain ⟨_, _, hy⟩ := h
      obtain ⟨g, o, rfl, hr⟩ := hy.resolve_left (by omega)
      obtain ⟨x, hxk⟩ : ∃ x, rows[i]? = some x := ⟨_, List.getElem?_eq_getElem (by omega)⟩
      have hgw : g < w.heap.size := hr.lt (by omega)
      obtain ⟨c0, c1, c2, c3, c4, c5, c6⟩ := (hr i _ hxk).below (bel_trans hbw1 hbw) hgw
      have HS := hide (sesAll_snoc (k := x2) (a := a) (b := b) (g := (na, nb, nc, nd)) hxk)
      rw [unhide HQ] at HS
      clear hr hy hxk
      obtain ⟨ky, st, en, n, su, le, mo⟩ := x
      dsimp only at c0 c1 c2 c3 c4 c5 c6
      have hS0 : (wr.drew.cell? ⟨g, o + i * 7, none⟩ = some (.int .i64 ky) ∧ wr.drew.cell? ⟨g, o + i * 7 + 1, none⟩ = some (.int .i64 st) ∧ wr.drew.cell? ⟨g, o + i * 7 + 2, none⟩ = some (.int .i64 en) ∧ wr.drew.cell? ⟨w.heap.size, 2, none⟩ = some (.int .i64 x2) ∧ wr.drew.cell? ⟨w.heap.size + 1, 0, none⟩ = some (.int .i64 a) ∧ wr.drew.cell? ⟨w.heap.size + 1, 1, none⟩ = some (.int .i64 b)) ∧ g < wr.drew.heap.size ∧ w.heap.size + 1 < wr.drew.heap.size := ⟨⟨c0, c1, c2, Joins.cell_of_block bR1 2, Joins.cell_of_block bW1 0, Joins.cell_of_block bW1 1⟩, by show g < wr.heap.size; omega, by show w.heap.size + 1 < wr.heap.size; omega⟩
      have hgr : g < wr.heap.size := by omega
      by_cases hk : ky = x2
      · have hk1 : (ky == x2) = true := by simp [hk]
        cases hT : touchB st en a b
        · have HTB := hide hT
          have HN := hide (sesStep_no (k := x2) (a := a) (b := b) (q := q) (r := ⟨ky, st, en, n, su, le, mo⟩) (fun h9 => by rw [show touchB st en a b = true from h9.2] at hT; cases hT))
          clear hk hT
          go_wp2_with fail
          refine wp_region_held_drew (S := (fun W => (W.cell? ⟨g, o + i * 7, none⟩ = some (.int .i64 ky) ∧ W.cell? ⟨g, o + i * 7 + 1, none⟩ = some (.int .i64 st) ∧ W.cell? ⟨g, o + i * 7 + 2, none⟩ = some (.int .i64 en) ∧ W.cell? ⟨w.heap.size, 2, none⟩ = some (.int .i64 x2) ∧ W.cell? ⟨w.heap.size + 1, 0, none⟩ = some (.int .i64 a) ∧ W.cell? ⟨w.heap.size + 1, 1, none⟩ = some (.int .i64 b)) ∧ g < W.heap.size ∧ w.heap.size + 1 < W.heap.size)) (by kernel_rfl) ?_ (fun hHeld => ?_)
          · (try dsimp only); first | (with_reducible assumption) | (exact ses6 (by with_reducible assumption) (by with_reducible assumption))
          refine kT 0 ?_ ?_ ?_
          rotate_left
          · (intro w9 hSw; (try dsimp only at hSw); go_simp <;> with_reducible rfl)
          try simp only [Act.put, tA, tZ, tS]
          refine kT 1 ?_ ?_ ?_
          rotate_left
          · (intro w9 hSw; (try dsimp only at hSw); go_simp <;> with_reducible rfl)
          try simp only [Act.put, tA, tZ, tS]
          refine kT 2 ?_ ?_ ?_
          rotate_left
          · (intro w9 hSw; (try dsimp only at hSw); go_simp <;> with_reducible rfl)
          try simp only [Act.put, tA, tZ, tS]
          refine kT 3 ?_ ?_ ?_
          rotate_left
          · (intro w9 hSw; (try dsimp only at hSw); go_simp <;> with_reducible rfl)
          try simp only [Act.put, tA, tZ, tS]
          refine kT 4 ?_ ?_ ?_
          rotate_left
          · (intro w9 hSw; (try dsimp only at hSw); go_simp <;> with_reducible rfl)
          try simp only [Act.put, tA, tZ, tS]
          refine kT 5 ?_ ?_ ?_
          rotate_left
          · (intro w9 hSw; (try dsimp only at hSw); go_simp <;> with_reducible rfl)
          try simp only [Act.put, tA, tZ, tS]
          refine kT 6 ?_ ?_ ?_
          rotate_left
          · (intro w9 hSw; (try dsimp only at hSw); go_simp <;> with_reducible rfl)
          try simp only [Act.put, tA, tZ, tS]
          refine kT 7 ?_ ?_ ?_
          rotate_left
          · (intro w9 hSw; (try dsimp only at hSw); go_simp <;> with_reducible rfl)
          try simp only [Act.put, tA, tZ, tS]
          refine kT 8 ?_ ?_ ?_
          rotate_left
          · (intro w9 hSw; (try dsimp only at hSw); go_simp <;> with_reducible rfl)
          try simp only [Act.put, tA, tZ, tS]
          refine kT 9 ?_ ?_ ?_
          rotate_left
          · (intro w9 hSw; (try dsimp only at hSw); go_simp <;> with_reducible rfl)
          try simp only [Act.put, tA, tZ, tS]
          refine kT 10 ?_ ?_ ?_
          rotate_left
          · (intro w9 hSw; (try dsimp only at hSw); go_simp <;> with_reducible rfl)
          try simp only [Act.put, tA, tZ, tS]
          refine kT 11 ?_ ?_ ?_
          rotate_left
          · (intro w9 hSw; (try dsimp only at hSw); go_simp <;> with_reducible rfl)
          try simp only [Act.put, tA, tZ, tS]
          refine kT 12 ?_ ?_ ?_
          rotate_left
          · (intro w9 hSw; (try dsimp only at hSw); go_simp <;> with_reducible rfl)
          try simp only [Act.put, tA, tZ, tS]
          refine kT 13 ?_ ?_ ?_
          rotate_left
          · (intro w9 hSw; (try dsimp only at hSw); go_simp <;> with_reducible rfl)
          try simp only [Act.put, tA, tZ, tS]
          refine kT 14 ?_ ?_ ?_
          rotate_left
          · (intro w9 hSw; (try dsimp only at hSw); go_simp <;> with_reducible rfl)
          try simp only [Act.put, tA, tZ, tS]
          refine wpAnyH_ready (rs := [15]) (by kernel_rfl) (by simp) ?_
          refine AllReadyH.cons (by simp only [gA, gZ, gS]; rfl) (fun K hK => ?_) AllReadyH.nil
          go_simp
          (go_at_call 28; refine (spectouch_is _ HTB).mono ?_; rintro e' wa ⟨rfl, hba⟩; have hS1 := ses6 hS0 hba)
          (try go_wp2_with fail)
          refine hK.out _ _ ?_ (fun hHeld2 => ?_)
          · (try dsimp only); first | (with_reducible assumption) | (exact ses6 (by with_reducible assumption) (by with_reducible assumption))
          clear hK K hHeld
          have hHeld := hHeld2
          clear hHeld2
          try simp only [Act.put, tA, tZ, tS]
          refine kT 16 ?_ ?_ ?_
          rotate_left
          · (intro w9 hSw; (try dsimp only at hSw); go_simp <;> with_reducible rfl)
          try simp only [Act.put, tA, tZ, tS]
          refine wpAnyH_done (by kernel_rfl) ?_ _
          have hbA : Below w1.heap.size w1 wa := bel_trans (bel_drew hbw) hba
          have HOa := hide (ownTb_bel (unhide HO) (bel_trans (bel_drew (Below.refl _ _)) hba))
          have HA2 := hide ((hba.block w1.heap.size (by show _ < wr.heap.size; omega)).trans (unhide HA))
          have HB2 := hide ((hba.block (w1.heap.size + 1 + 1) zr).trans (unhide HB))
          have za := hba.size
          have zz : wr.heap.size ≤ wa.heap.size := za
          have d0 := (hba.cell (p := ⟨g, o + i * 7, none⟩) hgr).trans c0
          have d1 := (hba.cell (p := ⟨g, o + i * 7 + 1, none⟩) hgr).trans c1
          have d2 := (hba.cell (p := ⟨g, o + i * 7 + 2, none⟩) hgr).trans c2
          have d3 := (hba.cell (p := ⟨g, o + i * 7 + 3, none⟩) hgr).trans c3
          have d4 := (hba.cell (p := ⟨g, o + i * 7 + 4, none⟩) hgr).trans c4
          have d5 := (hba.cell (p := ⟨g, o + i * 7 + 5, none⟩) hgr).trans c5
          have d6 := (hba.cell (p := ⟨g, o + i * 7 + 6, none⟩) hgr).trans c6
          clear hHeld hS0 hS1 hba za c0 c1 c2 c3 c4 c5 c6
          have zq : w1.heap.size + 1 + 1 < wa.heap.size := by omega
          have hgq : g < wa.heap.size := by omega
          clear HA HB HO hbw bR1 bW1
          generalize wa = wq at *
          have hge := hide (fun b (hb : u8.ownBlock = some b) => (World.ownsRow.lt (unhide HOa) b hb).1)
          have hne := hide (own_ne_w (unhide HOa) (unhide HB2))
          go_wp2_with (at_builtin; go_loud (refine wpList_append_own _ rfl _ _ 26 rfl (w1.heap.size + 1) 53 i0 _ 7 56 Tryz.underlying26 hi hz0' hz1' hz2' rfl (by decide) u8 _ _ rfl (World.ownsRow.alloc (unhide HOa) _) ⟨wq.heap.size, 0, none⟩ 1 1 [.int .i64 ky, .int .i64 st, .int .i64 en, .int .i64 n, .int .i64 su, .int .i64 le, .int .i64 mo] rfl rfl (cells_newTb wq ky st en n su le mo _) (by simp [Value.oneCell']) (by unfold maxLen; omega) (by omega) (by simp; omega) ?_); intro v' w5 hown hgrow hnn)
          have hb5 : Below (w1.heap.size + 1) wq w5 := ((Below.refl _ wq).alloc (by omega) _).grown hgrow (by simp; omega) (unhide hge)
          have e5 : w5.heap[w1.heap.size + 1 + 1]? = wq.heap[w1.heap.size + 1 + 1]? := (hgrow.block _ (by simp; omega) (fun e9 => unhide hne e9.symm)).trans (Below.heap_alloc _ _ _ (by omega))
          have e6 := hb5.block w1.heap.size (by omega)
          have O5 := ownTb_snoc (x := ⟨ky, st, en, n, su, le, mo⟩) hown
          refine ⟨⟨i + 1, ⟨q.a, q.b, q.g, q.l ++ [⟨ky, st, en, n, su, le, mo⟩]⟩, by omega, by go_num, hide (by rw [unhide HS]; exact unhide HN), hide (e6.trans (unhide HA2)), hide (e5.trans (unhide HB2)), hide O5, hbA.trans (hb5.mono (by omega))⟩, ?_⟩
          simp [intOf]; omega
        · have HTB := hide hT
          have HN := hide (sesStep_yes (k := x2) (a := a) (b := b) (q := q) (r := ⟨ky, st, en, n, su, le, mo⟩) hk hT)
          clear hk hT
          go_wp2_with fail
          refine wp_region_held_drew (S := (fun W => (W.cell? ⟨g, o + i * 7, none⟩ = some (.int .i64 ky) ∧ W.cell? ⟨g, o + i * 7 + 1, none⟩ = some (.int .i64 st) ∧ W.cell? ⟨g, o + i * 7 + 2, none⟩ = some (.int .i64 en) ∧ W.cell? ⟨w.heap.size, 2, none⟩ = some (.int .i64 x2) ∧ W.cell? ⟨w.heap.size + 1, 0, none⟩ = some (.int .i64 a) ∧ W.cell? ⟨w.heap.size + 1, 1, none⟩ = some (.int .i64 b)) ∧ g < W.heap.size ∧ w.heap.size + 1 < W.heap.size)) (by kernel_rfl) ?_ (fun hHeld => ?_)
          · (try dsimp only); first | (with_reducible assumption) | (exact ses6 (by with_reducible assumption) (by with_reducible assumption))
          refine kT 0 ?_ ?_ ?_
          rotate_left
          · (intro w9 hSw; (try dsimp only at hSw); go_simp <;> with_reducible rfl)
          try simp only [Act.put, tA, tZ, tS]
          refine kT 1 ?_ ?_ ?_
          rotate_left
          · (intro w9 hSw; (try dsimp only at hSw); go_simp <;> with_reducible rfl)
          try simp only [Act.put, tA, tZ, tS]
          refine kT 2 ?_ ?_ ?_
          rotate_left
          · (intro w9 hSw; (try dsimp only at hSw); go_simp <;> with_reducible rfl)
          try simp only [Act.put, tA, tZ, tS]
          refine kT 3 ?_ ?_ ?_
          rotate_left
          · (intro w9 hSw; (try dsimp only at hSw); go_simp <;> with_reducible rfl)
          try simp only [Act.put, tA, tZ, tS]
          refine kT 4 ?_ ?_ ?_
          rotate_left
          · (intro w9 hSw; (try dsimp only at hSw); go_simp <;> with_reducible rfl)
          try simp only [Act.put, tA, tZ, tS]
          refine kT 5 ?_ ?_ ?_
          rotate_left
          · (intro w9 hSw; (try dsimp only at hSw); go_simp <;> with_reducible rfl)
          try simp only [Act.put, tA, tZ, tS]
          refine kT 6 ?_ ?_ ?_
          rotate_left
          · (intro w9 hSw; (try dsimp only at hSw); go_simp <;> with_reducible rfl)
          try simp only [Act.put, tA, tZ, tS]
          refine kT 7 ?_ ?_ ?_
          rotate_left
          · (intro w9 hSw; (try dsimp only at hSw); go_simp <;> with_reducible rfl)
          try simp only [Act.put, tA, tZ, tS]
          refine kT 8 ?_ ?_ ?_
          rotate_left
          · (intro w9 hSw; (try dsimp only at hSw); go_simp <;> with_reducible rfl)
          try simp only [Act.put, tA, tZ, tS]
          refine kT 9 ?_ ?_ ?_
          rotate_left
          · (intro w9 hSw; (try dsimp only at hSw); go_simp <;> with_reducible rfl)
          try simp only [Act.put, tA, tZ, tS]
          refine kT 10 ?_ ?_ ?_
          rotate_left
          · (intro w9 hSw; (try dsimp only at hSw); go_simp <;> with_reducible rfl)
          try simp only [Act.put, tA, tZ, tS]
          refine kT 11 ?_ ?_ ?_
          rotate_left
          · (intro w9 hSw; (try dsimp only at hSw); go_simp <;> with_reducible rfl)
          try simp only [Act.put, tA, tZ, tS]
          refine kT 12 ?_ ?_ ?_
          rotate_left
          · (intro w9 hSw; (try dsimp only at hSw); go_simp <;> with_reducible rfl)
          try simp only [Act.put, tA, tZ, tS]
          refine kT 13 ?_ ?_ ?_
          rotate_left
          · (intro w9 hSw; (try dsimp only at hSw); go_simp <;> with_reducible rfl)
          try simp only [Act.put, tA, tZ, tS]
          refine kT 14 ?_ ?_ ?_
          rotate_left
          · (intro w9 hSw; (try dsimp only at hSw); go_simp <;> with_reducible rfl)
          try simp only [Act.put, tA, tZ, tS]
          refine wpAnyH_ready (rs := [15]) (by kernel_rfl) (by simp) ?_
          refine AllReadyH.cons (by simp only [gA, gZ, gS]; rfl) (fun K hK => ?_) AllReadyH.nil
          go_simp
          (go_at_call 28; refine (spectouch_is _ HTB).mono ?_; rintro e' wa ⟨rfl, hba⟩; have hS1 := ses6 hS0 hba)
          (try go_wp2_with fail)
          refine hK.out _ _ ?_ (fun hHeld2 => ?_)
          · (try dsimp only); first | (with_reducible assumption) | (exact ses6 (by with_reducible assumption) (by with_reducible assumption))
          clear hK K hHeld
          have hHeld := hHeld2
          clear hHeld2
          try simp only [Act.put, tA, tZ, tS]
          refine kT 16 ?_ ?_ ?_
          rotate_left
          · (intro w9 hSw; (try dsimp only at hSw); go_simp <;> with_reducible rfl)
          try simp only [Act.put, tA, tZ, tS]
          refine wpAnyH_done (by kernel_rfl) ?_ _
          have hbA : Below w1.heap.size w1 wa := bel_trans (bel_drew hbw) hba
          have HOa := hide (ownTb_bel (unhide HO) (bel_trans (bel_drew (Below.refl _ _)) hba))
          have HA2 := hide ((hba.block w1.heap.size (by show _ < wr.heap.size; omega)).trans (unhide HA))
          have HB2 := hide ((hba.block (w1.heap.size + 1 + 1) zr).trans (unhide HB))
          have za := hba.size
          have zz : wr.heap.size ≤ wa.heap.size := za
          have d0 := (hba.cell (p := ⟨g, o + i * 7, none⟩) hgr).trans c0
          have d1 := (hba.cell (p := ⟨g, o + i * 7 + 1, none⟩) hgr).trans c1
          have d2 := (hba.cell (p := ⟨g, o + i * 7 + 2, none⟩) hgr).trans c2
          have d3 := (hba.cell (p := ⟨g, o + i * 7 + 3, none⟩) hgr).trans c3
          have d4 := (hba.cell (p := ⟨g, o + i * 7 + 4, none⟩) hgr).trans c4
          have d5 := (hba.cell (p := ⟨g, o + i * 7 + 5, none⟩) hgr).trans c5
          have d6 := (hba.cell (p := ⟨g, o + i * 7 + 6, none⟩) hgr).trans c6
          clear hHeld hS0 hS1 hba za c0 c1 c2 c3 c4 c5 c6
          have zq : w1.heap.size + 1 + 1 < wa.heap.size := by omega
          have hgq : g < wa.heap.size := by omega
          clear HA HB HO hbw bR1 bW1
          generalize wa = wq at *
          obtain ⟨xa, xb, hsp⟩ : ∃ xa xb, loI q.a st = xa ∧ hiI q.b en = xb := ⟨_, _, rfl, rfl⟩
          obtain ⟨ya, yb, yc, yd, hbo⟩ : ∃ ya yb yc yd, bothF (q.g.1, q.g.2.1, q.g.2.2.1, q.g.2.2.2) n su le mo = (ya, yb, yc, yd) := ⟨_, _, _, _, rfl⟩
          have HSP := hide hsp
          have HBO := hide hbo
          have HQ2 : Hid (sesStep x2 a b q ⟨ky, st, en, n, su, le, mo⟩ = ⟨xa, xb, (ya, yb, yc, yd), q.l⟩) := hide (by rw [unhide HN]; show (⟨loI q.a st, hiI q.b en, bothF q.g n su le mo, q.l⟩ : Ses) = _; rw [hsp.1, hsp.2]; congr 1)
          clear hsp hbo HN
          have s0 := Joins.cell_of_block (unhide HB2) 0
          have s1 := Joins.cell_of_block (unhide HB2) 1
          have f0 : ∀ j, wq.frozen? ⟨w1.heap.size + 1 + 1, j, none⟩ = false := fun j => by simp [World.frozen?, unhide HB2]
          have f00 := f0 0
          have f01 := f0 1
          simp only [gA, gZ, gS] at s0 s1
          clear f0
          go_wp2_with fail
          go_region_with (go_at_call 29; refine (specspan_is _ HSP).mono ?_; rintro e' wb ⟨rfl, hbb⟩; obtain ⟨b0, b1, b2⟩ := bcell hbb; have k0 := (b0 _ 0 (show w1.heap.size + 1 + 1 < wq.drew.heap.size from zq)).trans s0; have k1 := (b0 _ 1 (show w1.heap.size + 1 + 1 < wq.drew.heap.size from zq)).trans s1; have k2 := (b1 _ 0 (show w1.heap.size + 1 + 1 < wq.drew.heap.size from zq)).trans f00; have k3 := (b1 _ 1 (show w1.heap.size + 1 + 1 < wq.drew.heap.size from zq)).trans f01; clear b0 b1 b2)
          all_goals
            have zb := hbb.size
            have zb1 : wq.heap.size ≤ wb.heap.size := zb
            have HB3 : Hid (((wb.setCell ⟨w1.heap.size + 1 + 1, 0, none⟩ (.int .i64 xa)).setCell ⟨w1.heap.size + 1 + 1, 1, none⟩ (.int .i64 xb)).heap[w1.heap.size + 1 + 1]? = some (.cells #[.int .i64 xa, .int .i64 xb] 42 (0, 0))) := hide (Joins.block_setCell (Joins.block_setCell ((hbb.block (w1.heap.size + 1 + 1) zq).trans (unhide HB2)) _) _)
            have hbS : Below (w1.heap.size + 1) wq ((wb.setCell ⟨w1.heap.size + 1 + 1, 0, none⟩ (.int .i64 xa)).setCell ⟨w1.heap.size + 1 + 1, 1, none⟩ (.int .i64 xb)) := (((((Below.refl _ wq).drew).trans (hbb.mono (by show _ ≤ wq.heap.size; omega))).setCell (by simp) _).setCell (by simp) _)
            have HOs : Hid (OwnTb ((wb.setCell ⟨w1.heap.size + 1 + 1, 0, none⟩ (.int .i64 xa)).setCell ⟨w1.heap.size + 1 + 1, 1, none⟩ (.int .i64 xb)) (w1.heap.size + 1) u8 q.l) := hide (ownTb_set (ownTb_set (ownTb_bel (unhide HOa) (bel_trans (bel_drew (Below.refl _ _)) hbb)) (own_ne_w (unhide HOa) (unhide HB2))) (own_ne_w (unhide HOa) (unhide HB2)))
            have zs : ((wb.setCell ⟨w1.heap.size + 1 + 1, 0, none⟩ (.int .i64 xa)).setCell ⟨w1.heap.size + 1 + 1, 1, none⟩ (.int .i64 xb)).heap.size = wb.heap.size := by simp [World.setCell]
            have HA3 := hide ((hbS.block w1.heap.size (by omega)).trans (unhide HA2))
            have hbA3 : Below w1.heap.size w1 ((wb.setCell ⟨w1.heap.size + 1 + 1, 0, none⟩ (.int .i64 xa)).setCell ⟨w1.heap.size + 1 + 1, 1, none⟩ (.int .i64 xb)) := hbA.trans (hbS.mono (by omega))
            have e0 := (hbS.cell (p := ⟨g, o + i * 7, none⟩) (by simp; omega)).trans d0
            have e3 := (hbS.cell (p := ⟨g, o + i * 7 + 3, none⟩) (by simp; omega)).trans d3
            have e4 := (hbS.cell (p := ⟨g, o + i * 7 + 4, none⟩) (by simp; omega)).trans d4
            have e5 := (hbS.cell (p := ⟨g, o + i * 7 + 5, none⟩) (by simp; omega)).trans d5
            have e6 := (hbS.cell (p := ⟨g, o + i * 7 + 6, none⟩) (by simp; omega)).trans d6
            clear hbb hbS hbA HA2 HB2 HOa d0 d1 d2 d3 d4 d5 d6 s0 s1 f00 f01 k0 k1 k2 k3 zb
            generalize ((wb.setCell ⟨w1.heap.size + 1 + 1, 0, none⟩ (.int .i64 xa)).setCell ⟨w1.heap.size + 1 + 1, 1, none⟩ (.int .i64 xb)) = wc at *
            have zc : w1.heap.size + 1 + 1 < wc.heap.size := by omega
            have hgc : g < wc.heap.size := by omega
            have a0 := Joins.cell_of_block (unhide HA3) 0
            have a1 := Joins.cell_of_block (unhide HA3) 1
            have a2 := Joins.cell_of_block (unhide HA3) 2
            have a3 := Joins.cell_of_block (unhide HA3) 3
            have f0 : ∀ j, wc.frozen? ⟨w1.heap.size, j, none⟩ = false := fun j => by simp [World.frozen?, unhide HA3]
            have f00 := f0 0
            have f01 := f0 1
            have f02 := f0 2
            have f03 := f0 3
            simp only [gA, gZ, gS] at a0 a1 a2 a3
            clear f0 zs zb1 zz zr hgr
            go_wp2_with fail
            go_region_with (go_at_call 30; refine (specboth_at _ HBO).mono ?_; rintro e' wd ⟨rfl, hbd⟩; obtain ⟨b0, b1, b2⟩ := bcell hbd; have k0 := (b0 _ 0 (show w1.heap.size < wc.drew.heap.size from (by show w1.heap.size < wc.heap.size; omega))).trans a0; have k1 := (b0 _ 1 (show w1.heap.size < wc.drew.heap.size from (by show w1.heap.size < wc.heap.size; omega))).trans a1; have k2 := (b0 _ 2 (show w1.heap.size < wc.drew.heap.size from (by show w1.heap.size < wc.heap.size; omega))).trans a2; have k3 := (b0 _ 3 (show w1.heap.size < wc.drew.heap.size from (by show w1.heap.size < wc.heap.size; omega))).trans a3; have m0 := (b1 _ 0 (show w1.heap.size < wc.drew.heap.size from (by show w1.heap.size < wc.heap.size; omega))).trans f00; have m1 := (b1 _ 1 (show w1.heap.size < wc.drew.heap.size from (by show w1.heap.size < wc.heap.size; omega))).trans f01; have m2 := (b1 _ 2 (show w1.heap.size < wc.drew.heap.size from (by show w1.heap.size < wc.heap.size; omega))).trans f02; have m3 := (b1 _ 3 (show w1.heap.size < wc.drew.heap.size from (by show w1.heap.size < wc.heap.size; omega))).trans f03; clear b0 b1 b2)
            all_goals
              have hA4 : wd.heap[w1.heap.size]? = _ := (hbd.block w1.heap.size (by show _ < wc.heap.size; omega)).trans (unhide HA3)
              have hB4 : wd.heap[w1.heap.size + 1 + 1]? = _ := (hbd.block (w1.heap.size + 1 + 1) zc).trans (unhide HB3)
              have hO4 := ownTb_bel (unhide HOs) (bel_trans (bel_drew (Below.refl _ _)) hbd)
              have hbA4 : Below w1.heap.size w1 wd := bel_trans (bel_drew hbA3) hbd
              have hnb : u8.ownBlock ≠ some w1.heap.size := fun e9 => by have := (World.ownsRow.lt (unhide HOs) _ e9).1; omega
              have hA5 : Hid (((((wd.setCell ⟨w1.heap.size, 0, none⟩ (.int .i64 ya)).setCell ⟨w1.heap.size, 1, none⟩ (.int .i64 yb)).setCell ⟨w1.heap.size, 2, none⟩ (.int .i64 yc)).setCell ⟨w1.heap.size, 3, none⟩ (.int .i64 yd)).heap[w1.heap.size]? = some (.cells #[.int .i64 ya, .int .i64 yb, .int .i64 yc, .int .i64 yd] 47 (0, 0))) := hide (Joins.block_setCell (Joins.block_setCell (Joins.block_setCell (Joins.block_setCell hA4 _) _) _) _)
              have hB5 : Hid (((((wd.setCell ⟨w1.heap.size, 0, none⟩ (.int .i64 ya)).setCell ⟨w1.heap.size, 1, none⟩ (.int .i64 yb)).setCell ⟨w1.heap.size, 2, none⟩ (.int .i64 yc)).setCell ⟨w1.heap.size, 3, none⟩ (.int .i64 yd)).heap[w1.heap.size + 1 + 1]? = some (.cells #[.int .i64 xa, .int .i64 xb] 42 (0, 0))) := hide ((Below.heap_setCell _ _ _ _ (by simp; omega)).trans ((Below.heap_setCell _ _ _ _ (by simp; omega)).trans ((Below.heap_setCell _ _ _ _ (by simp; omega)).trans ((Below.heap_setCell _ _ _ _ (by simp; omega)).trans hB4))))
              have hO5 : Hid (OwnTb ((((wd.setCell ⟨w1.heap.size, 0, none⟩ (.int .i64 ya)).setCell ⟨w1.heap.size, 1, none⟩ (.int .i64 yb)).setCell ⟨w1.heap.size, 2, none⟩ (.int .i64 yc)).setCell ⟨w1.heap.size, 3, none⟩ (.int .i64 yd)) (w1.heap.size + 1) u8 q.l) := hide (ownTb_set (ownTb_set (ownTb_set (ownTb_set hO4 hnb) hnb) hnb) hnb)
              have hF5 : Below w1.heap.size w1 ((((wd.setCell ⟨w1.heap.size, 0, none⟩ (.int .i64 ya)).setCell ⟨w1.heap.size, 1, none⟩ (.int .i64 yb)).setCell ⟨w1.heap.size, 2, none⟩ (.int .i64 yc)).setCell ⟨w1.heap.size, 3, none⟩ (.int .i64 yd)) := bel_set (bel_set (bel_set (bel_set hbA4 (by simp) _) (by simp) _) (by simp) _) (by simp) _
              clear hbd hbA3 hbA4 hA4 hB4 hO4 HA3 HB3 HOs a0 a1 a2 a3 f00 f01 f02 f03 k0 k1 k2 k3 m0 m1 m2 m3
              generalize ((((wd.setCell ⟨w1.heap.size, 0, none⟩ (.int .i64 ya)).setCell ⟨w1.heap.size, 1, none⟩ (.int .i64 yb)).setCell ⟨w1.heap.size, 2, none⟩ (.int .i64 yc)).setCell ⟨w1.heap.size, 3, none⟩ (.int .i64 yd)) = we at *
              go_wp2
              refine ⟨⟨i + 1, ⟨xa, xb, (ya, yb, yc, yd), q.l⟩, by omega, by go_num, hide (by rw [unhide HS]; exact unhide HQ2), hA5, hB5, hO5, hF5⟩, ?_⟩
              simp [intOf]; omega
      · have hk1 : (ky == x2) = false := by simp [hk]
        have HN := hide (sesStep_no (k := x2) (a := a) (b := b) (q := q) (r := ⟨ky, st, en, n, su, le, mo⟩) (fun h9 => hk h9.1))
        clear hk
        go_wp2_with fail
        refine wp_region_held_drew (S := (fun W => (W.cell? ⟨g, o + i * 7, none⟩ = some (.int .i64 ky) ∧ W.cell? ⟨g, o + i * 7 + 1, none⟩ = some (.int .i64 st) ∧ W.cell? ⟨g, o + i * 7 + 2, none⟩ = some (.int .i64 en) ∧ W.cell? ⟨w.heap.size, 2, none⟩ = some (.int .i64 x2) ∧ W.cell? ⟨w.heap.size + 1, 0, none⟩ = some (.int .i64 a) ∧ W.cell? ⟨w.heap.size + 1, 1, none⟩ = some (.int .i64 b)) ∧ g < W.heap.size ∧ w.heap.size + 1 < W.heap.size)) (by kernel_rfl) ?_ (fun hHeld => ?_)
        · (try dsimp only); first | (with_reducible assumption) | (exact ses6 (by with_reducible assumption) (by with_reducible assumption))
        refine kT 0 ?_ ?_ ?_
        rotate_left
        · (intro w9 hSw; (try dsimp only at hSw); go_simp <;> with_reducible rfl)
        try simp only [Act.put, tA, tZ, tS]
        refine kT 1 ?_ ?_ ?_
        rotate_left
        · (intro w9 hSw; (try dsimp only at hSw); go_simp <;> with_reducible rfl)
        try simp only [Act.put, tA, tZ, tS]
        refine kT 2 ?_ ?_ ?_
        rotate_left
        · (intro w9 hSw; (try dsimp only at hSw); go_simp <;> with_reducible rfl)
        try simp only [Act.put, tA, tZ, tS]
        refine kT 3 ?_ ?_ ?_
        rotate_left
        · (intro w9 hSw; (try dsimp only at hSw); go_simp <;> with_reducible rfl)
        try simp only [Act.put, tA, tZ, tS]
        refine kT 4 ?_ ?_ ?_
        rotate_left
        · (intro w9 hSw; (try dsimp only at hSw); go_simp <;> with_reducible rfl)
        try simp only [Act.put, tA, tZ, tS]
        refine kT 5 ?_ ?_ ?_
        rotate_left
        · (intro w9 hSw; (try dsimp only at hSw); go_simp <;> with_reducible rfl)
        try simp only [Act.put, tA, tZ, tS]
        refine kT 6 ?_ ?_ ?_
        rotate_left
        · (intro w9 hSw; (try dsimp only at hSw); go_simp <;> with_reducible rfl)
        try simp only [Act.put, tA, tZ, tS]
        refine kT 7 ?_ ?_ ?_
        rotate_left
        · (intro w9 hSw; (try dsimp only at hSw); go_simp <;> with_reducible rfl)
        try simp only [Act.put, tA, tZ, tS]
        refine kT 8 ?_ ?_ ?_
        rotate_left
        · (intro w9 hSw; (try dsimp only at hSw); go_simp <;> with_reducible rfl)
        try simp only [Act.put, tA, tZ, tS]
        refine kU 9 ?_
        try simp only [Act.put, tA, tZ, tS]
        refine kU 10 ?_
        try simp only [Act.put, tA, tZ, tS]
        refine kU 11 ?_
        try simp only [Act.put, tA, tZ, tS]
        refine kU 12 ?_
        try simp only [Act.put, tA, tZ, tS]
        refine kU 13 ?_
        try simp only [Act.put, tA, tZ, tS]
        refine kU 14 ?_
        try simp only [Act.put, tA, tZ, tS]
        refine kU 15 ?_
        try simp only [Act.put, tA, tZ, tS]
        refine kT 16 ?_ ?_ ?_
        rotate_left
        · (intro w9 hSw; (try dsimp only at hSw); go_simp <;> with_reducible rfl)
        try simp only [Act.put, tA, tZ, tS]
        refine wpAnyH_done (by kernel_rfl) ?_ _
        have hbA : Below w1.heap.size w1 wr.drew := bel_drew hbw
        have HOa : Hid (OwnTb wr.drew (w1.heap.size + 1) u8 q.l) := hide (ownTb_bel (unhide HO) (bel_drew (Below.refl _ _)))
        have HA2 : Hid (wr.drew.heap[w1.heap.size]? = _) := hide (unhide HA)
        have HB2 : Hid (wr.drew.heap[w1.heap.size + 1 + 1]? = _) := hide (unhide HB)
        have d0 : wr.drew.cell? ⟨g, o + i * 7, none⟩ = _ := c0
        have d1 : wr.drew.cell? ⟨g, o + i * 7 + 1, none⟩ = _ := c1
        have d2 : wr.drew.cell? ⟨g, o + i * 7 + 2, none⟩ = _ := c2
        have d3 : wr.drew.cell? ⟨g, o + i * 7 + 3, none⟩ = _ := c3
        have d4 : wr.drew.cell? ⟨g, o + i * 7 + 4, none⟩ = _ := c4
        have d5 : wr.drew.cell? ⟨g, o + i * 7 + 5, none⟩ = _ := c5
        have d6 : wr.drew.cell? ⟨g, o + i * 7 + 6, none⟩ = _ := c6
        have zq : w1.heap.size + 1 + 1 < wr.drew.heap.size := zr
        have hgq : g < wr.drew.heap.size := hgr
        clear hHeld hS0 c0 c1 c2 c3 c4 c5 c6 HA HB HO hbw bR1 bW1 zr hgr
        generalize wr.drew = wq at *
        have hge := hide (fun b (hb : u8.ownBlock = some b) => (World.ownsRow.lt (unhide HOa) b hb).1)
        have hne := hide (own_ne_w (unhide HOa) (unhide HB2))
        go_wp2_with (at_builtin; go_loud (refine wpList_append_own _ rfl _ _ 26 rfl (w1.heap.size + 1) 53 i0 _ 7 56 Tryz.underlying26 hi hz0' hz1' hz2' rfl (by decide) u8 _ _ rfl (World.ownsRow.alloc (unhide HOa) _) ⟨wq.heap.size, 0, none⟩ 1 1 [.int .i64 ky, .int .i64 st, .int .i64 en, .int .i64 n, .int .i64 su, .int .i64 le, .int .i64 mo] rfl rfl (cells_newTb wq ky st en n su le mo _) (by simp [Value.oneCell']) (by unfold maxLen; omega) (by omega) (by simp; omega) ?_); intro v' w5 hown hgrow hnn)
        have hb5 : Below (w1.heap.size + 1) wq w5 := ((Below.refl _ wq).alloc (by omega) _).grown hgrow (by simp; omega) (unhide hge)
        have e5 : w5.heap[w1.heap.size + 1 + 1]? = wq.heap[w1.heap.size + 1 + 1]? := (hgrow.block _ (by simp; omega) (fun e9 => unhide hne e9.symm)).trans (Below.heap_alloc _ _ _ (by omega))
        have e6 := hb5.block w1.heap.size (by omega)
        have O5 := ownTb_snoc (x := ⟨ky, st, en, n, su, le, mo⟩) hown
        refine ⟨⟨i + 1, ⟨q.a, q.b, q.g, q.l ++ [⟨ky, st, en, n, su, le, mo⟩]⟩, by omega, by go_num, hide (by rw [unhide HS]; exact unhide HN), hide (e6.trans (unhide HA2)), hide (e5.trans (unhide HB2)), hide O5, hbA.trans (hb5.mono (by omega))⟩, ?_⟩
        simp [intOf]; omega
    · obtain rfl : len = i := by omega
      have HQf : Hid (sesAll x2 a b (na, nb, nc, nd) rows = q) := hide (by have h9 := unhide HQ; rw [List.take_of_length_le (by omega)] at h9; exact h9)
      have HRf : Hid (sesPut x2 a b (na, nb, nc, nd) rows = insR (sesRow x2 q) (kpTb x2 q.a q.b q.l)) := hide (by unfold sesPut; rw [unhide HQf])
      obtain ⟨ao, co, rfl, HT, _, _⟩ := holdTb (unhide HO) (by omega)
      have r0 := Joins.cell_of_block bR1 2
      have s0 := Joins.cell_of_block (unhide HB) 0
      have s1 := Joins.cell_of_block (unhide HB) 1
      have a0 := Joins.cell_of_block (unhide HA) 0
      have a1 := Joins.cell_of_block (unhide HA) 1
      have a2 := Joins.cell_of_block (unhide HA) 2
      have a3 := Joins.cell_of_block (unhide HA) 3
      simp only [gA, gZ, gS] at r0 s0 s1 a0 a1 a2 a3
      have hbF : Below w.heap.size w wr := bel_trans hbw1 hbw
      have HTh := hide HT
      clear HT HQ HQf HO HA HB bR1 bW1 hbw
      go_wp2_with fail
      refine (specput_any (sesRow x2 q) _ _ _ q.l _ (unhide HTh) (by omega)).mono ?_
      rintro e' w9 ⟨v9, rfl, hO9, hb9⟩
      go_wp2
      go_ret
      refine ⟨_, rfl, ?_, bel_trans hbF hb9⟩
      rw [unhide HRf]
      exact World.ownsRow.mono hO9 hbF.size
end Go.Proofs.YtikidpcgnmffcaaGreat
