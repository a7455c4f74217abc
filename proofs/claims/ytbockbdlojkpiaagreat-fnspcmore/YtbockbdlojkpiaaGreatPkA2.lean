/- Laid together: texts that were built one by one. -/
import Derived.Test.YtbockbdlojkpiaaGreatPkA1
import Derived.Test.YtbockbdlojkpiaaGreatBoth
import Derived.BigQuiet
import Derived.Deep.RegionHeld3
import Derived.Lib.SmallJoins
import Derived.RangeFuncRecord
import Derived.Test.YtbockbdlojkpiaaGreatPkA0
import Derived.Laws.CopyOwn
import Derived.Laws.CopyRow
import Derived.Laws.IdiomCopy
import Derived.Lib.AppendZerosOnto
import Derived.Lib.Overlaps
import Derived.Deep.RegionLaw
import Derived.Laws.NewBlocks
import Derived.Test.YtbockbdlojkpiaaGreatTabOutI
import Derived.OrdersHeld
import Derived.Test.YtbockbdlojkpiaaGreatGenA
/- Proved here: a record is put into sessions, in the specification: all that it touches become one. -/
namespace Go.Proofs.YtbockbdlojkpiaaGreat
open Go.ChangeShapes Go.WideShapes Go.ChangeAt Go.RowKit
set_option linter.unusedVariables false

set_option linter.unusedSimpArgs false
theorem ses6 {W W' : World} {g B p0 p1 p2 : Nat} {v0 v1 v2 v3 v4 v5 : Value} (h : (W.cell? ⟨g, p0, none⟩ = some v0 ∧ W.cell? ⟨g, p1, none⟩ = some v1 ∧ W.cell? ⟨g, p2, none⟩ = some v2 ∧ W.cell? ⟨B, 2, none⟩ = some v3 ∧ W.cell? ⟨B + 1, 0, none⟩ = some v4 ∧ W.cell? ⟨B + 1, 1, none⟩ = some v5) ∧ g < W.heap.size ∧ B + 1 < W.heap.size) (hb : Below W.heap.size W W') : (W'.cell? ⟨g, p0, none⟩ = some v0 ∧ W'.cell? ⟨g, p1, none⟩ = some v1 ∧ W'.cell? ⟨g, p2, none⟩ = some v2 ∧ W'.cell? ⟨B, 2, none⟩ = some v3 ∧ W'.cell? ⟨B + 1, 0, none⟩ = some v4 ∧ W'.cell? ⟨B + 1, 1, none⟩ = some v5) ∧ g < W'.heap.size ∧ B + 1 < W'.heap.size := by
  obtain ⟨⟨h0, h1, h2, h3, h4, h5⟩, z1, z2⟩ := h
  exact ⟨⟨(hb.cell (p := ⟨g, p0, none⟩) z1).trans h0, (hb.cell (p := ⟨g, p1, none⟩) z1).trans h1, (hb.cell (p := ⟨g, p2, none⟩) z1).trans h2, (hb.cell (p := ⟨B, 2, none⟩) (by simp; omega)).trans h3, (hb.cell (p := ⟨B + 1, 0, none⟩) z2).trans h4, (hb.cell (p := ⟨B + 1, 1, none⟩) z2).trans h5⟩, Nat.lt_of_lt_of_le z1 hb.size, Nat.lt_of_lt_of_le z2 hb.size⟩
theorem ownTb_bel {B : Nat} {W W' : World} {v : Value} {ys : List TbR} (h : OwnTb W B v ys) (hb : Below W.heap.size W W') : OwnTb W' B v ys := by
  rcases h with ⟨hl, h | ⟨g, cap, cur, rfl, hB, hblk, r⟩⟩
  · exact ⟨hl, Or.inl h⟩
  · exact ⟨hl, Or.inr ⟨g, cap, cur, rfl, hB, (hb.block g (Array.getElem?_eq_some_iff.1 hblk).1).trans hblk, r⟩⟩
theorem own_ne_w {B b : Nat} {W : World} {v : Value} {ys : List TbR} {cs : Array Value} (h : OwnTb W B v ys) (hb : W.heap[b]? = some (.cells cs 35 (0, 0))) : v.ownBlock ≠ some b := by
  rcases h.2 with ⟨rfl, _⟩ | ⟨g, cap, cur, rfl, _, hgb, _⟩
  · simp [Value.ownBlock]
  · intro e9
    simp [Value.ownBlock] at e9
    subst e9
    rw [hb] at hgb
    simp only [Option.some.injEq, Obj.cells.injEq] at hgb
    exact absurd hgb.2.1 (by decide)
theorem ownTb_set {B : Nat} {W : World} {p : Addr} {u v : Value} {ys : List TbR} (h : OwnTb W B v ys) (hp : v.ownBlock ≠ some p.block) : OwnTb (W.setCell p u) B v ys := by
  rcases h with ⟨hl, h | ⟨g, cap, cur, rfl, hB, hblk, r⟩⟩
  · exact ⟨hl, Or.inl h⟩
  · exact ⟨hl, Or.inr ⟨g, cap, cur, rfl, hB, (Below.heap_setCell _ _ _ _ (fun e => hp (by simp [Value.ownBlock, e]))).trans hblk, r⟩⟩
theorem spectouch_is {a b c d : Int} (w : World) {o : Bool} (h : Hid (touchB a b c d = o)) : Calls Tryz.prog 50 #[.agg #[.int .i64 a, .int .i64 b], .agg #[.int .i64 c, .int .i64 d]] w fun e w' => e = .returned (.bool o) ∧ Below w.heap.size w w' := by
  have h9 := spectouch_any a b c d w
  rw [unhide h] at h9
  exact h9
theorem specspan_is {a b c d x y : Int} (w : World) (h : Hid (loI a c = x ∧ hiI b d = y)) : Calls Tryz.prog 51 #[.agg #[.int .i64 a, .int .i64 b], .agg #[.int .i64 c, .int .i64 d]] w fun e w' => e = .returned (.agg #[.int .i64 x, .int .i64 y]) ∧ Below w.heap.size w w' := by
  have h9 := specspan_any a b c d w
  rw [(unhide h).1, (unhide h).2] at h9
  exact h9
theorem specadd_is {n s l m v x y u t : Int} (w : World) (h : Hid (addF (n, s, l, m) v = (x, y, u, t))) : Calls Tryz.prog 28 #[.agg #[.int .i64 n, .int .i64 s, .int .i64 l, .int .i64 m], .int .i64 v] w fun e w' => e = .returned (.agg #[.int .i64 x, .int .i64 y, .int .i64 u, .int .i64 t]) ∧ Below w.heap.size w w' := by
  have h9 := specadd_any n s l m v w
  have h8 := unhide h
  simp only [addF, Prod.mk.injEq] at h8
  obtain ⟨rfl, rfl, rfl, rfl⟩ := h8
  exact h9
theorem sesStep_yes {k a b : Int} {q : Ses} {r : TbR} (h1 : r.ky = k) (h2 : touchB r.st r.en a b = true) : sesStep k a b q r = ⟨loI q.a r.st, hiI q.b r.en, bothF q.g r.n r.su r.le r.mo, q.l⟩ := by unfold sesStep; rw [if_pos ⟨h1, h2⟩]
theorem sesStep_no {k a b : Int} {q : Ses} {r : TbR} (h : ¬ (r.ky = k ∧ touchB r.st r.en a b = true)) : sesStep k a b q r = ⟨q.a, q.b, q.g, q.l ++ [r]⟩ := by unfold sesStep; rw [if_neg h]
set_option maxRecDepth 20000 in
set_option maxHeartbeats 8000000 in
theorem specses_any (x0 x1 x2 x3 x4 a b : Int) (ar : Option Addr) (len cap : Nat) (rows : List TbR) (w : World) (h : TbRs w ar len rows) (hl : len ≤ 1000000) : Calls Tryz.prog 25 #[.slice ar len cap, .agg #[.int .i64 x0, .int .i64 x1, .int .i64 x2, .int .i64 x3, .int .i64 x4], .agg #[.int .i64 a, .int .i64 b]] w fun e w' => ∃ v, e = .returned v ∧ OwnTb w' w.heap.size v (sesPut x2 a b (addF ag0 x3) rows) ∧ Below w.heap.size w w' := by
  obtain ⟨i0, hi, hz0', hz1', hz2'⟩ := info_parts Tryz.infoTb
  have hlen := h.1
  have hm := h.2.1
  unfold maxLen at hm
  obtain ⟨na, nb, nc, nd, hg⟩ : ∃ na nb nc nd, addF ag0 x3 = (na, nb, nc, nd) := ⟨_, _, _, _, rfl⟩
  have HG := hide hg
  have HG0 : Hid (addF (0, 0, 0, 0) x3 = (na, nb, nc, nd)) := hide hg
  rw [hg]
  clear hg
  have hb0 : Below w.heap.size w ((w.alloc (.cells #[.int .i64 x0, .int .i64 x1, .int .i64 x2, .int .i64 x3, .int .i64 x4] 41)).alloc (.cells #[.int .i64 a, .int .i64 b] 35)) := bel_alloc (bel_one _ _) _
  go_enter Tryz.func25, Tryz.ntmps25
  go_wp2_with fail
  refine (specadd_is _ HG0).mono ?_
  rintro e' w1 ⟨rfl, hb1⟩
  have z1 : w.heap.size + 1 < w1.heap.size := by have := hb1.size; simp at this; omega
  have bR : w1.heap[w.heap.size]? = some (.cells #[.int .i64 x0, .int .i64 x1, .int .i64 x2, .int .i64 x3, .int .i64 x4] 41 (0, 0)) := (hb1.block w.heap.size (by simp; omega)).trans ((Below.heap_alloc _ _ _ (by simp)).trans (World.alloc_heap_new w _))
  have bW : w1.heap[w.heap.size + 1]? = some (.cells #[.int .i64 a, .int .i64 b] 35 (0, 0)) := (hb1.block (w.heap.size + 1) (by simp)).trans (by have h9 := World.alloc_heap_new (w.alloc (.cells #[.int .i64 x0, .int .i64 x1, .int .i64 x2, .int .i64 x3, .int .i64 x4] 41)) (.cells #[.int .i64 a, .int .i64 b] 35); rw [World.size_alloc] at h9; exact h9)
  have hbw1 : Below w.heap.size w w1 := bel_trans hb0 hb1
  have cW0 := Joins.cell_of_block bW 0
  have cW1 := Joins.cell_of_block bW 1
  simp only [List.getElem?_toArray, List.getElem?_cons_zero, List.getElem?_cons_succ] at cW0 cW1
  have zA : w.heap.size + 1 < w1.heap.size + 1 := by omega
  have zB : w.heap.size + 1 < w1.heap.size + 1 + 1 := by omega
  clear hb0 hb1 HG0
  go_wp2
  clear zA zB
  clear cW0 cW1
  go_loopw [8, 10] (fun lv iv wr => ∃ (i : Nat) (q : Ses), i ≤ len ∧ iv = .int .i64 i ∧ Hid (sesAll x2 a b (na, nb, nc, nd) (rows.take i) = q) ∧ Hid (wr.heap[w1.heap.size]? = some (.cells #[.int .i64 q.g.1, .int .i64 q.g.2.1, .int .i64 q.g.2.2.1, .int .i64 q.g.2.2.2] 37 (0, 0))) ∧ Hid (wr.heap[w1.heap.size + 1 + 1]? = some (.cells #[.int .i64 q.a, .int .i64 q.b] 35 (0, 0))) ∧ Hid (OwnTb wr (w1.heap.size + 1) lv q.l) ∧ Below w1.heap.size w1 wr) (fun _ iv _ => len - (intOf iv).toNat)
  case atStart =>
    refine ⟨0, ⟨a, b, (na, nb, nc, nd), []⟩, Nat.zero_le _, rfl, hide rfl, hide ?_, hide ?_, hide ?_, bel_alloc (bel_alloc (bel_one _ _) _) _⟩
    · rw [Below.heap_alloc _ _ _ (by simp; omega), Below.heap_alloc _ _ _ (by simp)]
      exact World.alloc_heap_new w1 _
    · have h9 := World.alloc_heap_new ((w1.alloc (.cells #[.int .i64 na, .int .i64 nb, .int .i64 nc, .int .i64 nd] 37)).alloc (.cells #[] 39)) (.cells #[.int .i64 a, .int .i64 b] 35)
      rw [World.size_alloc, World.size_alloc] at h9
      exact h9
    · refine World.ownsRow.alloc ?_ _
      have h9 := World.ownsRow_lit (base := w1.heap.size + 1) (size := 7) (e := 39) (w1.alloc (.cells #[.int .i64 na, .int .i64 nb, .int .i64 nc, .int .i64 nd] 37)) #[] 0 (by simp) (by decide) (by simp)
      rw [World.size_alloc] at h9
      exact h9
  case round =>
    obtain ⟨i, q, hil, rfl, HQ, HA, HB, HO, hbw⟩ := hrel
    have zr : w1.heap.size + 1 + 1 < wr.heap.size := (Array.getElem?_eq_some_iff.1 (unhide HB)).1
    have bR1 := (hbw.block w.heap.size (by omega)).trans bR
    have bW1 := (hbw.block (w.heap.size + 1) (by omega)).trans bW
    have hql : q.l.length ≤ i := by rw [← unhide HQ]; refine Nat.le_trans (sesAll_len _ _ _ _ _) ?_; rw [List.length_take]; omega
    by_cases hlt : i < len
    · obtain ⟨_, _, hy⟩ := h
      obtain ⟨g, o, rfl, hr⟩ := hy.resolve_left (by omega)
      obtain ⟨x, hxk⟩ : ∃ x, rows[i]? = some x := ⟨_, List.getElem?_eq_getElem (by omega)⟩
      have hgw : g < w.heap.size := hr.lt (by omega)
      obtain ⟨c0, c1, c2, c3, c4, c5, c6⟩ := (hr i _ hxk).below (bel_trans hbw1 hbw) hgw
      have HS := hide (sesAll_snoc (k := x2) (a := a) (b := b) (g := (na, nb, nc, nd)) hxk)
      rw [unhide HQ] at HS
      clear hr hy hxk
      obtain ⟨ky, st, en, n, su, le, mo⟩ := x
      dsimp only at c0 c1 c2 c3 c4 c5 c6
      have hS0 : (wr.drew.cell? ⟨g, o + i * 7, none⟩ = some (.int .i64 ky) ∧ wr.drew.cell? ⟨g, o + i * 7 + 1, none⟩ = some (.int .i64 st) ∧ wr.drew.cell? ⟨g, o + i * 7 + 2, none⟩ = some (.int .i64 en) ∧ wr.drew.cell? ⟨w.heap.size, 2, none⟩ = some (.int .i64 x2) ∧ wr.drew.cell? ⟨w.heap.size + 1, 0, none⟩ = some (.int .i64 a) ∧ wr.drew.cell? ⟨w.heap.size + 1, 1, none⟩ = some (.int .i64 b)) ∧ g < wr.drew.heap.size ∧ w.heap.size + 1 < wr.drew.heap.size := ⟨⟨c0, c1, c2, Joins.cell_of_block bR1 2, Joins.cell_of_block bW1 0, Joins.cell_of_block bW1 1⟩, by show g < wr.heap.size; omega, by show w.heap.size + 1 < wr.heap.size; omega⟩
      have hgr : g < wr.heap.size := by omega
      by_cases hk : ky = x2
      · have hk1 : (ky == x2) = true := by simp [hk]
        cases hT : touchB st en a b
        · have HTB := hide hT
          have HN := hide (sesStep_no (k := x2) (a := a) (b := b) (q := q) (r := ⟨ky, st, en, n, su, le, mo⟩) (fun h9 => by rw [show touchB st en a b = true from h9.2] at hT; cases hT))
          clear hk hT
          go_wp2_with fail
          refine wp_region_held_drew (S := (fun W => (W.cell? ⟨g, o + i * 7, none⟩ = some (.int .i64 ky) ∧ W.cell? ⟨g, o + i * 7 + 1, none⟩ = some (.int .i64 st) ∧ W.cell? ⟨g, o + i * 7 + 2, none⟩ = some (.int .i64 en) ∧ W.cell? ⟨w.heap.size, 2, none⟩ = some (.int .i64 x2) ∧ W.cell? ⟨w.heap.size + 1, 0, none⟩ = some (.int .i64 a) ∧ W.cell? ⟨w.heap.size + 1, 1, none⟩ = some (.int .i64 b)) ∧ g < W.heap.size ∧ w.heap.size + 1 < W.heap.size)) (by kernel_rfl) ?_ (fun hHeld => ?_)
          · (try dsimp only); first | (with_reducible assumption) | (exact ses6 (by with_reducible assumption) (by with_reducible assumption))
          refine wpAnyH_take (i := 0) (v := ?_) (by simp only [List.getElem?_toArray, List.getElem?_cons_zero, List.getElem?_cons_succ]; rfl) (by kernel_rfl) (by kernel_rfl) (by kernel_rfl) (by intro _ _ _ h; exact h) (Or.inl ⟨by rfl, ?_⟩) (by assumption) ?_
          rotate_left
          · (intro w9 hSw; (try dsimp only at hSw); go_simp <;> with_reducible rfl)
          try simp only [Act.put, List.setIfInBounds_toArray, List.set_cons_zero, List.set_cons_succ]
          refine wpAnyH_take (i := 1) (v := ?_) (by simp only [List.getElem?_toArray, List.getElem?_cons_zero, List.getElem?_cons_succ]; rfl) (by kernel_rfl) (by kernel_rfl) (by kernel_rfl) (by intro _ _ _ h; exact h) (Or.inl ⟨by rfl, ?_⟩) (by assumption) ?_
          rotate_left
          · (intro w9 hSw; (try dsimp only at hSw); go_simp <;> with_reducible rfl)
          try simp only [Act.put, List.setIfInBounds_toArray, List.set_cons_zero, List.set_cons_succ]
          refine wpAnyH_take (i := 2) (v := ?_) (by simp only [List.getElem?_toArray, List.getElem?_cons_zero, List.getElem?_cons_succ]; rfl) (by kernel_rfl) (by kernel_rfl) (by kernel_rfl) (by intro _ _ _ h; exact h) (Or.inl ⟨by rfl, ?_⟩) (by assumption) ?_
          rotate_left
          · (intro w9 hSw; (try dsimp only at hSw); go_simp <;> with_reducible rfl)
          try simp only [Act.put, List.setIfInBounds_toArray, List.set_cons_zero, List.set_cons_succ]
          refine wpAnyH_take (i := 3) (v := ?_) (by simp only [List.getElem?_toArray, List.getElem?_cons_zero, List.getElem?_cons_succ]; rfl) (by kernel_rfl) (by kernel_rfl) (by kernel_rfl) (by intro _ _ _ h; exact h) (Or.inl ⟨by rfl, ?_⟩) (by assumption) ?_
          rotate_left
          · (intro w9 hSw; (try dsimp only at hSw); go_simp <;> with_reducible rfl)
          try simp only [Act.put, List.setIfInBounds_toArray, List.set_cons_zero, List.set_cons_succ]
          refine wpAnyH_take (i := 4) (v := ?_) (by simp only [List.getElem?_toArray, List.getElem?_cons_zero, List.getElem?_cons_succ]; rfl) (by kernel_rfl) (by kernel_rfl) (by kernel_rfl) (by intro _ _ _ h; exact h) (Or.inl ⟨by rfl, ?_⟩) (by assumption) ?_
          rotate_left
          · (intro w9 hSw; (try dsimp only at hSw); go_simp <;> with_reducible rfl)
          try simp only [Act.put, List.setIfInBounds_toArray, List.set_cons_zero, List.set_cons_succ]
          refine wpAnyH_take (i := 5) (v := ?_) (by simp only [List.getElem?_toArray, List.getElem?_cons_zero, List.getElem?_cons_succ]; rfl) (by kernel_rfl) (by kernel_rfl) (by kernel_rfl) (by intro _ _ _ h; exact h) (Or.inl ⟨by rfl, ?_⟩) (by assumption) ?_
          rotate_left
          · (intro w9 hSw; (try dsimp only at hSw); go_simp <;> with_reducible rfl)
          try simp only [Act.put, List.setIfInBounds_toArray, List.set_cons_zero, List.set_cons_succ]
          refine wpAnyH_take (i := 6) (v := ?_) (by simp only [List.getElem?_toArray, List.getElem?_cons_zero, List.getElem?_cons_succ]; rfl) (by kernel_rfl) (by kernel_rfl) (by kernel_rfl) (by intro _ _ _ h; exact h) (Or.inl ⟨by rfl, ?_⟩) (by assumption) ?_
          rotate_left
          · (intro w9 hSw; (try dsimp only at hSw); go_simp <;> with_reducible rfl)
          try simp only [Act.put, List.setIfInBounds_toArray, List.set_cons_zero, List.set_cons_succ]
          refine wpAnyH_take (i := 7) (v := ?_) (by simp only [List.getElem?_toArray, List.getElem?_cons_zero, List.getElem?_cons_succ]; rfl) (by kernel_rfl) (by kernel_rfl) (by kernel_rfl) (by intro _ _ _ h; exact h) (Or.inl ⟨by rfl, ?_⟩) (by assumption) ?_
          rotate_left
          · (intro w9 hSw; (try dsimp only at hSw); go_simp <;> with_reducible rfl)
          try simp only [Act.put, List.setIfInBounds_toArray, List.set_cons_zero, List.set_cons_succ]
          refine wpAnyH_take (i := 8) (v := ?_) (by simp only [List.getElem?_toArray, List.getElem?_cons_zero, List.getElem?_cons_succ]; rfl) (by kernel_rfl) (by kernel_rfl) (by kernel_rfl) (by intro _ _ _ h; exact h) (Or.inl ⟨by rfl, ?_⟩) (by assumption) ?_
          rotate_left
          · (intro w9 hSw; (try dsimp only at hSw); go_simp <;> with_reducible rfl)
          try simp only [Act.put, List.setIfInBounds_toArray, List.set_cons_zero, List.set_cons_succ]
          refine wpAnyH_take (i := 9) (v := ?_) (by simp only [List.getElem?_toArray, List.getElem?_cons_zero, List.getElem?_cons_succ]; rfl) (by kernel_rfl) (by kernel_rfl) (by kernel_rfl) (by intro _ _ _ h; exact h) (Or.inl ⟨by rfl, ?_⟩) (by assumption) ?_
          rotate_left
          · (intro w9 hSw; (try dsimp only at hSw); go_simp <;> with_reducible rfl)
          try simp only [Act.put, List.setIfInBounds_toArray, List.set_cons_zero, List.set_cons_succ]
          refine wpAnyH_take (i := 10) (v := ?_) (by simp only [List.getElem?_toArray, List.getElem?_cons_zero, List.getElem?_cons_succ]; rfl) (by kernel_rfl) (by kernel_rfl) (by kernel_rfl) (by intro _ _ _ h; exact h) (Or.inl ⟨by rfl, ?_⟩) (by assumption) ?_
          rotate_left
          · (intro w9 hSw; (try dsimp only at hSw); go_simp <;> with_reducible rfl)
          try simp only [Act.put, List.setIfInBounds_toArray, List.set_cons_zero, List.set_cons_succ]
          refine wpAnyH_take (i := 11) (v := ?_) (by simp only [List.getElem?_toArray, List.getElem?_cons_zero, List.getElem?_cons_succ]; rfl) (by kernel_rfl) (by kernel_rfl) (by kernel_rfl) (by intro _ _ _ h; exact h) (Or.inl ⟨by rfl, ?_⟩) (by assumption) ?_
          rotate_left
          · (intro w9 hSw; (try dsimp only at hSw); go_simp <;> with_reducible rfl)
          try simp only [Act.put, List.setIfInBounds_toArray, List.set_cons_zero, List.set_cons_succ]
          refine wpAnyH_take (i := 12) (v := ?_) (by simp only [List.getElem?_toArray, List.getElem?_cons_zero, List.getElem?_cons_succ]; rfl) (by kernel_rfl) (by kernel_rfl) (by kernel_rfl) (by intro _ _ _ h; exact h) (Or.inl ⟨by rfl, ?_⟩) (by assumption) ?_
          rotate_left
          · (intro w9 hSw; (try dsimp only at hSw); go_simp <;> with_reducible rfl)
          try simp only [Act.put, List.setIfInBounds_toArray, List.set_cons_zero, List.set_cons_succ]
          refine wpAnyH_take (i := 13) (v := ?_) (by simp only [List.getElem?_toArray, List.getElem?_cons_zero, List.getElem?_cons_succ]; rfl) (by kernel_rfl) (by kernel_rfl) (by kernel_rfl) (by intro _ _ _ h; exact h) (Or.inl ⟨by rfl, ?_⟩) (by assumption) ?_
          rotate_left
          · (intro w9 hSw; (try dsimp only at hSw); go_simp <;> with_reducible rfl)
          try simp only [Act.put, List.setIfInBounds_toArray, List.set_cons_zero, List.set_cons_succ]
          refine wpAnyH_take (i := 14) (v := ?_) (by simp only [List.getElem?_toArray, List.getElem?_cons_zero, List.getElem?_cons_succ]; rfl) (by kernel_rfl) (by kernel_rfl) (by kernel_rfl) (by intro _ _ _ h; exact h) (Or.inl ⟨by rfl, ?_⟩) (by assumption) ?_
          rotate_left
          · (intro w9 hSw; (try dsimp only at hSw); go_simp <;> with_reducible rfl)
          try simp only [Act.put, List.setIfInBounds_toArray, List.set_cons_zero, List.set_cons_succ]
          refine wpAnyH_ready (rs := [15]) (by kernel_rfl) (by simp) ?_
          refine AllReadyH.cons (by simp only [List.getElem?_toArray, List.getElem?_cons_zero, List.getElem?_cons_succ]; rfl) (fun K hK => ?_) AllReadyH.nil
          go_simp
          (go_at_call 50; refine (spectouch_is _ HTB).mono ?_; rintro e' wa ⟨rfl, hba⟩; have hS1 := ses6 hS0 hba)
          (try go_wp2_with fail)
          refine hK.out _ _ ?_ (fun hHeld2 => ?_)
          · (try dsimp only); first | (with_reducible assumption) | (exact ses6 (by with_reducible assumption) (by with_reducible assumption))
          clear hK K hHeld
          have hHeld := hHeld2
          clear hHeld2
          try simp only [Act.put, List.setIfInBounds_toArray, List.set_cons_zero, List.set_cons_succ]
          refine wpAnyH_take (i := 16) (v := ?_) (by simp only [List.getElem?_toArray, List.getElem?_cons_zero, List.getElem?_cons_succ]; rfl) (by kernel_rfl) (by kernel_rfl) (by kernel_rfl) (by intro _ _ _ h; exact h) (Or.inl ⟨by rfl, ?_⟩) (by assumption) ?_
          rotate_left
          · (intro w9 hSw; (try dsimp only at hSw); go_simp <;> with_reducible rfl)
          try simp only [Act.put, List.setIfInBounds_toArray, List.set_cons_zero, List.set_cons_succ]
          refine wpAnyH_done (by kernel_rfl) ?_ _
          have hbA : Below w1.heap.size w1 wa := bel_trans (bel_drew hbw) hba
          have HOa := hide (ownTb_bel (unhide HO) (bel_trans (bel_drew (Below.refl _ _)) hba))
          have HA2 := hide ((hba.block w1.heap.size (by show _ < wr.heap.size; omega)).trans (unhide HA))
          have HB2 := hide ((hba.block (w1.heap.size + 1 + 1) zr).trans (unhide HB))
          have za := hba.size
          have zz : wr.heap.size ≤ wa.heap.size := za
          have d0 := (hba.cell (p := ⟨g, o + i * 7, none⟩) hgr).trans c0
          have d1 := (hba.cell (p := ⟨g, o + i * 7 + 1, none⟩) hgr).trans c1
          have d2 := (hba.cell (p := ⟨g, o + i * 7 + 2, none⟩) hgr).trans c2
          have d3 := (hba.cell (p := ⟨g, o + i * 7 + 3, none⟩) hgr).trans c3
          have d4 := (hba.cell (p := ⟨g, o + i * 7 + 4, none⟩) hgr).trans c4
          have d5 := (hba.cell (p := ⟨g, o + i * 7 + 5, none⟩) hgr).trans c5
          have d6 := (hba.cell (p := ⟨g, o + i * 7 + 6, none⟩) hgr).trans c6
          clear hHeld hS0 hS1 hba za c0 c1 c2 c3 c4 c5 c6
          have zq : w1.heap.size + 1 + 1 < wa.heap.size := by omega
          have hgq : g < wa.heap.size := by omega
          clear HA HB HO hbw bR1 bW1
          generalize wa = wq at *
          have hge := hide (fun b (hb : u8.ownBlock = some b) => (World.ownsRow.lt (unhide HOa) b hb).1)
          have hne := hide (own_ne_w (unhide HOa) (unhide HB2))
          go_wp2_with (at_builtin; go_loud (refine wpList_append_own _ rfl _ _ 28 rfl (w1.heap.size + 1) 39 i0 _ 7 56 Tryz.underlying28 hi hz0' hz1' hz2' rfl (by decide) u8 _ _ rfl (World.ownsRow.alloc (unhide HOa) _) ⟨wq.heap.size, 0, none⟩ 1 1 [.int .i64 ky, .int .i64 st, .int .i64 en, .int .i64 n, .int .i64 su, .int .i64 le, .int .i64 mo] rfl rfl (cells_newTb wq ky st en n su le mo _) (by simp [Value.oneCell']) (by unfold maxLen; omega) (by omega) (by simp; omega) ?_); intro v' w5 hown hgrow hnn)
          have hb5 : Below (w1.heap.size + 1) wq w5 := ((Below.refl _ wq).alloc (by omega) _).grown hgrow (by simp; omega) (unhide hge)
          have e5 : w5.heap[w1.heap.size + 1 + 1]? = wq.heap[w1.heap.size + 1 + 1]? := (hgrow.block _ (by simp; omega) (fun e9 => unhide hne e9.symm)).trans (Below.heap_alloc _ _ _ (by omega))
          have e6 := hb5.block w1.heap.size (by omega)
          have O5 := ownTb_snoc (x := ⟨ky, st, en, n, su, le, mo⟩) hown
          refine ⟨⟨i + 1, ⟨q.a, q.b, q.g, q.l ++ [⟨ky, st, en, n, su, le, mo⟩]⟩, by omega, by go_num, hide (by rw [unhide HS]; exact unhide HN), hide (e6.trans (unhide HA2)), hide (e5.trans (unhide HB2)), hide O5, hbA.trans (hb5.mono (by omega))⟩, ?_⟩
          simp [intOf]; omega
        · have HTB := hide hT
          have HN := hide (sesStep_yes (k := x2) (a := a) (b := b) (q := q) (r := ⟨ky, st, en, n, su, le, mo⟩) hk hT)
          clear hk hT
          go_wp2_with fail
          refine wp_region_held_drew (S := (fun W => (W.cell? ⟨g, o + i * 7, none⟩ = some (.int .i64 ky) ∧ W.cell? ⟨g, o + i * 7 + 1, none⟩ = some (.int .i64 st) ∧ W.cell? ⟨g, o + i * 7 + 2, none⟩ = some (.int .i64 en) ∧ W.cell? ⟨w.heap.size, 2, none⟩ = some (.int .i64 x2) ∧ W.cell? ⟨w.heap.size + 1, 0, none⟩ = some (.int .i64 a) ∧ W.cell? ⟨w.heap.size + 1, 1, none⟩ = some (.int .i64 b)) ∧ g < W.heap.size ∧ w.heap.size + 1 < W.heap.size)) (by kernel_rfl) ?_ (fun hHeld => ?_)
          · (try dsimp only); first | (with_reducible assumption) | (exact ses6 (by with_reducible assumption) (by with_reducible assumption))
          refine wpAnyH_take (i := 0) (v := ?_) (by simp only [List.getElem?_toArray, List.getElem?_cons_zero, List.getElem?_cons_succ]; rfl) (by kernel_rfl) (by kernel_rfl) (by kernel_rfl) (by intro _ _ _ h; exact h) (Or.inl ⟨by rfl, ?_⟩) (by assumption) ?_
          rotate_left
          · (intro w9 hSw; (try dsimp only at hSw); go_simp <;> with_reducible rfl)
          try simp only [Act.put, List.setIfInBounds_toArray, List.set_cons_zero, List.set_cons_succ]
          refine wpAnyH_take (i := 1) (v := ?_) (by simp only [List.getElem?_toArray, List.getElem?_cons_zero, List.getElem?_cons_succ]; rfl) (by kernel_rfl) (by kernel_rfl) (by kernel_rfl) (by intro _ _ _ h; exact h) (Or.inl ⟨by rfl, ?_⟩) (by assumption) ?_
          rotate_left
          · (intro w9 hSw; (try dsimp only at hSw); go_simp <;> with_reducible rfl)
          try simp only [Act.put, List.setIfInBounds_toArray, List.set_cons_zero, List.set_cons_succ]
          refine wpAnyH_take (i := 2) (v := ?_) (by simp only [List.getElem?_toArray, List.getElem?_cons_zero, List.getElem?_cons_succ]; rfl) (by kernel_rfl) (by kernel_rfl) (by kernel_rfl) (by intro _ _ _ h; exact h) (Or.inl ⟨by rfl, ?_⟩) (by assumption) ?_
          rotate_left
          · (intro w9 hSw; (try dsimp only at hSw); go_simp <;> with_reducible rfl)
          try simp only [Act.put, List.setIfInBounds_toArray, List.set_cons_zero, List.set_cons_succ]
          refine wpAnyH_take (i := 3) (v := ?_) (by simp only [List.getElem?_toArray, List.getElem?_cons_zero, List.getElem?_cons_succ]; rfl) (by kernel_rfl) (by kernel_rfl) (by kernel_rfl) (by intro _ _ _ h; exact h) (Or.inl ⟨by rfl, ?_⟩) (by assumption) ?_
          rotate_left
          · (intro w9 hSw; (try dsimp only at hSw); go_simp <;> with_reducible rfl)
          try simp only [Act.put, List.setIfInBounds_toArray, List.set_cons_zero, List.set_cons_succ]
          refine wpAnyH_take (i := 4) (v := ?_) (by simp only [List.getElem?_toArray, List.getElem?_cons_zero, List.getElem?_cons_succ]; rfl) (by kernel_rfl) (by kernel_rfl) (by kernel_rfl) (by intro _ _ _ h; exact h) (Or.inl ⟨by rfl, ?_⟩) (by assumption) ?_
          rotate_left
          · (intro w9 hSw; (try dsimp only at hSw); go_simp <;> with_reducible rfl)
          try simp only [Act.put, List.setIfInBounds_toArray, List.set_cons_zero, List.set_cons_succ]
          refine wpAnyH_take (i := 5) (v := ?_) (by simp only [List.getElem?_toArray, List.getElem?_cons_zero, List.getElem?_cons_succ]; rfl) (by kernel_rfl) (by kernel_rfl) (by kernel_rfl) (by intro _ _ _ h; exact h) (Or.inl ⟨by rfl, ?_⟩) (by assumption) ?_
          rotate_left
          · (intro w9 hSw; (try dsimp only at hSw); go_simp <;> with_reducible rfl)
          try simp only [Act.put, List.setIfInBounds_toArray, List.set_cons_zero, List.set_cons_succ]
          refine wpAnyH_take (i := 6) (v := ?_) (by simp only [List.getElem?_toArray, List.getElem?_cons_zero, List.getElem?_cons_succ]; rfl) (by kernel_rfl) (by kernel_rfl) (by kernel_rfl) (by intro _ _ _ h; exact h) (Or.inl ⟨by rfl, ?_⟩) (by assumption) ?_
          rotate_left
          · (intro w9 hSw; (try dsimp only at hSw); go_simp <;> with_reducible rfl)
          try simp only [Act.put, List.setIfInBounds_toArray, List.set_cons_zero, List.set_cons_succ]
          refine wpAnyH_take (i := 7) (v := ?_) (by simp only [List.getElem?_toArray, List.getElem?_cons_zero, List.getElem?_cons_succ]; rfl) (by kernel_rfl) (by kernel_rfl) (by kernel_rfl) (by intro _ _ _ h; exact h) (Or.inl ⟨by rfl, ?_⟩) (by assumption) ?_
          rotate_left
          · (intro w9 hSw; (try dsimp only at hSw); go_simp <;> with_reducible rfl)
          try simp only [Act.put, List.setIfInBounds_toArray, List.set_cons_zero, List.set_cons_succ]
          refine wpAnyH_take (i := 8) (v := ?_) (by simp only [List.getElem?_toArray, List.getElem?_cons_zero, List.getElem?_cons_succ]; rfl) (by kernel_rfl) (by kernel_rfl) (by kernel_rfl) (by intro _ _ _ h; exact h) (Or.inl ⟨by rfl, ?_⟩) (by assumption) ?_
          rotate_left
          · (intro w9 hSw; (try dsimp only at hSw); go_simp <;> with_reducible rfl)
          try simp only [Act.put, List.setIfInBounds_toArray, List.set_cons_zero, List.set_cons_succ]
          refine wpAnyH_take (i := 9) (v := ?_) (by simp only [List.getElem?_toArray, List.getElem?_cons_zero, List.getElem?_cons_succ]; rfl) (by kernel_rfl) (by kernel_rfl) (by kernel_rfl) (by intro _ _ _ h; exact h) (Or.inl ⟨by rfl, ?_⟩) (by assumption) ?_
          rotate_left
          · (intro w9 hSw; (try dsimp only at hSw); go_simp <;> with_reducible rfl)
          try simp only [Act.put, List.setIfInBounds_toArray, List.set_cons_zero, List.set_cons_succ]
          refine wpAnyH_take (i := 10) (v := ?_) (by simp only [List.getElem?_toArray, List.getElem?_cons_zero, List.getElem?_cons_succ]; rfl) (by kernel_rfl) (by kernel_rfl) (by kernel_rfl) (by intro _ _ _ h; exact h) (Or.inl ⟨by rfl, ?_⟩) (by assumption) ?_
          rotate_left
          · (intro w9 hSw; (try dsimp only at hSw); go_simp <;> with_reducible rfl)
          try simp only [Act.put, List.setIfInBounds_toArray, List.set_cons_zero, List.set_cons_succ]
          refine wpAnyH_take (i := 11) (v := ?_) (by simp only [List.getElem?_toArray, List.getElem?_cons_zero, List.getElem?_cons_succ]; rfl) (by kernel_rfl) (by kernel_rfl) (by kernel_rfl) (by intro _ _ _ h; exact h) (Or.inl ⟨by rfl, ?_⟩) (by assumption) ?_
          rotate_left
          · (intro w9 hSw; (try dsimp only at hSw); go_simp <;> with_reducible rfl)
          try simp only [Act.put, List.setIfInBounds_toArray, List.set_cons_zero, List.set_cons_succ]
          refine wpAnyH_take (i := 12) (v := ?_) (by simp only [List.getElem?_toArray, List.getElem?_cons_zero, List.getElem?_cons_succ]; rfl) (by kernel_rfl) (by kernel_rfl) (by kernel_rfl) (by intro _ _ _ h; exact h) (Or.inl ⟨by rfl, ?_⟩) (by assumption) ?_
          rotate_left
          · (intro w9 hSw; (try dsimp only at hSw); go_simp <;> with_reducible rfl)
          try simp only [Act.put, List.setIfInBounds_toArray, List.set_cons_zero, List.set_cons_succ]
          refine wpAnyH_take (i := 13) (v := ?_) (by simp only [List.getElem?_toArray, List.getElem?_cons_zero, List.getElem?_cons_succ]; rfl) (by kernel_rfl) (by kernel_rfl) (by kernel_rfl) (by intro _ _ _ h; exact h) (Or.inl ⟨by rfl, ?_⟩) (by assumption) ?_
          rotate_left
          · (intro w9 hSw; (try dsimp only at hSw); go_simp <;> with_reducible rfl)
          try simp only [Act.put, List.setIfInBounds_toArray, List.set_cons_zero, List.set_cons_succ]
          refine wpAnyH_take (i := 14) (v := ?_) (by simp only [List.getElem?_toArray, List.getElem?_cons_zero, List.getElem?_cons_succ]; rfl) (by kernel_rfl) (by kernel_rfl) (by kernel_rfl) (by intro _ _ _ h; exact h) (Or.inl ⟨by rfl, ?_⟩) (by assumption) ?_
          rotate_left
          · (intro w9 hSw; (try dsimp only at hSw); go_simp <;> with_reducible rfl)
          try simp only [Act.put, List.setIfInBounds_toArray, List.set_cons_zero, List.set_cons_succ]
          refine wpAnyH_ready (rs := [15]) (by kernel_rfl) (by simp) ?_
          refine AllReadyH.cons (by simp only [List.getElem?_toArray, List.getElem?_cons_zero, List.getElem?_cons_succ]; rfl) (fun K hK => ?_) AllReadyH.nil
          go_simp
          (go_at_call 50; refine (spectouch_is _ HTB).mono ?_; rintro e' wa ⟨rfl, hba⟩; have hS1 := ses6 hS0 hba)
          (try go_wp2_with fail)
          refine hK.out _ _ ?_ (fun hHeld2 => ?_)
          · (try dsimp only); first | (with_reducible assumption) | (exact ses6 (by with_reducible assumption) (by with_reducible assumption))
          clear hK K hHeld
          have hHeld := hHeld2
          clear hHeld2
          try simp only [Act.put, List.setIfInBounds_toArray, List.set_cons_zero, List.set_cons_succ]
          refine wpAnyH_take (i := 16) (v := ?_) (by simp only [List.getElem?_toArray, List.getElem?_cons_zero, List.getElem?_cons_succ]; rfl) (by kernel_rfl) (by kernel_rfl) (by kernel_rfl) (by intro _ _ _ h; exact h) (Or.inl ⟨by rfl, ?_⟩) (by assumption) ?_
          rotate_left
          · (intro w9 hSw; (try dsimp only at hSw); go_simp <;> with_reducible rfl)
          try simp only [Act.put, List.setIfInBounds_toArray, List.set_cons_zero, List.set_cons_succ]
          refine wpAnyH_done (by kernel_rfl) ?_ _
          have hbA : Below w1.heap.size w1 wa := bel_trans (bel_drew hbw) hba
          have HOa := hide (ownTb_bel (unhide HO) (bel_trans (bel_drew (Below.refl _ _)) hba))
          have HA2 := hide ((hba.block w1.heap.size (by show _ < wr.heap.size; omega)).trans (unhide HA))
          have HB2 := hide ((hba.block (w1.heap.size + 1 + 1) zr).trans (unhide HB))
          have za := hba.size
          have zz : wr.heap.size ≤ wa.heap.size := za
          have d0 := (hba.cell (p := ⟨g, o + i * 7, none⟩) hgr).trans c0
          have d1 := (hba.cell (p := ⟨g, o + i * 7 + 1, none⟩) hgr).trans c1
          have d2 := (hba.cell (p := ⟨g, o + i * 7 + 2, none⟩) hgr).trans c2
          have d3 := (hba.cell (p := ⟨g, o + i * 7 + 3, none⟩) hgr).trans c3
          have d4 := (hba.cell (p := ⟨g, o + i * 7 + 4, none⟩) hgr).trans c4
          have d5 := (hba.cell (p := ⟨g, o + i * 7 + 5, none⟩) hgr).trans c5
          have d6 := (hba.cell (p := ⟨g, o + i * 7 + 6, none⟩) hgr).trans c6
          clear hHeld hS0 hS1 hba za c0 c1 c2 c3 c4 c5 c6
          have zq : w1.heap.size + 1 + 1 < wa.heap.size := by omega
          have hgq : g < wa.heap.size := by omega
          clear HA HB HO hbw bR1 bW1
          generalize wa = wq at *
          obtain ⟨xa, xb, hsp⟩ : ∃ xa xb, loI q.a st = xa ∧ hiI q.b en = xb := ⟨_, _, rfl, rfl⟩
          obtain ⟨ya, yb, yc, yd, hbo⟩ : ∃ ya yb yc yd, bothF (q.g.1, q.g.2.1, q.g.2.2.1, q.g.2.2.2) n su le mo = (ya, yb, yc, yd) := ⟨_, _, _, _, rfl⟩
          have HSP := hide hsp
          have HBO := hide hbo
          have HQ2 : Hid (sesStep x2 a b q ⟨ky, st, en, n, su, le, mo⟩ = ⟨xa, xb, (ya, yb, yc, yd), q.l⟩) := hide (by rw [unhide HN]; show (⟨loI q.a st, hiI q.b en, bothF q.g n su le mo, q.l⟩ : Ses) = _; rw [hsp.1, hsp.2]; congr 1)
          clear hsp hbo HN
          have s0 := Joins.cell_of_block (unhide HB2) 0
          have s1 := Joins.cell_of_block (unhide HB2) 1
          have f0 : ∀ j, wq.frozen? ⟨w1.heap.size + 1 + 1, j, none⟩ = false := fun j => by simp [World.frozen?, unhide HB2]
          have f00 := f0 0
          have f01 := f0 1
          simp only [List.getElem?_toArray, List.getElem?_cons_zero, List.getElem?_cons_succ] at s0 s1
          clear f0
          go_wp2_with fail
          go_region_with (go_at_call 51; refine (specspan_is _ HSP).mono ?_; rintro e' wb ⟨rfl, hbb⟩; obtain ⟨b0, b1, b2⟩ := bcell hbb; have k0 := (b0 _ 0 (show w1.heap.size + 1 + 1 < wq.drew.heap.size from zq)).trans s0; have k1 := (b0 _ 1 (show w1.heap.size + 1 + 1 < wq.drew.heap.size from zq)).trans s1; have k2 := (b1 _ 0 (show w1.heap.size + 1 + 1 < wq.drew.heap.size from zq)).trans f00; have k3 := (b1 _ 1 (show w1.heap.size + 1 + 1 < wq.drew.heap.size from zq)).trans f01; clear b0 b1 b2)
          all_goals
            have zb := hbb.size
            have zb1 : wq.heap.size ≤ wb.heap.size := zb
            have HB3 : Hid (((wb.setCell ⟨w1.heap.size + 1 + 1, 0, none⟩ (.int .i64 xa)).setCell ⟨w1.heap.size + 1 + 1, 1, none⟩ (.int .i64 xb)).heap[w1.heap.size + 1 + 1]? = some (.cells #[.int .i64 xa, .int .i64 xb] 35 (0, 0))) := hide (Joins.block_setCell (Joins.block_setCell ((hbb.block (w1.heap.size + 1 + 1) zq).trans (unhide HB2)) _) _)
            have hbS : Below (w1.heap.size + 1) wq ((wb.setCell ⟨w1.heap.size + 1 + 1, 0, none⟩ (.int .i64 xa)).setCell ⟨w1.heap.size + 1 + 1, 1, none⟩ (.int .i64 xb)) := (((((Below.refl _ wq).drew).trans (hbb.mono (by show _ ≤ wq.heap.size; omega))).setCell (by simp) _).setCell (by simp) _)
            have HOs : Hid (OwnTb ((wb.setCell ⟨w1.heap.size + 1 + 1, 0, none⟩ (.int .i64 xa)).setCell ⟨w1.heap.size + 1 + 1, 1, none⟩ (.int .i64 xb)) (w1.heap.size + 1) u8 q.l) := hide (ownTb_set (ownTb_set (ownTb_bel (unhide HOa) (bel_trans (bel_drew (Below.refl _ _)) hbb)) (own_ne_w (unhide HOa) (unhide HB2))) (own_ne_w (unhide HOa) (unhide HB2)))
            have zs : ((wb.setCell ⟨w1.heap.size + 1 + 1, 0, none⟩ (.int .i64 xa)).setCell ⟨w1.heap.size + 1 + 1, 1, none⟩ (.int .i64 xb)).heap.size = wb.heap.size := by simp [World.setCell]
            have HA3 := hide ((hbS.block w1.heap.size (by omega)).trans (unhide HA2))
            have hbA3 : Below w1.heap.size w1 ((wb.setCell ⟨w1.heap.size + 1 + 1, 0, none⟩ (.int .i64 xa)).setCell ⟨w1.heap.size + 1 + 1, 1, none⟩ (.int .i64 xb)) := hbA.trans (hbS.mono (by omega))
            have e0 := (hbS.cell (p := ⟨g, o + i * 7, none⟩) (by simp; omega)).trans d0
            have e3 := (hbS.cell (p := ⟨g, o + i * 7 + 3, none⟩) (by simp; omega)).trans d3
            have e4 := (hbS.cell (p := ⟨g, o + i * 7 + 4, none⟩) (by simp; omega)).trans d4
            have e5 := (hbS.cell (p := ⟨g, o + i * 7 + 5, none⟩) (by simp; omega)).trans d5
            have e6 := (hbS.cell (p := ⟨g, o + i * 7 + 6, none⟩) (by simp; omega)).trans d6
            clear hbb hbS hbA HA2 HB2 HOa d0 d1 d2 d3 d4 d5 d6 s0 s1 f00 f01 k0 k1 k2 k3 zb
            generalize ((wb.setCell ⟨w1.heap.size + 1 + 1, 0, none⟩ (.int .i64 xa)).setCell ⟨w1.heap.size + 1 + 1, 1, none⟩ (.int .i64 xb)) = wc at *
            have zc : w1.heap.size + 1 + 1 < wc.heap.size := by omega
            have hgc : g < wc.heap.size := by omega
            have a0 := Joins.cell_of_block (unhide HA3) 0
            have a1 := Joins.cell_of_block (unhide HA3) 1
            have a2 := Joins.cell_of_block (unhide HA3) 2
            have a3 := Joins.cell_of_block (unhide HA3) 3
            have f0 : ∀ j, wc.frozen? ⟨w1.heap.size, j, none⟩ = false := fun j => by simp [World.frozen?, unhide HA3]
            have f00 := f0 0
            have f01 := f0 1
            have f02 := f0 2
            have f03 := f0 3
            simp only [List.getElem?_toArray, List.getElem?_cons_zero, List.getElem?_cons_succ] at a0 a1 a2 a3
            clear f0 zs zb1 zz zr hgr
            go_wp2_with fail
            go_region_with (go_at_call 52; refine (specboth_at _ HBO).mono ?_; rintro e' wd ⟨rfl, hbd⟩; obtain ⟨b0, b1, b2⟩ := bcell hbd; have k0 := (b0 _ 0 (show w1.heap.size < wc.drew.heap.size from (by show w1.heap.size < wc.heap.size; omega))).trans a0; have k1 := (b0 _ 1 (show w1.heap.size < wc.drew.heap.size from (by show w1.heap.size < wc.heap.size; omega))).trans a1; have k2 := (b0 _ 2 (show w1.heap.size < wc.drew.heap.size from (by show w1.heap.size < wc.heap.size; omega))).trans a2; have k3 := (b0 _ 3 (show w1.heap.size < wc.drew.heap.size from (by show w1.heap.size < wc.heap.size; omega))).trans a3; have m0 := (b1 _ 0 (show w1.heap.size < wc.drew.heap.size from (by show w1.heap.size < wc.heap.size; omega))).trans f00; have m1 := (b1 _ 1 (show w1.heap.size < wc.drew.heap.size from (by show w1.heap.size < wc.heap.size; omega))).trans f01; have m2 := (b1 _ 2 (show w1.heap.size < wc.drew.heap.size from (by show w1.heap.size < wc.heap.size; omega))).trans f02; have m3 := (b1 _ 3 (show w1.heap.size < wc.drew.heap.size from (by show w1.heap.size < wc.heap.size; omega))).trans f03; clear b0 b1 b2)
            all_goals
              have hA4 : wd.heap[w1.heap.size]? = _ := (hbd.block w1.heap.size (by show _ < wc.heap.size; omega)).trans (unhide HA3)
              have hB4 : wd.heap[w1.heap.size + 1 + 1]? = _ := (hbd.block (w1.heap.size + 1 + 1) zc).trans (unhide HB3)
              have hO4 := ownTb_bel (unhide HOs) (bel_trans (bel_drew (Below.refl _ _)) hbd)
              have hbA4 : Below w1.heap.size w1 wd := bel_trans (bel_drew hbA3) hbd
              have hnb : u8.ownBlock ≠ some w1.heap.size := fun e9 => by have := (World.ownsRow.lt (unhide HOs) _ e9).1; omega
              have hA5 : Hid (((((wd.setCell ⟨w1.heap.size, 0, none⟩ (.int .i64 ya)).setCell ⟨w1.heap.size, 1, none⟩ (.int .i64 yb)).setCell ⟨w1.heap.size, 2, none⟩ (.int .i64 yc)).setCell ⟨w1.heap.size, 3, none⟩ (.int .i64 yd)).heap[w1.heap.size]? = some (.cells #[.int .i64 ya, .int .i64 yb, .int .i64 yc, .int .i64 yd] 37 (0, 0))) := hide (Joins.block_setCell (Joins.block_setCell (Joins.block_setCell (Joins.block_setCell hA4 _) _) _) _)
              have hB5 : Hid (((((wd.setCell ⟨w1.heap.size, 0, none⟩ (.int .i64 ya)).setCell ⟨w1.heap.size, 1, none⟩ (.int .i64 yb)).setCell ⟨w1.heap.size, 2, none⟩ (.int .i64 yc)).setCell ⟨w1.heap.size, 3, none⟩ (.int .i64 yd)).heap[w1.heap.size + 1 + 1]? = some (.cells #[.int .i64 xa, .int .i64 xb] 35 (0, 0))) := hide ((Below.heap_setCell _ _ _ _ (by simp; omega)).trans ((Below.heap_setCell _ _ _ _ (by simp; omega)).trans ((Below.heap_setCell _ _ _ _ (by simp; omega)).trans ((Below.heap_setCell _ _ _ _ (by simp; omega)).trans hB4))))
              have hO5 : Hid (OwnTb ((((wd.setCell ⟨w1.heap.size, 0, none⟩ (.int .i64 ya)).setCell ⟨w1.heap.size, 1, none⟩ (.int .i64 yb)).setCell ⟨w1.heap.size, 2, none⟩ (.int .i64 yc)).setCell ⟨w1.heap.size, 3, none⟩ (.int .i64 yd)) (w1.heap.size + 1) u8 q.l) := hide (ownTb_set (ownTb_set (ownTb_set (ownTb_set hO4 hnb) hnb) hnb) hnb)
              have hF5 : Below w1.heap.size w1 ((((wd.setCell ⟨w1.heap.size, 0, none⟩ (.int .i64 ya)).setCell ⟨w1.heap.size, 1, none⟩ (.int .i64 yb)).setCell ⟨w1.heap.size, 2, none⟩ (.int .i64 yc)).setCell ⟨w1.heap.size, 3, none⟩ (.int .i64 yd)) := bel_set (bel_set (bel_set (bel_set hbA4 (by simp) _) (by simp) _) (by simp) _) (by simp) _
              clear hbd hbA3 hbA4 hA4 hB4 hO4 HA3 HB3 HOs a0 a1 a2 a3 f00 f01 f02 f03 k0 k1 k2 k3 m0 m1 m2 m3
              generalize ((((wd.setCell ⟨w1.heap.size, 0, none⟩ (.int .i64 ya)).setCell ⟨w1.heap.size, 1, none⟩ (.int .i64 yb)).setCell ⟨w1.heap.size, 2, none⟩ (.int .i64 yc)).setCell ⟨w1.heap.size, 3, none⟩ (.int .i64 yd)) = we at *
              go_wp2
              refine ⟨⟨i + 1, ⟨xa, xb, (ya, yb, yc, yd), q.l⟩, by omega, by go_num, hide (by rw [unhide HS]; exact unhide HQ2), hA5, hB5, hO5, hF5⟩, ?_⟩
              simp [intOf]; omega
      · have hk1 : (ky == x2) = false := by simp [hk]
        have HN := hide (sesStep_no (k := x2) (a := a) (b := b) (q := q) (r := ⟨ky, st, en, n, su, le, mo⟩) (fun h9 => hk h9.1))
        clear hk
        go_wp2_with fail
        refine wp_region_held_drew (S := (fun W => (W.cell? ⟨g, o + i * 7, none⟩ = some (.int .i64 ky) ∧ W.cell? ⟨g, o + i * 7 + 1, none⟩ = some (.int .i64 st) ∧ W.cell? ⟨g, o + i * 7 + 2, none⟩ = some (.int .i64 en) ∧ W.cell? ⟨w.heap.size, 2, none⟩ = some (.int .i64 x2) ∧ W.cell? ⟨w.heap.size + 1, 0, none⟩ = some (.int .i64 a) ∧ W.cell? ⟨w.heap.size + 1, 1, none⟩ = some (.int .i64 b)) ∧ g < W.heap.size ∧ w.heap.size + 1 < W.heap.size)) (by kernel_rfl) ?_ (fun hHeld => ?_)
        · (try dsimp only); first | (with_reducible assumption) | (exact ses6 (by with_reducible assumption) (by with_reducible assumption))
        refine wpAnyH_take (i := 0) (v := ?_) (by simp only [List.getElem?_toArray, List.getElem?_cons_zero, List.getElem?_cons_succ]; rfl) (by kernel_rfl) (by kernel_rfl) (by kernel_rfl) (by intro _ _ _ h; exact h) (Or.inl ⟨by rfl, ?_⟩) (by assumption) ?_
        rotate_left
        · (intro w9 hSw; (try dsimp only at hSw); go_simp <;> with_reducible rfl)
        try simp only [Act.put, List.setIfInBounds_toArray, List.set_cons_zero, List.set_cons_succ]
        refine wpAnyH_take (i := 1) (v := ?_) (by simp only [List.getElem?_toArray, List.getElem?_cons_zero, List.getElem?_cons_succ]; rfl) (by kernel_rfl) (by kernel_rfl) (by kernel_rfl) (by intro _ _ _ h; exact h) (Or.inl ⟨by rfl, ?_⟩) (by assumption) ?_
        rotate_left
        · (intro w9 hSw; (try dsimp only at hSw); go_simp <;> with_reducible rfl)
        try simp only [Act.put, List.setIfInBounds_toArray, List.set_cons_zero, List.set_cons_succ]
        refine wpAnyH_take (i := 2) (v := ?_) (by simp only [List.getElem?_toArray, List.getElem?_cons_zero, List.getElem?_cons_succ]; rfl) (by kernel_rfl) (by kernel_rfl) (by kernel_rfl) (by intro _ _ _ h; exact h) (Or.inl ⟨by rfl, ?_⟩) (by assumption) ?_
        rotate_left
        · (intro w9 hSw; (try dsimp only at hSw); go_simp <;> with_reducible rfl)
        try simp only [Act.put, List.setIfInBounds_toArray, List.set_cons_zero, List.set_cons_succ]
        refine wpAnyH_take (i := 3) (v := ?_) (by simp only [List.getElem?_toArray, List.getElem?_cons_zero, List.getElem?_cons_succ]; rfl) (by kernel_rfl) (by kernel_rfl) (by kernel_rfl) (by intro _ _ _ h; exact h) (Or.inl ⟨by rfl, ?_⟩) (by assumption) ?_
        rotate_left
        · (intro w9 hSw; (try dsimp only at hSw); go_simp <;> with_reducible rfl)
        try simp only [Act.put, List.setIfInBounds_toArray, List.set_cons_zero, List.set_cons_succ]
        refine wpAnyH_take (i := 4) (v := ?_) (by simp only [List.getElem?_toArray, List.getElem?_cons_zero, List.getElem?_cons_succ]; rfl) (by kernel_rfl) (by kernel_rfl) (by kernel_rfl) (by intro _ _ _ h; exact h) (Or.inl ⟨by rfl, ?_⟩) (by assumption) ?_
        rotate_left
        · (intro w9 hSw; (try dsimp only at hSw); go_simp <;> with_reducible rfl)
        try simp only [Act.put, List.setIfInBounds_toArray, List.set_cons_zero, List.set_cons_succ]
        refine wpAnyH_take (i := 5) (v := ?_) (by simp only [List.getElem?_toArray, List.getElem?_cons_zero, List.getElem?_cons_succ]; rfl) (by kernel_rfl) (by kernel_rfl) (by kernel_rfl) (by intro _ _ _ h; exact h) (Or.inl ⟨by rfl, ?_⟩) (by assumption) ?_
        rotate_left
        · (intro w9 hSw; (try dsimp only at hSw); go_simp <;> with_reducible rfl)
        try simp only [Act.put, List.setIfInBounds_toArray, List.set_cons_zero, List.set_cons_succ]
        refine wpAnyH_take (i := 6) (v := ?_) (by simp only [List.getElem?_toArray, List.getElem?_cons_zero, List.getElem?_cons_succ]; rfl) (by kernel_rfl) (by kernel_rfl) (by kernel_rfl) (by intro _ _ _ h; exact h) (Or.inl ⟨by rfl, ?_⟩) (by assumption) ?_
        rotate_left
        · (intro w9 hSw; (try dsimp only at hSw); go_simp <;> with_reducible rfl)
        try simp only [Act.put, List.setIfInBounds_toArray, List.set_cons_zero, List.set_cons_succ]
        refine wpAnyH_take (i := 7) (v := ?_) (by simp only [List.getElem?_toArray, List.getElem?_cons_zero, List.getElem?_cons_succ]; rfl) (by kernel_rfl) (by kernel_rfl) (by kernel_rfl) (by intro _ _ _ h; exact h) (Or.inl ⟨by rfl, ?_⟩) (by assumption) ?_
        rotate_left
        · (intro w9 hSw; (try dsimp only at hSw); go_simp <;> with_reducible rfl)
        try simp only [Act.put, List.setIfInBounds_toArray, List.set_cons_zero, List.set_cons_succ]
        refine wpAnyH_take (i := 8) (v := ?_) (by simp only [List.getElem?_toArray, List.getElem?_cons_zero, List.getElem?_cons_succ]; rfl) (by kernel_rfl) (by kernel_rfl) (by kernel_rfl) (by intro _ _ _ h; exact h) (Or.inl ⟨by rfl, ?_⟩) (by assumption) ?_
        rotate_left
        · (intro w9 hSw; (try dsimp only at hSw); go_simp <;> with_reducible rfl)
        try simp only [Act.put, List.setIfInBounds_toArray, List.set_cons_zero, List.set_cons_succ]
        refine wpAnyH_take (i := 9) (v := undef) (by simp only [List.getElem?_toArray, List.getElem?_cons_zero, List.getElem?_cons_succ]; rfl) (by kernel_rfl) (by kernel_rfl) (by kernel_rfl) (by intro _ _ _ h; exact h) (Or.inr ⟨by rfl, rfl⟩) (by assumption) ?_
        try simp only [Act.put, List.setIfInBounds_toArray, List.set_cons_zero, List.set_cons_succ]
        refine wpAnyH_take (i := 10) (v := undef) (by simp only [List.getElem?_toArray, List.getElem?_cons_zero, List.getElem?_cons_succ]; rfl) (by kernel_rfl) (by kernel_rfl) (by kernel_rfl) (by intro _ _ _ h; exact h) (Or.inr ⟨by rfl, rfl⟩) (by assumption) ?_
        try simp only [Act.put, List.setIfInBounds_toArray, List.set_cons_zero, List.set_cons_succ]
        refine wpAnyH_take (i := 11) (v := undef) (by simp only [List.getElem?_toArray, List.getElem?_cons_zero, List.getElem?_cons_succ]; rfl) (by kernel_rfl) (by kernel_rfl) (by kernel_rfl) (by intro _ _ _ h; exact h) (Or.inr ⟨by rfl, rfl⟩) (by assumption) ?_
        try simp only [Act.put, List.setIfInBounds_toArray, List.set_cons_zero, List.set_cons_succ]
        refine wpAnyH_take (i := 12) (v := undef) (by simp only [List.getElem?_toArray, List.getElem?_cons_zero, List.getElem?_cons_succ]; rfl) (by kernel_rfl) (by kernel_rfl) (by kernel_rfl) (by intro _ _ _ h; exact h) (Or.inr ⟨by rfl, rfl⟩) (by assumption) ?_
        try simp only [Act.put, List.setIfInBounds_toArray, List.set_cons_zero, List.set_cons_succ]
        refine wpAnyH_take (i := 13) (v := undef) (by simp only [List.getElem?_toArray, List.getElem?_cons_zero, List.getElem?_cons_succ]; rfl) (by kernel_rfl) (by kernel_rfl) (by kernel_rfl) (by intro _ _ _ h; exact h) (Or.inr ⟨by rfl, rfl⟩) (by assumption) ?_
        try simp only [Act.put, List.setIfInBounds_toArray, List.set_cons_zero, List.set_cons_succ]
        refine wpAnyH_take (i := 14) (v := undef) (by simp only [List.getElem?_toArray, List.getElem?_cons_zero, List.getElem?_cons_succ]; rfl) (by kernel_rfl) (by kernel_rfl) (by kernel_rfl) (by intro _ _ _ h; exact h) (Or.inr ⟨by rfl, rfl⟩) (by assumption) ?_
        try simp only [Act.put, List.setIfInBounds_toArray, List.set_cons_zero, List.set_cons_succ]
        refine wpAnyH_take (i := 15) (v := undef) (by simp only [List.getElem?_toArray, List.getElem?_cons_zero, List.getElem?_cons_succ]; rfl) (by kernel_rfl) (by kernel_rfl) (by kernel_rfl) (by intro _ _ _ h; exact h) (Or.inr ⟨by rfl, rfl⟩) (by assumption) ?_
        try simp only [Act.put, List.setIfInBounds_toArray, List.set_cons_zero, List.set_cons_succ]
        refine wpAnyH_take (i := 16) (v := ?_) (by simp only [List.getElem?_toArray, List.getElem?_cons_zero, List.getElem?_cons_succ]; rfl) (by kernel_rfl) (by kernel_rfl) (by kernel_rfl) (by intro _ _ _ h; exact h) (Or.inl ⟨by rfl, ?_⟩) (by assumption) ?_
        rotate_left
        · (intro w9 hSw; (try dsimp only at hSw); go_simp <;> with_reducible rfl)
        try simp only [Act.put, List.setIfInBounds_toArray, List.set_cons_zero, List.set_cons_succ]
        refine wpAnyH_done (by kernel_rfl) ?_ _
        have hbA : Below w1.heap.size w1 wr.drew := bel_drew hbw
        have HOa : Hid (OwnTb wr.drew (w1.heap.size + 1) u8 q.l) := hide (ownTb_bel (unhide HO) (bel_drew (Below.refl _ _)))
        have HA2 : Hid (wr.drew.heap[w1.heap.size]? = _) := hide (unhide HA)
        have HB2 : Hid (wr.drew.heap[w1.heap.size + 1 + 1]? = _) := hide (unhide HB)
        have d0 : wr.drew.cell? ⟨g, o + i * 7, none⟩ = _ := c0
        have d1 : wr.drew.cell? ⟨g, o + i * 7 + 1, none⟩ = _ := c1
        have d2 : wr.drew.cell? ⟨g, o + i * 7 + 2, none⟩ = _ := c2
        have d3 : wr.drew.cell? ⟨g, o + i * 7 + 3, none⟩ = _ := c3
        have d4 : wr.drew.cell? ⟨g, o + i * 7 + 4, none⟩ = _ := c4
        have d5 : wr.drew.cell? ⟨g, o + i * 7 + 5, none⟩ = _ := c5
        have d6 : wr.drew.cell? ⟨g, o + i * 7 + 6, none⟩ = _ := c6
        have zq : w1.heap.size + 1 + 1 < wr.drew.heap.size := zr
        have hgq : g < wr.drew.heap.size := hgr
        clear hHeld hS0 c0 c1 c2 c3 c4 c5 c6 HA HB HO hbw bR1 bW1 zr hgr
        generalize wr.drew = wq at *
        have hge := hide (fun b (hb : u8.ownBlock = some b) => (World.ownsRow.lt (unhide HOa) b hb).1)
        have hne := hide (own_ne_w (unhide HOa) (unhide HB2))
        go_wp2_with (at_builtin; go_loud (refine wpList_append_own _ rfl _ _ 28 rfl (w1.heap.size + 1) 39 i0 _ 7 56 Tryz.underlying28 hi hz0' hz1' hz2' rfl (by decide) u8 _ _ rfl (World.ownsRow.alloc (unhide HOa) _) ⟨wq.heap.size, 0, none⟩ 1 1 [.int .i64 ky, .int .i64 st, .int .i64 en, .int .i64 n, .int .i64 su, .int .i64 le, .int .i64 mo] rfl rfl (cells_newTb wq ky st en n su le mo _) (by simp [Value.oneCell']) (by unfold maxLen; omega) (by omega) (by simp; omega) ?_); intro v' w5 hown hgrow hnn)
        have hb5 : Below (w1.heap.size + 1) wq w5 := ((Below.refl _ wq).alloc (by omega) _).grown hgrow (by simp; omega) (unhide hge)
        have e5 : w5.heap[w1.heap.size + 1 + 1]? = wq.heap[w1.heap.size + 1 + 1]? := (hgrow.block _ (by simp; omega) (fun e9 => unhide hne e9.symm)).trans (Below.heap_alloc _ _ _ (by omega))
        have e6 := hb5.block w1.heap.size (by omega)
        have O5 := ownTb_snoc (x := ⟨ky, st, en, n, su, le, mo⟩) hown
        refine ⟨⟨i + 1, ⟨q.a, q.b, q.g, q.l ++ [⟨ky, st, en, n, su, le, mo⟩]⟩, by omega, by go_num, hide (by rw [unhide HS]; exact unhide HN), hide (e6.trans (unhide HA2)), hide (e5.trans (unhide HB2)), hide O5, hbA.trans (hb5.mono (by omega))⟩, ?_⟩
        simp [intOf]; omega
    · obtain rfl : len = i := by omega
      have HQf : Hid (sesAll x2 a b (na, nb, nc, nd) rows = q) := hide (by have h9 := unhide HQ; rw [List.take_of_length_le (by omega)] at h9; exact h9)
      have HRf : Hid (sesPut x2 a b (na, nb, nc, nd) rows = insR (sesRow x2 q) (kpTb x2 q.a q.b q.l)) := hide (by unfold sesPut; rw [unhide HQf])
      obtain ⟨ao, co, rfl, HT, _, _⟩ := holdTb (unhide HO) (by omega)
      have r0 := Joins.cell_of_block bR1 2
      have s0 := Joins.cell_of_block (unhide HB) 0
      have s1 := Joins.cell_of_block (unhide HB) 1
      have a0 := Joins.cell_of_block (unhide HA) 0
      have a1 := Joins.cell_of_block (unhide HA) 1
      have a2 := Joins.cell_of_block (unhide HA) 2
      have a3 := Joins.cell_of_block (unhide HA) 3
      simp only [List.getElem?_toArray, List.getElem?_cons_zero, List.getElem?_cons_succ] at r0 s0 s1 a0 a1 a2 a3
      have hbF : Below w.heap.size w wr := bel_trans hbw1 hbw
      have HTh := hide HT
      clear HT HQ HQf HO HA HB bR1 bW1 hbw
      go_wp2_with fail
      refine (specput_any (sesRow x2 q) _ _ _ q.l _ (unhide HTh) (by omega)).mono ?_
      rintro e' w9 ⟨v9, rfl, hO9, hb9⟩
      go_wp2
      go_ret
      refine ⟨_, rfl, ?_, bel_trans hbF hb9⟩
      rw [unhide HRf]
      exact World.ownsRow.mono hO9 hbF.size
end Go.Proofs.YtbockbdlojkpiaaGreat
/- Proved here: copy between rows of structs, as a law of no program. -/
namespace Go.Proofs.YtbockbdlojkpiaaGreat
open Go.ChangeShapes Go.WideShapes Go.ChangeAt Go.RowKit
set_option linter.unusedVariables false

theorem run_copy_K {P : Program} (w : World) (dT sT ty elem : TypeId) (g o dLen dCap : Nat) (a : Addr) (sLen sCap : Nat) (cur : Array Value) (t : TypeId) (cs : List Value) (K n : Nat)
    (hu : P.underlying dT = some (.slice elem)) (hs : (P.info? elem).map (·.size) = some K)
    (hg : w.heap[g]? = some (.cells cur t (0, 0))) (hm : Nat.min sLen dLen = n) (hn : cs.length = n * K)
    (hsrc : ∀ j v, cs[j]? = some v → w.cell? (a.add j) = some v) (hfit : o + cs.length ≤ cur.size) (h1 : ∀ v ∈ cs, v.oneCell' = true) :
    (Builtin.copy_ #[dT, sT] ty #[.slice (some ⟨g, o, none⟩) dLen dCap, .slice (some a) sLen sCap]).run P w =
      .ok (goInt n) (w.setRow g (splice cur.toList o cs).toArray) := by
  have hl := run_loadCells_list (P := P) w a cs hsrc
  have hst := run_storeCells_at P g o t cs 0 cur w hg (by simpa using hfit) h1
  cases hq : P.info? elem with
  | none => simp [hq] at hs
  | some i =>
    have hi : i.size = K := by simpa [hq] using hs
    simp [Builtin.copy_, run_underlying hu, Builtin.lenOf, Builtin.firstCells, sizeOf, typeInfo, hq, hi, hm, ← hn, hl, hst, splice]

theorem wpList_copy_K {P : Program} {w : World} {ops : Array Oper} {rest : List Oper} {o : Oper} {a : Act} {Q : Exit → Act → World → Prop} (hgd : o.guard = none) (d s : Operand) (dT sT : TypeId)
    (ho : o.op = .call { callee := .builtin .copy, args := #[d, s], argTypes := #[dT, sT] }) (elem : TypeId) (K n : Nat) (hu : P.underlying dT = some (.slice elem)) (hsz : (P.info? elem).map (·.size) = some K)
    (dLen dCap sLen sCap g off : Nat) (ad : Addr) (hd : a.eval d = .slice (some ⟨g, off, none⟩) dLen dCap) (hs : a.eval s = .slice (some ad) sLen sCap)
    (cur : List Value) (t : TypeId) (hg : w.heap[g]? = some (.cells cur.toArray t (0, 0))) (cs : List Value) (hm : Nat.min sLen dLen = n) (hn : cs.length = n * K)
    (hsrc : ∀ j v, cs[j]? = some v → w.cell? (ad.add j) = some v) (hfit : off + cs.length ≤ cur.length) (h1 : ∀ v ∈ cs, v.oneCell' = true) (B : Nat) (w0 : World) (hb : Below B w0 w) (hBg : B ≤ g)
    (h : ∀ w', Hid (w'.heap[g]? = some (.cells (splice cur off cs).toArray t (0, 0)) ∧ ∀ q, q ≠ g → w'.heap[q]? = w.heap[q]?) → Below B w0 w' → wpList P ops Q rest (a.put o.dst (goInt n)) w') :
    wpList P ops Q (o :: rest) a w := by
  refine wpList_plain hgd fun K' hK => ?_
  have hrun := run_copy_K (P := P) w dT sT o.type elem g off dLen dCap ad sLen sCap cur.toArray t cs K n hu hsz hg hm hn hsrc (by simpa using hfit) h1
  unfold Oper.wp
  simp [execOp, ho, resolve, invoke, builtin, hd, hs, hrun, Result.andThen]
  exact hK _ _ (h _ (hide ⟨by simpa using setRow_heap w g _ _ t _ hg, fun q hq => setRow_other w g q _ hq⟩) (below_setRow hb hBg _))

theorem step_copy_K {P : Program} {ops : Array Oper} {o : Oper} {a : Act} {w : World} {K' : Act → World → Prop} {Q : Exit → Act → World → Prop} {E : Prop} (hgd : o.guard = none) (d s : Operand) (dT sT : TypeId)
    (ho : o.op = .call { callee := .builtin .copy, args := #[d, s], argTypes := #[dT, sT] }) (elem : TypeId) (K n : Nat) (hu : P.underlying dT = some (.slice elem)) (hsz : (P.info? elem).map (·.size) = some K)
    (dLen dCap sLen sCap g off : Nat) (ad : Addr) (hd : a.eval d = .slice (some ⟨g, off, none⟩) dLen dCap) (hs : a.eval s = .slice (some ad) sLen sCap)
    (cur : List Value) (t : TypeId) (hg : w.heap[g]? = some (.cells cur.toArray t (0, 0))) (cs : List Value) (hm : Nat.min sLen dLen = n) (hn : cs.length = n * K)
    (hsrc : ∀ j v, cs[j]? = some v → w.cell? (ad.add j) = some v) (hfit : off + cs.length ≤ cur.length) (h1 : ∀ v ∈ cs, v.oneCell' = true) (B : Nat) (w0 : World) (hb : Below B w0 w) (hBg : B ≤ g)
    (h : ∀ w', Hid (w'.heap[g]? = some (.cells (splice cur off cs).toArray t (0, 0)) ∧ ∀ q, q ≠ g → w'.heap[q]? = w.heap[q]?) → Below B w0 w' → K' (a.put o.dst (goInt n)) w') :
    if Region.wanted o (yielded ops a.tmps) = true then Oper.wp P o a w K' Q else E := by
  have hw : Region.wanted o (yielded ops a.tmps) = true := by simp [Region.wanted, hgd]
  rw [if_pos hw]
  have hrun := run_copy_K (P := P) w dT sT o.type elem g off dLen dCap ad sLen sCap cur.toArray t cs K n hu hsz hg hm hn hsrc (by simpa using hfit) h1
  unfold Oper.wp
  simp [execOp, ho, resolve, invoke, builtin, hd, hs, hrun, Result.andThen]
  exact h _ (hide ⟨by simpa using setRow_heap w g _ _ t _ hg, fun q hq => setRow_other w g q _ hq⟩) (below_setRow hb hBg _)

end Go.Proofs.YtbockbdlojkpiaaGreat
/- Proved here: a row laid into rows of the call's own (slices.Insert). -/
namespace Go.Proofs.YtbockbdlojkpiaaGreat
open Go.ChangeShapes Go.WideShapes Go.ChangeAt Go.RowKit
set_option linter.unusedVariables false

theorem splice_room {α : Type} (L D S : List α) (a d : Nat) (hd : D.length = d) (hS : S.length = 7) (hl : a + 7 + d ≤ L.length) : (splice (splice L (a + 7) D) a S).take (a + 7 + d) = L.take a ++ (S ++ D) := by
  subst hd
  have h1 : (L.take (a + 7)).length = a + 7 := by rw [List.length_take]; omega
  have e1 : (splice L (a + 7) D).take a = L.take a := by
    unfold splice
    rw [List.take_append_of_le_length (by omega), List.take_take]
    congr 1; omega
  have e2 : (splice L (a + 7) D).drop (a + 7) = D ++ L.drop (a + 7 + D.length) := by
    unfold splice
    rw [List.drop_append_of_le_length (by omega), List.drop_of_length_le (by omega), List.nil_append]
  have e3 : splice (splice L (a + 7) D) a S = (L.take a ++ (S ++ D)) ++ L.drop (a + 7 + D.length) := by
    rw [splice, e1, hS, e2]; simp
  rw [e3, List.take_append_of_le_length (by simp [hS]; omega)]
  exact List.take_of_length_le (by simp [hS]; omega)
theorem splice_grow {α : Type} (L D S : List α) (a d : Nat) (hd : D.length = d) (hS : S.length = 7) (hl : a + 7 + d ≤ L.length) : (splice (splice L a S) (a + 7) D).take (a + 7 + d) = L.take a ++ (S ++ D) := by
  subst hd
  have h1 : (L.take a).length = a := by rw [List.length_take]; omega
  have e1 : (splice L a S).take (a + 7) = L.take a ++ S := by
    unfold splice
    rw [← List.append_assoc, List.take_append_of_le_length (by simp [hS]; omega)]
    exact List.take_of_length_le (by simp [hS]; omega)
  rw [splice, e1, ← List.append_assoc, List.take_append_of_le_length (by simp [hS]; omega), List.append_assoc]
  exact List.take_of_length_le (by simp [hS]; omega)
theorem flatTb_app (xs ys : List TbR) : flatTb (xs ++ ys) = flatTb xs ++ flatTb ys := by simp [flatTb]
theorem flatTb_ins (r : TbR) (ys : List TbR) (i : Nat) : flatTb (ys.take i ++ r :: ys.drop i) = flatTb (ys.take i) ++ (r.cells ++ flatTb (ys.drop i)) := by simp [flatTb]
theorem flatTb_take (ys : List TbR) (i : Nat) (h : i ≤ ys.length) : (flatTb ys).take (i * 7) = flatTb (ys.take i) := by
  have e : flatTb ys = flatTb (ys.take i) ++ flatTb (ys.drop i) := by rw [← flatTb_app, List.take_append_drop]
  have hl : (flatTb (ys.take i)).length = i * 7 := by rw [flatTb_len, List.length_take]; congr 1; omega
  rw [e, List.take_append_of_le_length (by omega)]
  exact List.take_of_length_le (by omega)
theorem flatTb_drop (ys : List TbR) (i : Nat) (h : i ≤ ys.length) : (flatTb ys).drop (i * 7) = flatTb (ys.drop i) := by
  have e : flatTb ys = flatTb (ys.take i) ++ flatTb (ys.drop i) := by rw [← flatTb_app, List.take_append_drop]
  have hl : (flatTb (ys.take i)).length = i * 7 := by rw [flatTb_len, List.length_take]; congr 1; omega
  rw [e, List.drop_append_of_le_length (by omega), List.drop_of_length_le (by omega), List.nil_append]
theorem oneTb (ys : List TbR) : ∀ u ∈ flatTb ys, u.oneCell' = true := by
  intro u hu
  simp only [flatTb, List.mem_flatMap] at hu
  obtain ⟨x, _, hx⟩ := hu
  simp [TbR.cells] at hx
  rcases hx with rfl | rfl | rfl | rfl | rfl | rfl | rfl <;> rfl
theorem sizeTb : (Tryz.prog.info? 39).map (·.size) = some 7 := by kernel_rfl

set_option maxRecDepth 20000 in
set_option maxHeartbeats 2000000 in
theorem ins_end (r : TbR) (ys : List TbR) (a : Option Addr) (cap B vb : Nat) (w : World) (hO : OwnTb w B (.slice a ys.length cap) ys) (hnc : ys.length ≤ cap) (hl : ys.length ≤ 1048576) (hB : B ≤ w.heap.size) (hv : ∀ j u, r.cells[j]? = some u → w.cell? ((⟨vb, 0, none⟩ : Addr).add j) = some u) : Calls Tryz.prog 74 #[.slice a ys.length cap, .int .i64 ys.length, .slice (some ⟨vb, 0, none⟩) 1 1] w fun e w' => ∃ v', e = .returned v' ∧ OwnTb w' B v' (ys ++ [r]) ∧ Below B w w' := by
  obtain ⟨i0, hi, hz0, hz1, hz2⟩ := info_parts Tryz.infoTb
  have HO := hide hO
  have HG := hide (ownTb_ge hO)
  have HV := hide hv
  clear hO hv
  go_enter Tryz.func74, Tryz.ntmps74
  go_wp2_with (at_builtin; go_loud (refine wpList_append_own _ rfl _ _ 28 rfl B 39 i0 _ 7 56 Tryz.underlying28 hi hz0 hz1 hz2 rfl (by decide) (.slice a ys.length cap) _ _ rfl (unhide HO) ⟨vb, 0, none⟩ 1 1 r.cells rfl rfl (unhide HV) (by simp [TbR.cells, Value.oneCell']) (by unfold maxLen; omega) (by omega) hB ?_); intro v' w1 hown' hgrow _)
  all_goals
    go_ret
    exact ⟨_, rfl, ownTb_snoc hown', (Below.refl B w).grown hgrow hB (unhide HG)⟩

end Go.Proofs.YtbockbdlojkpiaaGreat
/- Proved here: a row laid into rows of the call's own, where there is room (slices.Insert). -/
namespace Go.Proofs.YtbockbdlojkpiaaGreat
open Go.ChangeShapes Go.WideShapes Go.ChangeAt Go.RowKit
set_option linter.unusedVariables false

theorem ovl_no (w : World) (vb g off lb cb : Nat) (tB : TypeId) (kB : Nat) (hne : vb ≠ g) (hsa : w.shape? vb = some (39, 7)) (hsb : w.shape? g = some (tB, kB)) (hkB : kB ≠ 0) (hf0 : w.frozen? ⟨vb, 0, none⟩ = false) (hf7 : w.frozen? ⟨vb, 7, none⟩ = false) : (callFunc 84 #[.slice (some ⟨vb, 0, none⟩) 1 1, .slice (some ⟨g, off, none⟩) lb cb]).run Tryz.prog w = .ok (.value (.bool false)) w := by
  obtain ⟨i0, hi, hz0, hz1, hz2⟩ := info_parts Tryz.infoTb
  rw [run_callFunc_extern Tryz.func84 (by kernel_rfl) (by kernel_rfl) (by kernel_rfl) (e := Extern.SlicesOverlaps.overlaps #[28, 28] #[4]) (by kernel_rfl),
    Lib.run_overlaps_apart w 28 4 39 Tryz.underlying28 7 (fun w => by simp [sizeOf, typeInfo, hi, hz1]) ⟨vb, 0, none⟩ ⟨g, off, none⟩ 1 1 lb cb hne 39 tB 7 kB hsa hsb hkB hf0 hf7]
  rfl

set_option maxRecDepth 20000 in
set_option maxHeartbeats 2000000 in
theorem ins_room (r : TbR) (ys : List TbR) (i g cap B vb : Nat) (cur : Array Value) (w : World) (hi : i < ys.length) (hroom : ys.length + 1 ≤ cap) (hcm : cap ≤ maxLen) (hblk : w.heap[g]? = some (.cells cur 39 (0, 0))) (hcs : cur.size = cap * 7) (htk : cur.toList.take (ys.length * 7) = flatTb ys) (hBg : B ≤ g) (hl : ys.length ≤ 1048576) (hne : vb ≠ g) (hsa : w.shape? vb = some (39, 7)) (hf0 : w.frozen? ⟨vb, 0, none⟩ = false) (hf7 : w.frozen? ⟨vb, 7, none⟩ = false) (hv : ∀ j u, r.cells[j]? = some u → w.cell? ((⟨vb, 0, none⟩ : Addr).add j) = some u) : Calls Tryz.prog 74 #[.slice (some ⟨g, 0, none⟩) ys.length cap, .int .i64 i, .slice (some ⟨vb, 0, none⟩) 1 1] w fun e w' => ∃ v', e = .returned v' ∧ OwnTb w' B v' (ys.take i ++ r :: ys.drop i) ∧ Below B w w' := by
  have hsb : w.shape? g = some (39, cap * 7) := by simp [World.shape?, hblk, hcs]
  have hov := fun off lb cb => ovl_no w vb g off lb cb 39 (cap * 7) hne hsa hsb (by omega) hf0 hf7
  have HV := hide hv
  unfold maxLen at hcm
  have hz2 : ¬ ((i : Int) = (ys.length : Int)) := by omega
  have hw0 : IntKind.i64.wrap ((ys.length : Int) + 1) = (ys.length : Int) + 1 := by rw [IntKind.wrap_i64]; omega
  have hz3 : ¬ ((cap : Int) < (ys.length : Int) + 1) := by omega
  have hw1 : IntKind.i64.wrap ((i : Int) + 1) = (i : Int) + 1 := by rw [IntKind.wrap_i64]; omega
  have hb1 : (0 : Int) ≤ (i : Int) + 1 := by omega
  have hin : i ≤ ys.length := by omega
  have htn : ((i : Int) + 1).toNat = i + 1 := by omega
  have htn2 : ((ys.length : Int) + 1).toNat = ys.length + 1 := by omega
  have hb2 : ¬ (cap = i + 1) := by omega
  have hb3 : (i : Int) ≤ (ys.length : Int) + 1 := by omega
  have hb4 : ¬ (cap = i) := by omega
  obtain ⟨D, hD⟩ : ∃ D, D = flatTb (ys.drop i) := ⟨_, rfl⟩
  have hDl : D.length = (ys.length - i) * 7 := by rw [hD, flatTb_len, List.length_drop]
  have hD1 : ∀ u ∈ D, u.oneCell' = true := by rw [hD]; exact oneTb _
  have hDs : ∀ j u, D[j]? = some u → w.cell? ((⟨g, i * 7, none⟩ : Addr).add j) = some u := fun j u hj => by
    rw [Addr.add_lit, Joins.cell_of_block hblk, ← Array.getElem?_toList]
    have hj' : j < (ys.length - i) * 7 := by rw [← hDl]; exact (List.getElem?_eq_some_iff.1 hj).1
    rw [hD, ← flatTb_drop ys i hin, List.getElem?_drop, ← htk, List.getElem?_take_of_lt (by omega)] at hj
    exact hj
  obtain ⟨L, hL⟩ : ∃ L, L = cur.toList := ⟨_, rfl⟩
  have hLl : L.length = cap * 7 := by rw [hL, Array.length_toList]; exact hcs
  have hLb : w.heap[g]? = some (.cells L.toArray 39 (0, 0)) := by rw [hL, Array.toArray_toList]; exact hblk
  obtain ⟨L2, hL2⟩ : ∃ L2, L2 = splice L ((i + 1) * 7) D := ⟨_, rfl⟩
  have hL2l : L2.length = cap * 7 := by rw [hL2, length_splice _ _ _ (by omega), hLl]
  have hlen : (ys.take i ++ r :: ys.drop i).length = ys.length + 1 := by rw [List.length_append, List.length_cons, List.length_take, List.length_drop]; omega
  have HF : Hid ((splice L2 (i * 7) r.cells).take ((ys.length + 1) * 7) = flatTb (ys.take i ++ r :: ys.drop i)) := hide (by
    have e := splice_room L D r.cells (i * 7) ((ys.length - i) * 7) hDl rfl (by omega)
    rw [flatTb_ins, ← flatTb_take ys i hin, ← hD, ← htk, List.take_take, ← hL, show min (i * 7) (ys.length * 7) = i * 7 by omega, ← e, hL2, show (i + 1) * 7 = i * 7 + 7 by omega, show (ys.length + 1) * 7 = i * 7 + 7 + (ys.length - i) * 7 by omega])
  have HDs := hide hDs
  have HD1 := hide hD1
  have HDl := hide hDl
  have HL2 := hide hL2
  have HLb := hide hLb
  have HLl := hide hLl
  have HL2l := hide hL2l
  have HLen := hide hlen
  clear hv hD hDs hD1 hDl hL2 hL htk hblk hcs hsb hLb hLl hL2l hlen
  go_enter Tryz.func74, Tryz.ntmps74
  go_wp2_with (simp only [hov])
  clear hov
  go_region_law (go_loud (refine step_copy_K rfl (.tmp 73) (.tmp 76) 28 28 rfl 39 7 (ys.length - i) Tryz.underlying28 sizeTb (ys.length - i) (cap - (i + 1)) (ys.length + 1 - i) (cap - i) g ((i + 1) * 7) ⟨g, i * 7, none⟩ (by simp [Act.eval, Act.put]) (by simp [Act.eval, Act.put]) L 39 (by exact unhide HLb) D (by simp only [Nat.min_def]; split <;> omega) (unhide HDl) (by exact unhide HDs) (by rw [unhide HDl, unhide HLl]; omega) (unhide HD1) B w ⟨rfl, rfl, rfl, Nat.le_refl _, fun _ _ => rfl⟩ hBg ?_); intro w2 hg2 hb2)
  all_goals
    have HG2 : Hid (w2.heap[g]? = some (.cells L2.toArray 39 (0, 0))) := hide (by rw [unhide HL2]; exact (unhide hg2).1)
    have HV2 : Hid (∀ j u, r.cells[j]? = some u → w2.cell? ((⟨vb, 0, none⟩ : Addr).add j) = some u) := hide (fun j u hj => by
      have e : w2.cell? ((⟨vb, 0, none⟩ : Addr).add j) = w.cell? ((⟨vb, 0, none⟩ : Addr).add j) := by rw [Addr.add_lit]; exact World.cell?_of_block ((unhide hg2).2 vb hne)
      rw [e]; exact unhide HV j u hj)
    clear hg2
    have hcl : r.cells.length = 7 := rfl
    have hrun := run_copy_K (P := Tryz.prog) w2 28 28 3 39 g (i * 7) (ys.length + 1 - i) (cap - i) ⟨vb, 0, none⟩ 1 1 L2.toArray 39 r.cells 7 1 Tryz.underlying28 sizeTb (unhide HG2) (by simp only [Nat.min_def]; split <;> omega) (by rw [hcl]) (unhide HV2) (by rw [List.size_toArray, unhide HL2l, hcl]; omega) (by simp [TbR.cells, Value.oneCell'])
    obtain ⟨w3, hw3⟩ : ∃ w3, w3 = w2.setRow g (splice L2.toArray.toList (i * 7) r.cells).toArray := ⟨_, rfl⟩
    rw [← hw3] at hrun
    have hb3 : Below B w w3 := by rw [hw3]; exact below_setRow hb2 hBg _
    have hg3 : Hid (w3.heap[g]? = some (.cells (splice L2 (i * 7) r.cells).toArray 39 (0, 0))) := hide (by rw [hw3]; exact setRow_heap w2 g _ _ 39 _ (unhide HG2))
    clear hw3 hcl
    go_wp2_with (simp only [hrun])
    go_ret
    refine ⟨_, rfl, ?_, hb3⟩
    unfold OwnTb
    rw [unhide HLen]
    refine ⟨by rw [flatTb_len, unhide HLen], Or.inr ⟨g, cap, (splice L2 (i * 7) r.cells).toArray, rfl, hBg, unhide hg3, hroom, by unfold maxLen; omega, ?_, ?_⟩⟩
    · rw [List.size_toArray, length_splice _ _ _ (by rw [unhide HL2l]; simp [TbR.cells]; omega), unhide HL2l]
    · exact unhide HF

end Go.Proofs.YtbockbdlojkpiaaGreat
/- Proved here: a row laid into rows of the call's own, where there is no room (slices.Insert). -/
namespace Go.Proofs.YtbockbdlojkpiaaGreat
open Go.ChangeShapes Go.WideShapes Go.ChangeAt Go.RowKit
set_option linter.unusedVariables false

theorem bel_al {B : Nat} {w : World} (h : B ≤ w.heap.size) (o : Obj) : Below B w (w.drew.alloc o) := (show Below B w w.drew from ⟨rfl, rfl, rfl, Nat.le_refl _, fun _ _ => rfl⟩).alloc h o
theorem al_new (w : World) (R : List Value) (e : TypeId) : (w.drew.alloc (.cells R.toArray e)).heap[w.heap.size]? = some (.cells R.toArray e (0, 0)) := by
  show (w.heap.push _)[w.heap.size]? = _
  simp
theorem al_old (w : World) (ob : Obj) (q : Nat) (h : q < w.heap.size) : (w.drew.alloc ob).heap[q]? = w.heap[q]? := (bel_al (Nat.le_refl _) ob).block q h

set_option maxRecDepth 20000 in
set_option maxHeartbeats 600000 in
theorem ins_grow (r : TbR) (ys : List TbR) (i g cap B vb : Nat) (cur : Array Value) (w : World) (hi : i < ys.length) (hnc : ys.length ≤ cap) (hroom : cap < ys.length + 1) (hblk : w.heap[g]? = some (.cells cur 39 (0, 0))) (htk : cur.toList.take (ys.length * 7) = flatTb ys) (hcs : cur.size = cap * 7) (hB : B ≤ w.heap.size) (hl : ys.length ≤ 1048576) (hvw : vb < w.heap.size) (hv : ∀ j u, r.cells[j]? = some u → w.cell? ((⟨vb, 0, none⟩ : Addr).add j) = some u) : Calls Tryz.prog 74 #[.slice (some ⟨g, 0, none⟩) ys.length cap, .int .i64 i, .slice (some ⟨vb, 0, none⟩) 1 1] w fun e w' => ∃ v', e = .returned v' ∧ OwnTb w' B v' (ys.take i ++ r :: ys.drop i) ∧ Below B w w' := by
  obtain ⟨i0, hi0, hz0, hzs, hzb⟩ := info_parts Tryz.infoTb
  have hgw : g < w.heap.size := by rcases Array.getElem?_eq_some_iff.1 hblk with ⟨h, _⟩; exact h
  have hz2 : ¬ ((i : Int) = (ys.length : Int)) := by omega
  have hw0 : IntKind.i64.wrap ((ys.length : Int) + 1) = (ys.length : Int) + 1 := by rw [IntKind.wrap_i64]; omega
  have hz3 : (cap : Int) < (ys.length : Int) + 1 := by omega
  have hw1 : IntKind.i64.wrap ((i : Int) + 1) = (i : Int) + 1 := by rw [IntKind.wrap_i64]; omega
  have hw2 : IntKind.i64.wrap ((ys.length : Int) + 1 - (i : Int)) = (ys.length : Int) + 1 - (i : Int) := by rw [IntKind.wrap_i64]; omega
  have hb1 : (0 : Int) ≤ (i : Int) + 1 := by omega
  have hin : i ≤ ys.length := by omega
  have htn : ((i : Int) + 1).toNat = i + 1 := by omega
  have hb3 : (i : Int) ≤ (ys.length : Int) + 1 := by omega
  have hkk : (ys.length : Int) + 1 - (i : Int) = ((ys.length + 1 - i : Nat) : Int) := by omega
  have hik : i + (ys.length + 1 - i) = ys.length + 1 := by omega
  have hcell : ∀ j u, (flatTb ys)[j]? = some u → w.cell? ⟨g, j, none⟩ = some u := fun j u hj => by
    have hj' : j < ys.length * 7 := by rw [← flatTb_len]; exact (List.getElem?_eq_some_iff.1 hj).1
    rw [Joins.cell_of_block hblk, ← Array.getElem?_toList]
    rw [← htk, List.getElem?_take_of_lt hj'] at hj
    exact hj
  obtain ⟨X, hX⟩ : ∃ X, X = flatTb (ys.take i) := ⟨_, rfl⟩
  have hXl : X.length = i * 7 := by rw [hX, flatTb_len, List.length_take]; congr 1; omega
  have hold : (Builtin.firstCells i0.size i (.slice (some ⟨g, 0, none⟩) i cap)).run Tryz.prog w.drew = .ok X.toArray w.drew := by
    rw [hzs]
    exact run_firstCells_some w.drew 7 i ⟨g, 0, none⟩ i cap X hXl (fun j u hj => by
      have hj' : j < i * 7 := by rw [← hXl]; exact (List.getElem?_eq_some_iff.1 hj).1
      rw [Addr.add_lit, Nat.zero_add]
      rw [hX, ← flatTb_take ys i hin, List.getElem?_take_of_lt hj'] at hj
      exact hcell j u hj)
  have hrz : ∀ ty, (Builtin.append_ #[28, 3] ty #[.slice (some ⟨g, 0, none⟩) i cap, .int .i64 ((ys.length : Int) + 1 - (i : Int))]).run Tryz.prog w = .ok (.slice (some ⟨w.heap.size, 0, none⟩) (ys.length + 1) (grownCap w (ys.length + 1) cap 39)) (w.drew.alloc (.cells (X.toArray ++ Builtin.zeroCells (Value.agg #[.int .i64 0, .int .i64 0, .int .i64 0, .int .i64 0, .int .i64 0, .int .i64 0, .int .i64 0]).cells (ys.length + 1 - i) ++ Builtin.zeroCells (Value.agg #[.int .i64 0, .int .i64 0, .int .i64 0, .int .i64 0, .int .i64 0, .int .i64 0, .int .i64 0]).cells (grownCap w (ys.length + 1) cap 39 - (ys.length + 1))) 39)) := fun ty => by
    have h := Lib.run_append_grow_zeros w 28 3 ty 39 i0 _ .i64 .i64 Tryz.underlying28 Tryz.underlying3 hi0 hz0 (some ⟨g, 0, none⟩) i cap X hold (ys.length + 1 - i) (by omega) (by omega) (by omega) (by omega) (by rw [hzb]; omega) (by rw [hzb, hik]; exact growslice_fits hroom (by omega))
    rw [hik] at h
    rw [hkk]
    exact h
  obtain ⟨G, hG⟩ : ∃ G, G = grownCap w (ys.length + 1) cap 39 := ⟨_, rfl⟩
  have hGn : ys.length + 1 ≤ G := by rw [hG]; exact grownCap_ge w _ _ _
  have hGm : G ≤ maxLen := by rw [hG]; exact grownCap_le_maxLen w (ys.length + 1) cap 39 (by unfold maxLen; omega)
  rw [← hG] at hrz
  obtain ⟨ROW, hROW⟩ : ∃ ROW : List Value, ROW = (X.toArray ++ Builtin.zeroCells (Value.agg #[.int .i64 0, .int .i64 0, .int .i64 0, .int .i64 0, .int .i64 0, .int .i64 0, .int .i64 0]).cells (ys.length + 1 - i) ++ Builtin.zeroCells (Value.agg #[.int .i64 0, .int .i64 0, .int .i64 0, .int .i64 0, .int .i64 0, .int .i64 0, .int .i64 0]).cells (G - (ys.length + 1))).toList := ⟨_, rfl⟩
  have hRl : ROW.length = G * 7 := by
    rw [hROW]
    simp [Builtin.zeroCells, Value.cells, hXl]
    omega
  have hRX : ROW.take (i * 7) = X := by
    rw [hROW]
    simp [← hXl]
  have hRA : (X.toArray ++ Builtin.zeroCells (Value.agg #[.int .i64 0, .int .i64 0, .int .i64 0, .int .i64 0, .int .i64 0, .int .i64 0, .int .i64 0]).cells (ys.length + 1 - i) ++ Builtin.zeroCells (Value.agg #[.int .i64 0, .int .i64 0, .int .i64 0, .int .i64 0, .int .i64 0, .int .i64 0, .int .i64 0]).cells (G - (ys.length + 1))) = ROW.toArray := by rw [hROW, Array.toArray_toList]
  rw [hRA] at hrz
  obtain ⟨wA, hwA⟩ : ∃ wA, wA = w.drew.alloc (.cells ROW.toArray 39) := ⟨_, rfl⟩
  rw [← hwA] at hrz
  simp only [hkk] at hrz
  have hbA : Below B w wA := by rw [hwA]; exact bel_al hB _
  have HA : wA.heap[w.heap.size]? = some (.cells ROW.toArray 39 (0, 0)) := by rw [hwA]; exact al_new _ _ _
  have hold2 : ∀ q, q < w.heap.size → wA.heap[q]? = w.heap[q]? := fun q hq => by rw [hwA]; exact al_old _ _ _ hq
  clear hwA hRA hROW hold hXl
  have hcl : r.cells.length = 7 := rfl
  have hVA : ∀ j u, r.cells[j]? = some u → wA.cell? ((⟨vb, 0, none⟩ : Addr).add j) = some u := fun j u hj => by
    have e : wA.cell? ((⟨vb, 0, none⟩ : Addr).add j) = w.cell? ((⟨vb, 0, none⟩ : Addr).add j) := by rw [Addr.add_lit]; exact World.cell?_of_block (hold2 vb hvw)
    rw [e]; exact hv j u hj
  have hrunA := fun ty => run_copy_K (P := Tryz.prog) wA 28 28 ty 39 w.heap.size (i * 7) (ys.length + 1 - i) (G - i) ⟨vb, 0, none⟩ 1 1 ROW.toArray 39 r.cells 7 1 Tryz.underlying28 sizeTb HA (by simp only [Nat.min_def]; split <;> omega) (by rw [hcl]) hVA (by rw [List.size_toArray, hRl, hcl]; omega) (by simp [TbR.cells, Value.oneCell'])
  obtain ⟨L2, hL2⟩ : ∃ L2, L2 = splice ROW (i * 7) r.cells := ⟨_, rfl⟩
  have hL2l : L2.length = G * 7 := by rw [hL2, length_splice _ _ _ (by rw [hRl, hcl]; omega), hRl]
  obtain ⟨wB, hwB⟩ : ∃ wB, wB = wA.setRow w.heap.size (splice ROW.toArray.toList (i * 7) r.cells).toArray := ⟨_, rfl⟩
  simp only [← hwB] at hrunA
  have hbB : Below B w wB := by rw [hwB]; exact below_setRow hbA hB _
  have HBk : Hid (wB.heap[w.heap.size]? = some (.cells L2.toArray 39 (0, 0))) := hide (by rw [hwB, hL2]; exact setRow_heap wA w.heap.size _ _ 39 _ HA)
  obtain ⟨D, hD⟩ : ∃ D, D = flatTb (ys.drop i) := ⟨_, rfl⟩
  have hDl : D.length = (ys.length - i) * 7 := by rw [hD, flatTb_len, List.length_drop]
  have HD1 : Hid (∀ u ∈ D, u.oneCell' = true) := hide (by rw [hD]; exact oneTb _)
  have HDs : Hid (∀ j u, D[j]? = some u → wB.cell? ((⟨g, i * 7, none⟩ : Addr).add j) = some u) := hide (fun j u hj => by
    have e : wB.cell? ⟨g, i * 7 + j, none⟩ = w.cell? ⟨g, i * 7 + j, none⟩ := World.cell?_of_block (by rw [hwB, setRow_other wA w.heap.size g _ (by omega)]; exact hold2 g hgw)
    rw [Addr.add_lit, e]
    rw [hD, ← flatTb_drop ys i hin, List.getElem?_drop] at hj
    exact hcell _ u hj)
  have HLen : Hid ((ys.take i ++ r :: ys.drop i).length = ys.length + 1) := hide (by rw [List.length_append, List.length_cons, List.length_take, List.length_drop]; omega)
  have HF : Hid ((splice L2 ((i + 1) * 7) D).take ((ys.length + 1) * 7) = flatTb (ys.take i ++ r :: ys.drop i)) := hide (by
    have e := splice_grow ROW D r.cells (i * 7) ((ys.length - i) * 7) hDl rfl (by omega)
    rw [flatTb_ins, ← hD, ← hX, ← hRX, ← e, hL2, show (i + 1) * 7 = i * 7 + 7 by omega, show (ys.length + 1) * 7 = i * 7 + 7 + (ys.length - i) * 7 by omega])
  have HDl := hide hDl
  have HL2l := hide hL2l
  have hGi : ¬ (G = i) := by omega
  have hGim : ¬ (G = i + 1) := by omega
  have hci : ¬ (cap = i) := by omega
  unfold maxLen at hGm
  clear hVA hcell hv hblk HA hwB hold2 hD hL2 hDl hL2l hX hRX hRl hG htk hcs
  go_enter Tryz.func74, Tryz.ntmps74
  go_wp2_with (first
    | (at_builtin; refine Lib.wpList_append_run _ rfl _ _ _ _ rfl _ _ rfl rfl _ _ (hrz _) ?_)
    | (simp only [hrunA]))
  go_region_law (go_loud (refine step_copy_K rfl (.tmp 50) (.tmp 53) 28 28 rfl 39 7 (ys.length - i) Tryz.underlying28 sizeTb (ys.length - i) (G - (i + 1)) (ys.length - i) (cap - i) w.heap.size ((i + 1) * 7) ⟨g, i * 7, none⟩ (by simp [Act.eval, Act.put]) (by simp [Act.eval, Act.put]) L2 39 (by exact unhide HBk) D (by simp only [Nat.min_def]; split <;> omega) (unhide HDl) (by exact unhide HDs) (by rw [unhide HDl, unhide HL2l]; omega) (unhide HD1) B w (hbB.trans ⟨rfl, rfl, rfl, Nat.le_refl _, fun _ _ => rfl⟩) hB ?_); intro w3 hg3 hb3)
  all_goals
    go_wp2
    go_ret
    refine ⟨_, rfl, ?_, hb3⟩
    unfold OwnTb
    rw [unhide HLen]
    refine ⟨by rw [flatTb_len, unhide HLen], Or.inr ⟨w.heap.size, G, (splice L2 ((i + 1) * 7) D).toArray, rfl, hB, (unhide hg3).1, hGn, by unfold maxLen; omega, ?_, ?_⟩⟩
    · rw [List.size_toArray, length_splice _ _ _ (by rw [unhide HL2l, unhide HDl]; omega), unhide HL2l]
    · exact unhide HF

end Go.Proofs.YtbockbdlojkpiaaGreat
/- Proved here: a row put in its place, in the program. -/
namespace Go.Proofs.YtbockbdlojkpiaaGreat
open Go.ChangeShapes Go.WideShapes Go.ChangeAt Go.RowKit
set_option linter.unusedVariables false

theorem new_at (w : World) (o : Obj) : (w.alloc o).heap[w.heap.size]? = some o := by
  show (w.heap.push _)[w.heap.size]? = _
  simp
theorem insR_some {r : TbR} {zs : List TbR} {k : Nat} (h : zs.findIdx? (aheadR r) = some k) : k < zs.length ∧ insR r zs = zs.take k ++ r :: zs.drop k := by
  induction zs generalizing k with
  | nil => simp at h
  | cons x xs ih =>
    rw [List.findIdx?_cons] at h
    cases ha : aheadR r x
    · simp [ha] at h
      obtain ⟨k', h', rfl⟩ := h
      obtain ⟨h1, h2⟩ := ih h'
      refine ⟨by simp; omega, ?_⟩
      simp [insR, ha, h2]
    · simp [ha] at h
      subst h
      simp [insR, ha]
theorem insR_none {r : TbR} {zs : List TbR} (h : zs.findIdx? (aheadR r) = none) : insR r zs = zs ++ [r] := by
  induction zs with
  | nil => rfl
  | cons x xs ih =>
    rw [List.findIdx?_cons] at h
    cases ha : aheadR r x
    · simp [ha] at h
      simp [insR, ha]
      exact ih (by rw [List.findIdx?_eq_none_iff]; simpa using h)
    · simp [ha] at h
theorem ins_any (r : TbR) (ys : List TbR) (i : Nat) (a : Option Addr) (cap B vb : Nat) (w : World) (hO : OwnTb w B (.slice a ys.length cap) ys) (hi : i ≤ ys.length) (hl : ys.length ≤ 1048576) (hB : B ≤ w.heap.size) (hvb : w.heap[vb]? = some (.cells #[.int .i64 r.ky, .int .i64 r.st, .int .i64 r.en, .int .i64 r.n, .int .i64 r.su, .int .i64 r.le, .int .i64 r.mo] 39 (0, 0))) (hne : ∀ q, (Value.slice a ys.length cap).ownBlock = some q → vb ≠ q) : Calls Tryz.prog 74 #[.slice a ys.length cap, .int .i64 i, .slice (some ⟨vb, 0, none⟩) 1 1] w fun e w' => ∃ v', e = .returned v' ∧ OwnTb w' B v' (ys.take i ++ r :: ys.drop i) ∧ Below B w w' := by
  have hvw : vb < w.heap.size := by rcases Array.getElem?_eq_some_iff.1 hvb with ⟨h, _⟩; exact h
  have hv : ∀ j u, r.cells[j]? = some u → w.cell? ((⟨vb, 0, none⟩ : Addr).add j) = some u := fun j u hj => by
    rw [Addr.add_lit, Nat.zero_add, Joins.cell_of_block hvb]
    exact (List.getElem?_toArray ..).trans hj
  by_cases hin : i = ys.length
  · subst hin
    rw [List.take_length, List.drop_length]
    have hnc : ys.length ≤ cap := by
      obtain ⟨_, ⟨e, h0⟩ | ⟨g, c, cur, e, _, _, h1, _⟩⟩ := hO
      · omega
      · injection e with _ _ e3
        omega
    exact ins_end r ys a cap B vb w hO hnc hl hB hv
  · obtain ⟨_, ⟨e, h0⟩ | ⟨g, c, cur, e, hBg, hblk, hnc, hcm, hsz, htk⟩⟩ := hO
    · omega
    · injection e with e1 _ e3
      subst e1 e3
      by_cases hr : ys.length + 1 ≤ cap
      · exact ins_room r ys i g cap B vb cur w (by omega) hr hcm hblk hsz htk hBg hl (hne g rfl) (by simp [World.shape?, hvb]) (by simp [World.frozen?, hvb]) (by simp [World.frozen?, hvb]) hv
      · exact ins_grow r ys i g cap B vb cur w (by omega) hnc (by omega) hblk htk hsz hB hl hvw hv

set_option maxRecDepth 20000 in
set_option maxHeartbeats 1000000 in
theorem implput_any (r : TbR) (a : Option Addr) (len cap : Nat) (xs : List TbR) (w : World) (h : TbRs w a len xs) (hl : len ≤ 1048576) : Calls Tryz.prog 64 #[.slice a len cap, .agg #[.int .i64 r.ky, .int .i64 r.st, .int .i64 r.en, .int .i64 r.n, .int .i64 r.su, .int .i64 r.le, .int .i64 r.mo]] w fun e w' => ∃ v, e = .returned v ∧ OwnTb w' w.heap.size v (insR r (kpTb r.ky r.st r.en xs)) ∧ Below w.heap.size w w' := by
  have hkl := Nat.le_trans (kpTb_le r.ky r.st r.en xs) (Nat.le_of_eq h.1)
  go_enter Tryz.func64, Tryz.ntmps64
  go_wp2_with fail
  refine (implTabOut_any a len cap xs r.ky r.st r.en _ (h.below (bel_one _ _)) (by omega)).mono ?_
  rintro e' wa ⟨va, rfl, hOa, hba⟩
  generalize hZ : kpTb r.ky r.st r.en xs = zs at hkl hOa
  have HZ := hide hZ
  clear hZ
  have hbA : Below w.heap.size w wa := bel_trans (bel_one _ _) hba
  have hOa' : OwnTb wa (w.heap.size + 1) va zs := by simpa using hOa
  obtain ⟨al, capl, rfl, HL0, _, gel⟩ := holdTb hOa' (by omega)
  have hb1 : Below (w.heap.size + 1) (w.alloc (.cells #[.int .i64 r.ky, .int .i64 r.st, .int .i64 r.en, .int .i64 r.n, .int .i64 r.su, .int .i64 r.le, .int .i64 r.mo] 39)) wa := by simpa using hba
  have hsa : w.heap.size + 1 ≤ wa.heap.size := by have := hb1.size; simpa using this
  have C0 : wa.cell? ⟨w.heap.size, 0, none⟩ = some (.int .i64 r.ky) := (hb1.cell (p := ⟨w.heap.size, 0, none⟩) (by simp)).trans (by simp [go_sem])
  have C1 : wa.cell? ⟨w.heap.size, 1, none⟩ = some (.int .i64 r.st) := (hb1.cell (p := ⟨w.heap.size, 1, none⟩) (by simp)).trans (by simp [go_sem])
  have C2 : wa.cell? ⟨w.heap.size, 2, none⟩ = some (.int .i64 r.en) := (hb1.cell (p := ⟨w.heap.size, 2, none⟩) (by simp)).trans (by simp [go_sem])
  have C3 : wa.cell? ⟨w.heap.size, 3, none⟩ = some (.int .i64 r.n) := (hb1.cell (p := ⟨w.heap.size, 3, none⟩) (by simp)).trans (by simp [go_sem])
  have C4 : wa.cell? ⟨w.heap.size, 4, none⟩ = some (.int .i64 r.su) := (hb1.cell (p := ⟨w.heap.size, 4, none⟩) (by simp)).trans (by simp [go_sem])
  have C5 : wa.cell? ⟨w.heap.size, 5, none⟩ = some (.int .i64 r.le) := (hb1.cell (p := ⟨w.heap.size, 5, none⟩) (by simp)).trans (by simp [go_sem])
  have C6 : wa.cell? ⟨w.heap.size, 6, none⟩ = some (.int .i64 r.mo) := (hb1.cell (p := ⟨w.heap.size, 6, none⟩) (by simp)).trans (by simp [go_sem])
  go_wp2_with fail
  refine (idx_any r al zs.length capl zs _ HL0 (by omega)).mono ?_
  rintro e wx ⟨rfl, hbx⟩
  have hbx1 : Below (w.heap.size + 1) (w.alloc (.cells #[.int .i64 r.ky, .int .i64 r.st, .int .i64 r.en, .int .i64 r.n, .int .i64 r.su, .int .i64 r.le, .int .i64 r.mo] 39)) wx := hb1.trans (hbx.mono hsa)
  have hsx : w.heap.size + 1 ≤ wx.heap.size := Nat.le_trans hsa hbx.size
  have D0 : wx.cell? ⟨w.heap.size, 0, none⟩ = some (.int .i64 r.ky) := (hbx1.cell (p := ⟨w.heap.size, 0, none⟩) (by simp)).trans (by simp [go_sem])
  have D1 : wx.cell? ⟨w.heap.size, 1, none⟩ = some (.int .i64 r.st) := (hbx1.cell (p := ⟨w.heap.size, 1, none⟩) (by simp)).trans (by simp [go_sem])
  have D2 : wx.cell? ⟨w.heap.size, 2, none⟩ = some (.int .i64 r.en) := (hbx1.cell (p := ⟨w.heap.size, 2, none⟩) (by simp)).trans (by simp [go_sem])
  have D3 : wx.cell? ⟨w.heap.size, 3, none⟩ = some (.int .i64 r.n) := (hbx1.cell (p := ⟨w.heap.size, 3, none⟩) (by simp)).trans (by simp [go_sem])
  have D4 : wx.cell? ⟨w.heap.size, 4, none⟩ = some (.int .i64 r.su) := (hbx1.cell (p := ⟨w.heap.size, 4, none⟩) (by simp)).trans (by simp [go_sem])
  have D5 : wx.cell? ⟨w.heap.size, 5, none⟩ = some (.int .i64 r.le) := (hbx1.cell (p := ⟨w.heap.size, 5, none⟩) (by simp)).trans (by simp [go_sem])
  have D6 : wx.cell? ⟨w.heap.size, 6, none⟩ = some (.int .i64 r.mo) := (hbx1.cell (p := ⟨w.heap.size, 6, none⟩) (by simp)).trans (by simp [go_sem])
  have HO := hide (ownBel hOa' hbx)
  have hneb : ∀ q, (Value.slice al zs.length capl).ownBlock = some q → wx.heap.size ≠ q := fun q hq => by have := own_lt (unhide HO) q hq; omega
  clear C0 C1 C2 C3 C4 C5 C6 hOa hOa' HL0 gel hba
  cases hf : zs.findIdx? (aheadR r) with
  | none =>
    have hx : idxR r zs = -1 := by unfold idxR; rw [hf]
    have HI := hide (insR_none hf)
    rw [hx]
    clear hf hx
    go_wp2_with fail
    refine (ins_any r zs zs.length al capl (w.heap.size + 1) wx.heap.size _ (World.ownsRow.alloc (unhide HO) _) (by omega) (by omega) (by simp; omega) (new_at wx _) hneb).mono ?_
    rintro e wv ⟨vv, rfl, hOv, hbv⟩
    go_wp2
    go_ret
    refine ⟨_, rfl, ?_, bel_trans (bel_one _ _) (show Below _ (w.alloc (.cells #[.int .i64 r.ky, .int .i64 r.st, .int .i64 r.en, .int .i64 r.n, .int .i64 r.su, .int .i64 r.le, .int .i64 r.mo] 39)) wv from by have h9 := (hbx1.alloc hsx _).trans hbv; simpa using h9)⟩
    rw [unhide HZ, unhide HI]
    have e1 : zs.take zs.length ++ r :: zs.drop zs.length = zs ++ [r] := by rw [List.take_length, List.drop_length]
    rw [← e1]
    exact World.ownsRow.mono hOv (by omega)
  | some k =>
    have hx : idxR r zs = (k : Int) := by unfold idxR; rw [hf]
    have hks := (insR_some hf).1
    have HI := hide (insR_some hf).2
    have hk0 : ¬ ((k : Int) < 0) := by omega
    rw [hx]
    clear hf hx
    go_wp2_with fail
    refine (ins_any r zs k al capl (w.heap.size + 1) wx.heap.size _ (World.ownsRow.alloc (unhide HO) _) (by omega) (by omega) (by simp; omega) (new_at wx _) hneb).mono ?_
    rintro e wv ⟨vv, rfl, hOv, hbv⟩
    go_wp2
    go_ret
    refine ⟨_, rfl, ?_, bel_trans (bel_one _ _) (show Below _ (w.alloc (.cells #[.int .i64 r.ky, .int .i64 r.st, .int .i64 r.en, .int .i64 r.n, .int .i64 r.su, .int .i64 r.le, .int .i64 r.mo] 39)) wv from by have h9 := (hbx1.alloc hsx _).trans hbv; simpa using h9)⟩
    rw [unhide HZ, unhide HI]
    exact World.ownsRow.mono hOv (by omega)

end Go.Proofs.YtbockbdlojkpiaaGreat
/- Proved here: in a region whose order is drawn a load may be taken first where whoever writes its cell waits for it: a condition on the world that holds till the first of some operations ('spoilers') has come up. -/
namespace Go.Proofs.YtbockbdlojkpiaaGreat
open Go.ChangeShapes Go.WideShapes Go.ChangeAt Go.RowKit Go.Deep
set_option linter.unusedVariables false

section
variable {P : Program} {ops : Array Oper} {Q : Exit → Act → World → Prop} {md : Region.Mode} {S0 : World → Prop} {sp : List Nat}

/-- No spoiler has come up. -/
def unsp (sp : List Nat) (l : Array Bool) : Bool := sp.all fun s => !(l.getD s true)

/-- The condition, as long as no spoiler has come up. -/
def SL (sp : List Nat) (S0 : World → Prop) (l : Array Bool) (w : World) : Prop := unsp sp l = true → S0 w

theorem SL_of {l : Array Bool} {w : World} (h : unsp sp l = false) : SL sp S0 l w := fun h9 => by rw [h] at h9; cases h9

theorem unsp_set {l : Array Bool} {i : Nat} (h : i ∉ sp) : unsp sp (l.setIfInBounds i true) = unsp sp l := by
  unfold unsp
  induction sp with
  | nil => rfl
  | cons s sp ih =>
    simp only [List.all_cons]
    rw [ih (fun h9 => h (List.mem_cons_of_mem _ h9)), getD_set_ne true (fun e => h (by rw [e]; exact List.mem_cons_self))]

/-- All that those who have come up waited for has come up. -/
def Closed (md : Region.Mode) (ops : Array Oper) (l : Array Bool) : Prop := ∀ (s : Nat) (o : Oper), ops[s]? = some o → l.getD s false = true → ∀ e ∈ o.after, Region.binds md e = true → l.getD e.on false = true

def closedB (md : Region.Mode) (ops : Array Oper) (l : Array Bool) : Bool := (List.range ops.size).all fun s => !(l.getD s false) || (match ops[s]? with
  | none => true
  | some o => o.after.all fun e => !(Region.binds md e) || l.getD e.on false)

theorem closedB_spec {l : Array Bool} (h : closedB md ops l = true) : Closed md ops l := by
  intro s o ho hl e he hb
  have hs : s < ops.size := (Array.getElem?_eq_some_iff.1 ho).1
  have h1 := List.all_eq_true.1 h s (List.mem_range.2 hs)
  rw [hl, ho] at h1
  simp only [Bool.not_true, Bool.false_or] at h1
  have h2 := Array.all_eq_true_iff_forall_mem.1 h1 e he
  rw [hb] at h2
  simpa using h2

theorem Closed.set {l : Array Bool} {j : Nat} {oj : Oper} (h : Closed md ops l) (hj : ops[j]? = some oj) (hall : ∀ e ∈ oj.after, Region.binds md e = true → l.getD e.on false = true) : Closed md ops (l.setIfInBounds j true) := by
  intro s o ho hl e he hb
  by_cases hsj : j = s
  · subst hsj
    rw [hj] at ho
    cases ho
    exact getD_set_true (hall e he hb)
  · rw [getD_set_ne false hsj] at hl
    exact getD_set_true (h s o ho hl e he hb)

/-- Number s waits, through others, for number i. -/
def reach (md : Region.Mode) (ops : Array Oper) (i : Nat) : Nat → Nat → Bool
  | 0, s => s == i
  | f + 1, s => s == i || (match ops[s]? with
    | none => false
    | some o => o.after.any fun e => Region.binds md e && reach md ops i f e.on)

theorem reach_listed {l : Array Bool} {i : Nat} (h : Closed md ops l) : ∀ (f s : Nat), reach md ops i f s = true → l.getD s false = true → l.getD i false = true
  | 0, s, hr, hl => by
    have : s = i := by simpa [reach] using hr
    rw [← this]; exact hl
  | f + 1, s, hr, hl => by
    unfold reach at hr
    rw [Bool.or_eq_true] at hr
    rcases hr with hr | hr
    · have : s = i := by simpa using hr
      rw [← this]; exact hl
    · cases ho : ops[s]? with
      | none => rw [ho] at hr; cases hr
      | some o =>
        rw [ho] at hr
        obtain ⟨e, he, h2⟩ : ∃ e ∈ o.after, (Region.binds md e && reach md ops i f e.on) = true := by
          obtain ⟨k, hk, h8⟩ := Array.any_eq_true.1 hr
          exact ⟨_, Array.getElem_mem hk, h8⟩
        rw [Bool.and_eq_true] at h2
        exact reach_listed h f e.on h2.2 (h s o ho hl e he h2.1)

/-- All spoilers wait for number i, which is none. -/
def spWait (md : Region.Mode) (ops : Array Oper) (sp : List Nat) (i : Nat) : Bool := sp.all fun s => !(s == i) && decide (s < ops.size) && reach md ops i 8 s

theorem unl {l : Array Bool} {i : Nat} (h : l.getD i true = false) : l.getD i false = false := by
  rcases Nat.lt_or_ge i l.size with h' | h'
  · simp [h'] at h ⊢; exact h
  · simp [Array.getElem?_eq_none h'] at h

theorem spWait_un {l : Array Bool} {i : Nat} (hw : spWait md ops sp i = true) (hc : Closed md ops l) (hz : l.size = ops.size) (hi : l.getD i true = false) : unsp sp l = true := by
  unfold unsp
  rw [List.all_eq_true]
  intro s hs
  have h1 := List.all_eq_true.1 hw s hs
  simp only [Bool.and_eq_true, decide_eq_true_eq] at h1
  cases hl : l.getD s true with
  | false => rfl
  | true =>
    have hlf : l.getD s false = true := by
      have hs' : s < l.size := by omega
      simp [hs'] at hl ⊢; exact hl
    have := reach_listed hc 8 s h1.2 hlf
    rw [unl hi] at this
    cases this

theorem spWait_not {i : Nat} (hw : spWait md ops sp i = true) : i ∉ sp := fun h => by
  have h1 := List.all_eq_true.1 hw i h
  simp at h1

/-- Whatever order is picked from here on, and the condition holds behind every operation till a spoiler has come up. -/
def wpAnyP (P : Program) (md : Region.Mode) (ops : Array Oper) (Q : Exit → Act → World → Prop) (sp : List Nat) (S0 : World → Prop) : Nat → Array Bool → Act → World → Prop
  | 0, listed, a, w => Region.ready md ops listed = [] ∧ Q .normal a w
  | fuel + 1, listed, a, w => (Region.ready md ops listed = [] → Q .normal a w) ∧ ∀ i ∈ Region.ready md ops listed, wpOp P ops Q i (fun a' w' => SL sp S0 (listed.setIfInBounds i true) w' ∧ wpAnyP P md ops Q sp S0 fuel (listed.setIfInBounds i true) a' w') a w

theorem wpAny_of_P : ∀ (fuel : Nat) (listed : Array Bool) (a : Act) (w : World), wpAnyP P md ops Q sp S0 fuel listed a w → wpAny P md ops Q fuel listed a w
  | 0, _, _, _, h => h
  | fuel + 1, _, _, _, h => ⟨h.1, fun i hi => wpOp_mono (fun a' w' h' => wpAny_of_P fuel _ a' w' h'.2) (h.2 i hi)⟩

theorem wpAnyP_first {T : World → Prop} {i : Nat} {oi : Oper} {v : Value} (hi : ops[i]? = some oi) (hsel : ∀ (j : Nat) (o : Oper) cs b, ops[j]? = some o → o.op ≠ .select cs b) (hQ : ∀ c a w, Q (.panic c) (a.put oi.dst v) w → Q (.panic c) a w) (hisp : i ∉ sp) (hT : ∀ l w, Closed md ops l → l.size = ops.size → l.getD i true = false → SL sp S0 l w → T w) :
    ∀ (fuel : Nat) (listed : Array Bool) (a : Act) (w : World),
      (∀ j oj, ops[j]? = some oj → j ≠ i → listed.getD j true = false → (∀ e ∈ oj.after, Region.binds md e = true → e.on ≠ i) → oi.apart ops oj = true) →
      i ∈ Region.ready md ops listed → Closed md ops listed → listed.size = ops.size → YieldsIf P ops T oi v a → SL sp S0 listed w →
      wpAnyP P md ops Q sp S0 fuel (listed.setIfInBounds i true) (a.put oi.dst v) w → wpAnyP P md ops Q sp S0 (fuel + 1) listed a w := by
  intro fuel
  induction fuel with
  | zero =>
    intro listed a w _ hr hc hz hy hS H
    refine ⟨fun h => (by rw [h] at hr; cases hr), fun j hj => ?_⟩
    by_cases hji : j = i
    · subst hji
      exact hy.wpOp hi (hT listed w hc hz (mem_ready.1 hr).1 hS) ⟨fun h9 => hS (by rw [unsp_set hisp] at h9; exact h9), H⟩
    · have := ready_mono hj hji
      rw [H.1] at this
      cases this
  | succ fuel ih =>
    intro listed a w hfree hr hc hz hy hS H
    refine ⟨fun h => (by rw [h] at hr; cases hr), fun j hj => ?_⟩
    by_cases hji : j = i
    · subst hji
      exact hy.wpOp hi (hT listed w hc hz (mem_ready.1 hr).1 hS) ⟨fun h9 => hS (by rw [unsp_set hisp] at h9; exact h9), H⟩
    · have h1 := H.2 j (ready_mono hj hji)
      obtain ⟨hjun, oj, hoj, hall⟩ := mem_ready.1 hj
      have hnot : ∀ e ∈ oj.after, Region.binds md e = true → e.on ≠ i := fun e he hb heq => by
        have h1 := hall e he hb
        have h0 := (mem_ready.1 hr).1
        rw [heq, unl h0] at h1
        cases h1
      have h2 := wpOp_putIf hoj (hfree j oj hoj hji hjun hnot) (fun cs b => hsel i oi cs b hi) (fun cs b => hsel j oj cs b hoj) hQ hy h1
      have hfree' : ∀ k ok, ops[k]? = some ok → k ≠ i → (listed.setIfInBounds j true).getD k true = false →
          (∀ e ∈ ok.after, Region.binds md e = true → e.on ≠ i) → oi.apart ops ok = true := fun k ok hk hki hun hno => by
        refine hfree k ok hk hki ?_ hno
        by_cases hjk : j = k
        · subst hjk; exact hjun
        · rw [getD_set_ne true hjk] at hun; exact hun
      have hsame : ∀ w', SL sp S0 ((listed.setIfInBounds i true).setIfInBounds j true) w' → SL sp S0 (listed.setIfInBounds j true) w' := fun w' h9 h8 => h9 (by
        rw [Array.setIfInBounds_comm _ _ (Ne.symm hji), unsp_set hisp]; exact h8)
      refine wpOp_mono (fun a' w' h3 => ⟨hsame w' h3.2.1, ih (listed.setIfInBounds j true) a' w' hfree' (ready_mono hr (Ne.symm hji)) (hc.set hoj hall) (by simpa using hz) h3.1 (hsame w' h3.2.1) ?_⟩) h2
      rw [Array.setIfInBounds_comm _ _ hji]
      exact h3.2.2

/-- Taken first, by what holds till a spoiler has come up. -/
theorem wpAnyP_take {i : Nat} {oi : Oper} {v : Value} {fuel : Nat} {listed : Array Bool} {a : Act} {w : World} (hi : ops[i]? = some oi) (hs : Region.noSelect ops = true) (hf : Region.free md ops listed i = true) (hr : (Region.ready md ops listed).contains i = true) (hc : (closedB md ops listed && decide (listed.size = ops.size) && spWait md ops sp i) = true) (hQ : ∀ c a w, Q (.panic c) (a.put oi.dst v) w → Q (.panic c) a w) (hy : YieldsIf P ops S0 oi v a) (hS : S0 w)
    (h : wpAnyP P md ops Q sp S0 fuel (listed.setIfInBounds i true) (a.put oi.dst v) w) : wpAnyP P md ops Q sp S0 (fuel + 1) listed a w := by
  simp only [Bool.and_eq_true, decide_eq_true_eq] at hc
  exact wpAnyP_first hi (Region.noSelect_spec hs) hQ (spWait_not hc.2) (fun l w hcl hz hli hSL => hSL (spWait_un hc.2 hcl hz hli)) fuel listed a w (Region.free_spec hi hf) (by simpa using hr) (closedB_spec hc.1.1) hc.1.2 hy (fun _ => hS) h

/-- Taken first: it yields its value in whatever world. -/
theorem wpAnyP_take0 {i : Nat} {oi : Oper} {v : Value} {fuel : Nat} {listed : Array Bool} {a : Act} {w : World} (hi : ops[i]? = some oi) (hs : Region.noSelect ops = true) (hf : Region.free md ops listed i = true) (hr : (Region.ready md ops listed).contains i = true) (hc : (closedB md ops listed && decide (listed.size = ops.size) && !(sp.contains i)) = true) (hQ : ∀ c a w, Q (.panic c) (a.put oi.dst v) w → Q (.panic c) a w) (hy : YieldsIf P ops (fun _ => True) oi v a) (hS : SL sp S0 listed w)
    (h : wpAnyP P md ops Q sp S0 fuel (listed.setIfInBounds i true) (a.put oi.dst v) w) : wpAnyP P md ops Q sp S0 (fuel + 1) listed a w := by
  simp only [Bool.and_eq_true, decide_eq_true_eq, Bool.not_eq_true', ] at hc
  exact wpAnyP_first hi (Region.noSelect_spec hs) hQ (by simpa using hc.2) (fun _ _ _ _ _ _ => trivial) fuel listed a w (Region.free_spec hi hf) (by simpa using hr) (closedB_spec hc.1.1) hc.1.2 hy hS h

theorem wpAnyP_done {listed : Array Bool} {a : Act} {w : World} (hr : Region.ready md ops listed = []) (h : Q .normal a w) :
    ∀ fuel, wpAnyP P md ops Q sp S0 fuel listed a w
  | 0 => ⟨hr, h⟩
  | _ + 1 => ⟨fun _ => h, by rw [hr]; simp⟩

/-- Each of the operations comes up next. -/
def AllReadyP (P : Program) (md : Region.Mode) (ops : Array Oper) (Q : Exit → Act → World → Prop) (sp : List Nat) (S0 : World → Prop) (fuel : Nat) (listed : Array Bool) (a : Act) (w : World) (rs : List Nat) : Prop :=
  ∀ i ∈ rs, wpOp P ops Q i (fun a' w' => SL sp S0 (listed.setIfInBounds i true) w' ∧ wpAnyP P md ops Q sp S0 fuel (listed.setIfInBounds i true) a' w') a w

theorem AllReadyP.nil {fuel : Nat} {listed : Array Bool} {a : Act} {w : World} : AllReadyP P md ops Q sp S0 fuel listed a w [] := fun _ h => by cases h

theorem AllReadyP.cons {fuel : Nat} {listed : Array Bool} {a : Act} {w : World} {i : Nat} {o : Oper} {rs : List Nat} (ho : ops[i]? = some o)
    (h : ∀ K' : Act → World → Prop, Shut (∀ a w, S0 w → (S0 w → wpAnyP P md ops Q sp S0 fuel (listed.setIfInBounds i true) a w) → K' a w) → if Region.wanted o (yielded ops a.tmps) = true then Oper.wp P o a w K' Q else K' (a.put o.dst undef) w)
    (hs : AllReadyP P md ops Q sp S0 fuel listed a w rs) : AllReadyP P md ops Q sp S0 fuel listed a w (i :: rs) := fun j hj => by
  rcases List.mem_cons.1 hj with rfl | hj
  · exact wpOp_step ho (fun K' hK => h K' (fun a w hS hW => hK a w ⟨fun _ => hS, hW hS⟩))
  · exact hs j hj

/-- One that is a spoiler, or comes behind one. -/
theorem AllReadyP.consS {fuel : Nat} {listed : Array Bool} {a : Act} {w : World} {i : Nat} {o : Oper} {rs : List Nat} (ho : ops[i]? = some o) (hu : unsp sp (listed.setIfInBounds i true) = false)
    (h : ∀ K' : Act → World → Prop, Shut (∀ a w, wpAnyP P md ops Q sp S0 fuel (listed.setIfInBounds i true) a w → K' a w) → if Region.wanted o (yielded ops a.tmps) = true then Oper.wp P o a w K' Q else K' (a.put o.dst undef) w)
    (hs : AllReadyP P md ops Q sp S0 fuel listed a w rs) : AllReadyP P md ops Q sp S0 fuel listed a w (i :: rs) := fun j hj => by
  rcases List.mem_cons.1 hj with rfl | hj
  · exact wpOp_step ho (fun K' hK => h K' (fun a w hW => hK a w ⟨SL_of hu, hW⟩))
  · exact hs j hj

theorem wpAnyP_ready {rs : List Nat} {fuel : Nat} {listed : Array Bool} {a : Act} {w : World} (hr : Region.ready md ops listed = rs) (hne : rs ≠ [])
    (h : AllReadyP P md ops Q sp S0 fuel listed a w rs) : wpAnyP P md ops Q sp S0 (fuel + 1) listed a w := ⟨fun h0 => absurd (hr ▸ h0) hne, hr ▸ h⟩

theorem wp_region_P {id : Nat} {a : Act} {w : World} (sp : List Nat) (S0 : World → Prop) (hm : P.follows .mixedOrders = true) (hS : S0 w.drew)
    (h : S0 w.drew → wpAnyP P .any ops Q sp S0 ops.size (Array.replicate ops.size false) a w.drew) : (Code.region id ops true).wp P Q a w :=
  wp_region_any hm (wpAny_of_P _ _ _ _ (h hS))
end
end Go.Proofs.YtbockbdlojkpiaaGreat
