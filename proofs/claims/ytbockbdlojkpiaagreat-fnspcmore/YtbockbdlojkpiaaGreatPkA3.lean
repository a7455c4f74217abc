/- Laid together: texts that were built one by one. -/
import Derived.Test.YtbockbdlojkpiaaGreatPkA2
import Derived.Test.YtbockbdlojkpiaaGreatBoth
import Derived.BigQuiet
import Derived.Lib.SmallJoins
import Derived.Test.YtbockbdlojkpiaaGreatAgg
import Derived.Test.YtbockbdlojkpiaaGreatGenF
import Derived.Test.YtbockbdlojkpiaaGreatPkA1
import Derived.Test.YtbockbdlojkpiaaGreatBoth2
import Derived.OrdersIn
import Derived.Test.YtbockbdlojkpiaaGreatRegInv
import Derived.Test.YtbockbdlojkpiaaGreatWin
import Derived.Deep.Slices
import Derived.OwnWalk
import Derived.WalkSpells
import Derived.Deep.RegionHeld3
import Derived.Test.YtbockbdlojkpiaaGreatJob
import Derived.Deep.Onto
import Derived.Maps.Own
/- Proved here: a row is put among sessions, in the program: all that it touches become one. -/
namespace Go.Proofs.YtbockbdlojkpiaaGreat
open Go.ChangeShapes Go.WideShapes Go.ChangeAt Go.RowKit
set_option linter.unusedVariables false

set_option linter.unusedSimpArgs false
theorem touches_is {a b c d : Int} (w : World) {o : Bool} (h : Hid (touchB a b c d = o)) : Calls Tryz.prog 33 #[.agg #[.int .i64 a, .int .i64 b], .agg #[.int .i64 c, .int .i64 d]] w fun e w' => e = .returned (.bool o) ∧ Below w.heap.size w w' := by
  have h9 := touches_any a b c d w
  rw [unhide h] at h9
  exact h9
theorem span_is {a b c d x y : Int} (w : World) (h : Hid (loI a c = x ∧ hiI b d = y)) : Calls Tryz.prog 63 #[.agg #[.int .i64 a, .int .i64 b], .agg #[.int .i64 c, .int .i64 d]] w fun e w' => e = .returned (.agg #[.int .i64 x, .int .i64 y]) ∧ Below w.heap.size w w' := by
  have h9 := span_any a b c d w
  rw [(unhide h).1, (unhide h).2] at h9
  exact h9
theorem both_is {n s l m n' s' l' m' x y u v : Int} (w : World) (h : Hid (bothF (n, s, l, m) n' s' l' m' = (x, y, u, v))) : Calls Tryz.prog 56 #[.agg #[.int .i64 n, .int .i64 s, .int .i64 l, .int .i64 m], .agg #[.int .i64 n', .int .i64 s', .int .i64 l', .int .i64 m']] w fun e w' => e = .returned (.agg #[.int .i64 x, .int .i64 y, .int .i64 u, .int .i64 v]) ∧ Below w.heap.size w w' := by
  have h9 := both_any n s l m n' s' l' m' w
  have h8 := unhide h
  simp only [bothF, Prod.mk.injEq] at h8
  obtain ⟨rfl, rfl, rfl, rfl⟩ := h8
  exact h9
set_option maxRecDepth 20000 in
set_option maxHeartbeats 8000000 in
theorem seswith_any (ky st en n su le mo : Int) (ar : Option Addr) (len cap : Nat) (rows : List TbR) (w : World) (h : TbRs w ar len rows) (hl : len ≤ 1000000) : Calls Tryz.prog 43 #[.slice ar len cap, .agg #[.int .i64 ky, .int .i64 st, .int .i64 en, .int .i64 n, .int .i64 su, .int .i64 le, .int .i64 mo]] w fun e w' => ∃ v, e = .returned v ∧ OwnTb w' w.heap.size v (sesPut ky st en (n, su, le, mo) rows) ∧ Below w.heap.size w w' := by
  obtain ⟨i0, hi, hz0', hz1', hz2'⟩ := info_parts Tryz.infoTb
  have hlen := h.1
  have hm := h.2.1
  unfold maxLen at hm
  go_enter Tryz.func43, Tryz.ntmps43
  go_wp2
  go_loopw [6, 12] (fun lv iv wr => ∃ (i : Nat) (q : Ses), i ≤ len ∧ iv = .int .i64 i ∧ Hid (sesAll ky st en (n, su, le, mo) (rows.take i) = q) ∧ Hid (wr.heap[w.heap.size]? = some (.cells #[.int .i64 ky, .int .i64 st, .int .i64 en, .int .i64 n, .int .i64 su, .int .i64 le, .int .i64 mo] 39 (0, 0))) ∧ Hid (wr.heap[w.heap.size + 1]? = some (.cells #[.int .i64 ky, .int .i64 q.a, .int .i64 q.b, .int .i64 q.g.1, .int .i64 q.g.2.1, .int .i64 q.g.2.2.1, .int .i64 q.g.2.2.2] 39 (0, 0))) ∧ Hid (OwnTb wr (w.heap.size + 1 + 1) lv q.l) ∧ Below w.heap.size w wr) (fun _ iv _ => len - (intOf iv).toNat)
  case atStart =>
    refine ⟨0, ⟨st, en, (n, su, le, mo), []⟩, Nat.zero_le _, rfl, hide rfl, hide ?_, hide ?_, hide (World.ownsRow_nil _ _ _ _), bel_alloc (bel_one _ _) _⟩
    · rw [Below.heap_alloc _ _ _ (by simp)]
      exact World.alloc_heap_new w _
    · have h9 := World.alloc_heap_new (w.alloc (.cells #[.int .i64 ky, .int .i64 st, .int .i64 en, .int .i64 n, .int .i64 su, .int .i64 le, .int .i64 mo] 39)) (.cells #[.int .i64 ky, .int .i64 st, .int .i64 en, .int .i64 n, .int .i64 su, .int .i64 le, .int .i64 mo] 39)
      rw [World.size_alloc] at h9
      exact h9
  case round =>
    obtain ⟨i, q, hil, rfl, HQ, HR, HOn, HO, hbw⟩ := hrel
    have zr : w.heap.size + 1 < wr.heap.size := (Array.getElem?_eq_some_iff.1 (unhide HOn)).1
    have zw : w.heap.size < wr.heap.size := by omega
    have hql : q.l.length ≤ i := by rw [← unhide HQ]; refine Nat.le_trans (sesAll_len _ _ _ _ _) ?_; rw [List.length_take]; omega
    by_cases hlt : i < len
    · obtain ⟨_, _, hy⟩ := h
      obtain ⟨g, o, rfl, hr⟩ := hy.resolve_left (by omega)
      obtain ⟨x, hxk⟩ : ∃ x, rows[i]? = some x := ⟨_, List.getElem?_eq_getElem (by omega)⟩
      have hgw : g < w.heap.size := hr.lt (by omega)
      obtain ⟨c0, c1, c2, c3, c4, c5, c6⟩ := (hr i _ hxk).below hbw hgw
      have HS := hide (sesAll_snoc (k := ky) (a := st) (b := en) (g := (n, su, le, mo)) hxk)
      rw [unhide HQ] at HS
      clear hr hy hxk
      obtain ⟨oky, ost, oen, on, osu, ole, omo⟩ := x
      dsimp only at c0 c1 c2 c3 c4 c5 c6
      have hgr : g < wr.heap.size := by omega
      have hbo : Below wr.heap.size wr (wr.alloc (.cells #[.int .i64 oky, .int .i64 ost, .int .i64 oen, .int .i64 on, .int .i64 osu, .int .i64 ole, .int .i64 omo] 39)) := bel_one _ _
      have bQ : (wr.alloc (.cells #[.int .i64 oky, .int .i64 ost, .int .i64 oen, .int .i64 on, .int .i64 osu, .int .i64 ole, .int .i64 omo] 39)).heap[wr.heap.size]? = some (.cells #[.int .i64 oky, .int .i64 ost, .int .i64 oen, .int .i64 on, .int .i64 osu, .int .i64 ole, .int .i64 omo] 39 (0, 0)) := World.alloc_heap_new wr _
      have bR : (wr.alloc (.cells #[.int .i64 oky, .int .i64 ost, .int .i64 oen, .int .i64 on, .int .i64 osu, .int .i64 ole, .int .i64 omo] 39)).heap[w.heap.size]? = some (.cells #[.int .i64 ky, .int .i64 st, .int .i64 en, .int .i64 n, .int .i64 su, .int .i64 le, .int .i64 mo] 39 (0, 0)) := (Below.heap_alloc _ _ _ (by omega)).trans (unhide HR)
      have bO : (wr.alloc (.cells #[.int .i64 oky, .int .i64 ost, .int .i64 oen, .int .i64 on, .int .i64 osu, .int .i64 ole, .int .i64 omo] 39)).heap[w.heap.size + 1]? = some (.cells #[.int .i64 ky, .int .i64 q.a, .int .i64 q.b, .int .i64 q.g.1, .int .i64 q.g.2.1, .int .i64 q.g.2.2.1, .int .i64 q.g.2.2.2] 39 (0, 0)) := (Below.heap_alloc _ _ _ zr).trans (unhide HOn)
      have r0 : wr.cell? ⟨w.heap.size, 0, none⟩ = some (.int .i64 ky) := Joins.cell_of_block (unhide HR) 0
      have r1 : wr.cell? ⟨w.heap.size, 1, none⟩ = some (.int .i64 st) := Joins.cell_of_block (unhide HR) 1
      have r2 : wr.cell? ⟨w.heap.size, 2, none⟩ = some (.int .i64 en) := Joins.cell_of_block (unhide HR) 2
      have r3 : wr.cell? ⟨w.heap.size, 3, none⟩ = some (.int .i64 n) := Joins.cell_of_block (unhide HR) 3
      have r4 : wr.cell? ⟨w.heap.size, 4, none⟩ = some (.int .i64 su) := Joins.cell_of_block (unhide HR) 4
      have r5 : wr.cell? ⟨w.heap.size, 5, none⟩ = some (.int .i64 le) := Joins.cell_of_block (unhide HR) 5
      have r6 : wr.cell? ⟨w.heap.size, 6, none⟩ = some (.int .i64 mo) := Joins.cell_of_block (unhide HR) 6
      by_cases hk : oky = ky
      · have hk1 : (oky == ky) = true := by simp [hk]
        cases hT : touchB ost oen st en
        · have HTB := hide hT
          have HN := hide (sesStep_no (k := ky) (a := st) (b := en) (q := q) (r := ⟨oky, ost, oen, on, osu, ole, omo⟩) (fun h9 => by rw [show touchB ost oen st en = true from h9.2] at hT; cases hT))
          clear hk hT
          go_wp2_with fail
          refine (touches_is _ HTB).mono ?_
          rintro e9 wq ⟨rfl, hbt⟩
          have zq : wr.heap.size < wq.heap.size := by have := hbt.size; simp at this; omega
          have bRq := (hbt.block w.heap.size (by simp; omega)).trans bR
          have bOq := (hbt.block (w.heap.size + 1) (by simp; omega)).trans bO
          have bQq := (hbt.block wr.heap.size (by simp)).trans bQ
          have HOa := hide (ownTb_bel (unhide HO) (bel_trans hbo hbt))
          have hbFq : Below w.heap.size w wq := bel_trans (bel_alloc hbw _) hbt
          have d0 : wq.cell? ⟨wr.heap.size, 0, none⟩ = some (.int .i64 oky) := Joins.cell_of_block bQq 0
          have d1 : wq.cell? ⟨wr.heap.size, 1, none⟩ = some (.int .i64 ost) := Joins.cell_of_block bQq 1
          have d2 : wq.cell? ⟨wr.heap.size, 2, none⟩ = some (.int .i64 oen) := Joins.cell_of_block bQq 2
          have d3 : wq.cell? ⟨wr.heap.size, 3, none⟩ = some (.int .i64 on) := Joins.cell_of_block bQq 3
          have d4 : wq.cell? ⟨wr.heap.size, 4, none⟩ = some (.int .i64 osu) := Joins.cell_of_block bQq 4
          have d5 : wq.cell? ⟨wr.heap.size, 5, none⟩ = some (.int .i64 ole) := Joins.cell_of_block bQq 5
          have d6 : wq.cell? ⟨wr.heap.size, 6, none⟩ = some (.int .i64 omo) := Joins.cell_of_block bQq 6
          clear bO bQ bR hbt HTB c0 c1 c2 c3 c4 c5 c6 r0 r1 r2 r3 r4 r5 r6 HO HR HOn hbo bQq
          have hge := hide (fun b (hb : u6.ownBlock = some b) => (World.ownsRow.lt (unhide HOa) b hb).1)
          go_wp2_with (at_builtin; go_loud (refine wpList_append_own _ rfl _ _ 28 rfl (w.heap.size + 1 + 1) 39 i0 _ 7 56 Tryz.underlying28 hi hz0' hz1' hz2' rfl (by decide) u6 _ _ rfl (World.ownsRow.alloc (unhide HOa) _) ⟨wq.heap.size, 0, none⟩ 1 1 [.int .i64 oky, .int .i64 ost, .int .i64 oen, .int .i64 on, .int .i64 osu, .int .i64 ole, .int .i64 omo] rfl rfl (cells_newTb wq oky ost oen on osu ole omo _) (by simp [Value.oneCell']) (by unfold maxLen; omega) (by omega) (by simp; omega) ?_); intro v' w5 hown hgrow hnn)
          have hb5 : Below (w.heap.size + 1 + 1) wq w5 := ((Below.refl _ wq).alloc (by omega) _).grown hgrow (by simp; omega) (unhide hge)
          have O5 := ownTb_snoc (x := ⟨oky, ost, oen, on, osu, ole, omo⟩) hown
          refine ⟨⟨i + 1, ⟨q.a, q.b, q.g, q.l ++ [⟨oky, ost, oen, on, osu, ole, omo⟩]⟩, by omega, by go_num, hide (by rw [unhide HS]; exact unhide HN), hide ((hb5.block w.heap.size (by omega)).trans bRq), hide ((hb5.block (w.heap.size + 1) (by omega)).trans bOq), hide O5, hbFq.trans (hb5.mono (by omega))⟩, ?_⟩
          simp [intOf]; omega
        · have HTB := hide hT
          have HN := hide (sesStep_yes (k := ky) (a := st) (b := en) (q := q) (r := ⟨oky, ost, oen, on, osu, ole, omo⟩) hk hT)
          clear hk hT
          go_wp2_with fail
          refine (touches_is _ HTB).mono ?_
          rintro e9 wt ⟨rfl, hbt⟩
          have zt : wr.heap.size < wt.heap.size := by have := hbt.size; simp at this; omega
          have bO1 : wt.drew.heap[w.heap.size + 1]? = some (.cells #[.int .i64 ky, .int .i64 q.a, .int .i64 q.b, .int .i64 q.g.1, .int .i64 q.g.2.1, .int .i64 q.g.2.2.1, .int .i64 q.g.2.2.2] 39 (0, 0)) := (hbt.block (w.heap.size + 1) (by simp; omega)).trans bO
          have bQ1 : wt.drew.heap[wr.heap.size]? = some (.cells #[.int .i64 oky, .int .i64 ost, .int .i64 oen, .int .i64 on, .int .i64 osu, .int .i64 ole, .int .i64 omo] 39 (0, 0)) := (hbt.block wr.heap.size (by simp)).trans bQ
          have bR1 : wt.drew.heap[w.heap.size]? = some (.cells #[.int .i64 ky, .int .i64 st, .int .i64 en, .int .i64 n, .int .i64 su, .int .i64 le, .int .i64 mo] 39 (0, 0)) := (hbt.block w.heap.size (by simp; omega)).trans bR
          have zO1 : w.heap.size + 1 < wt.drew.heap.size := by show w.heap.size + 1 < wt.heap.size; omega
          have zQ1 : wr.heap.size < wt.drew.heap.size := zt
          obtain ⟨xa, xb, hsp⟩ : ∃ xa xb, loI q.a ost = xa ∧ hiI q.b oen = xb := ⟨_, _, rfl, rfl⟩
          obtain ⟨ya, yb, yc, yd, hbo9⟩ : ∃ ya yb yc yd, bothF (q.g.1, q.g.2.1, q.g.2.2.1, q.g.2.2.2) on osu ole omo = (ya, yb, yc, yd) := ⟨_, _, _, _, rfl⟩
          have HSP := hide hsp
          have HBO := hide hbo9
          have HQ2 : Hid (sesStep ky st en q ⟨oky, ost, oen, on, osu, ole, omo⟩ = ⟨xa, xb, (ya, yb, yc, yd), q.l⟩) := hide (by rw [unhide HN]; show (⟨loI q.a ost, hiI q.b oen, bothF q.g on osu ole omo, q.l⟩ : Ses) = _; rw [hsp.1, hsp.2]; congr 1)
          have HO1 := hide (ownTb_bel (unhide HO) (bel_trans (bel_trans hbo hbt) (bel_drew (Below.refl _ _))))
          have hbF1 : Below w.heap.size w wt.drew := bel_drew (bel_trans (bel_alloc hbw _) hbt)
          clear hsp hbo9 HN bO bQ bR hbt HTB c0 c1 c2 c3 c4 c5 c6 r0 r1 r2 r3 r4 r5 r6 HO HR HOn hbo
          go_wp2_with fail
          refine wp_region_P [11, 13] (fun W => W.heap[w.heap.size + 1]? = some (.cells #[.int .i64 ky, .int .i64 q.a, .int .i64 q.b, .int .i64 q.g.1, .int .i64 q.g.2.1, .int .i64 q.g.2.2.1, .int .i64 q.g.2.2.2] 39 (0, 0)) ∧ W.heap[wr.heap.size]? = some (.cells #[.int .i64 oky, .int .i64 ost, .int .i64 oen, .int .i64 on, .int .i64 osu, .int .i64 ole, .int .i64 omo] 39 (0, 0))) (by kernel_rfl) ?_ (fun hHeld => ?_)
          · (try dsimp only); first | exact ⟨bO1, bQ1⟩ | exact ⟨bO2, bQ2⟩ | exact ⟨bO3, bQ3⟩
          refine wpAnyP_take (i := 0) (v := ?_) (by simp only [List.getElem?_toArray, List.getElem?_cons_zero, List.getElem?_cons_succ]; rfl) (by kernel_rfl) (by kernel_rfl) (by kernel_rfl) (by kernel_rfl) (by intro _ _ _ h; exact h) (Or.inl ⟨by rfl, ?_⟩) (by assumption) ?_
          rotate_left
          · (intro w9 hSw; (try dsimp only at hSw); obtain ⟨s0, s1⟩ := hSw; go_simp <;> with_reducible rfl)
          try simp only [Act.put, List.setIfInBounds_toArray, List.set_cons_zero, List.set_cons_succ]
          refine wpAnyP_take (i := 1) (v := ?_) (by simp only [List.getElem?_toArray, List.getElem?_cons_zero, List.getElem?_cons_succ]; rfl) (by kernel_rfl) (by kernel_rfl) (by kernel_rfl) (by kernel_rfl) (by intro _ _ _ h; exact h) (Or.inl ⟨by rfl, ?_⟩) (by assumption) ?_
          rotate_left
          · (intro w9 hSw; (try dsimp only at hSw); obtain ⟨s0, s1⟩ := hSw; have g0x0 : w9.cell? ⟨w.heap.size + 1, 0, none⟩ = some (.int .i64 ky) := Joins.cell_of_block s0 0; have g0x1 : w9.cell? ⟨w.heap.size + 1, 1, none⟩ = some (.int .i64 q.a) := Joins.cell_of_block s0 1; have g0x2 : w9.cell? ⟨w.heap.size + 1, 2, none⟩ = some (.int .i64 q.b) := Joins.cell_of_block s0 2; have g0x3 : w9.cell? ⟨w.heap.size + 1, 3, none⟩ = some (.int .i64 q.g.1) := Joins.cell_of_block s0 3; have g0x4 : w9.cell? ⟨w.heap.size + 1, 4, none⟩ = some (.int .i64 q.g.2.1) := Joins.cell_of_block s0 4; have g0x5 : w9.cell? ⟨w.heap.size + 1, 5, none⟩ = some (.int .i64 q.g.2.2.1) := Joins.cell_of_block s0 5; have g0x6 : w9.cell? ⟨w.heap.size + 1, 6, none⟩ = some (.int .i64 q.g.2.2.2) := Joins.cell_of_block s0 6; go_simp <;> with_reducible rfl)
          try simp only [Act.put, List.setIfInBounds_toArray, List.set_cons_zero, List.set_cons_succ]
          refine wpAnyP_take (i := 2) (v := ?_) (by simp only [List.getElem?_toArray, List.getElem?_cons_zero, List.getElem?_cons_succ]; rfl) (by kernel_rfl) (by kernel_rfl) (by kernel_rfl) (by kernel_rfl) (by intro _ _ _ h; exact h) (Or.inl ⟨by rfl, ?_⟩) (by assumption) ?_
          rotate_left
          · (intro w9 hSw; (try dsimp only at hSw); obtain ⟨s0, s1⟩ := hSw; go_simp <;> with_reducible rfl)
          try simp only [Act.put, List.setIfInBounds_toArray, List.set_cons_zero, List.set_cons_succ]
          refine wpAnyP_take (i := 3) (v := ?_) (by simp only [List.getElem?_toArray, List.getElem?_cons_zero, List.getElem?_cons_succ]; rfl) (by kernel_rfl) (by kernel_rfl) (by kernel_rfl) (by kernel_rfl) (by intro _ _ _ h; exact h) (Or.inl ⟨by rfl, ?_⟩) (by assumption) ?_
          rotate_left
          · (intro w9 hSw; (try dsimp only at hSw); obtain ⟨s0, s1⟩ := hSw; have g1x0 : w9.cell? ⟨wr.heap.size, 0, none⟩ = some (.int .i64 oky) := Joins.cell_of_block s1 0; have g1x1 : w9.cell? ⟨wr.heap.size, 1, none⟩ = some (.int .i64 ost) := Joins.cell_of_block s1 1; have g1x2 : w9.cell? ⟨wr.heap.size, 2, none⟩ = some (.int .i64 oen) := Joins.cell_of_block s1 2; have g1x3 : w9.cell? ⟨wr.heap.size, 3, none⟩ = some (.int .i64 on) := Joins.cell_of_block s1 3; have g1x4 : w9.cell? ⟨wr.heap.size, 4, none⟩ = some (.int .i64 osu) := Joins.cell_of_block s1 4; have g1x5 : w9.cell? ⟨wr.heap.size, 5, none⟩ = some (.int .i64 ole) := Joins.cell_of_block s1 5; have g1x6 : w9.cell? ⟨wr.heap.size, 6, none⟩ = some (.int .i64 omo) := Joins.cell_of_block s1 6; go_simp <;> with_reducible rfl)
          try simp only [Act.put, List.setIfInBounds_toArray, List.set_cons_zero, List.set_cons_succ]
          refine wpAnyP_take (i := 5) (v := ?_) (by simp only [List.getElem?_toArray, List.getElem?_cons_zero, List.getElem?_cons_succ]; rfl) (by kernel_rfl) (by kernel_rfl) (by kernel_rfl) (by kernel_rfl) (by intro _ _ _ h; exact h) (Or.inl ⟨by rfl, ?_⟩) (by assumption) ?_
          rotate_left
          · (intro w9 hSw; (try dsimp only at hSw); obtain ⟨s0, s1⟩ := hSw; go_simp <;> with_reducible rfl)
          try simp only [Act.put, List.setIfInBounds_toArray, List.set_cons_zero, List.set_cons_succ]
          refine wpAnyP_take (i := 6) (v := ?_) (by simp only [List.getElem?_toArray, List.getElem?_cons_zero, List.getElem?_cons_succ]; rfl) (by kernel_rfl) (by kernel_rfl) (by kernel_rfl) (by kernel_rfl) (by intro _ _ _ h; exact h) (Or.inl ⟨by rfl, ?_⟩) (by assumption) ?_
          rotate_left
          · (intro w9 hSw; (try dsimp only at hSw); obtain ⟨s0, s1⟩ := hSw; have g0x0 : w9.cell? ⟨w.heap.size + 1, 0, none⟩ = some (.int .i64 ky) := Joins.cell_of_block s0 0; have g0x1 : w9.cell? ⟨w.heap.size + 1, 1, none⟩ = some (.int .i64 q.a) := Joins.cell_of_block s0 1; have g0x2 : w9.cell? ⟨w.heap.size + 1, 2, none⟩ = some (.int .i64 q.b) := Joins.cell_of_block s0 2; have g0x3 : w9.cell? ⟨w.heap.size + 1, 3, none⟩ = some (.int .i64 q.g.1) := Joins.cell_of_block s0 3; have g0x4 : w9.cell? ⟨w.heap.size + 1, 4, none⟩ = some (.int .i64 q.g.2.1) := Joins.cell_of_block s0 4; have g0x5 : w9.cell? ⟨w.heap.size + 1, 5, none⟩ = some (.int .i64 q.g.2.2.1) := Joins.cell_of_block s0 5; have g0x6 : w9.cell? ⟨w.heap.size + 1, 6, none⟩ = some (.int .i64 q.g.2.2.2) := Joins.cell_of_block s0 6; go_simp <;> with_reducible rfl)
          try simp only [Act.put, List.setIfInBounds_toArray, List.set_cons_zero, List.set_cons_succ]
          refine wpAnyP_take (i := 7) (v := ?_) (by simp only [List.getElem?_toArray, List.getElem?_cons_zero, List.getElem?_cons_succ]; rfl) (by kernel_rfl) (by kernel_rfl) (by kernel_rfl) (by kernel_rfl) (by intro _ _ _ h; exact h) (Or.inl ⟨by rfl, ?_⟩) (by assumption) ?_
          rotate_left
          · (intro w9 hSw; (try dsimp only at hSw); obtain ⟨s0, s1⟩ := hSw; go_simp <;> with_reducible rfl)
          try simp only [Act.put, List.setIfInBounds_toArray, List.set_cons_zero, List.set_cons_succ]
          refine wpAnyP_take (i := 8) (v := ?_) (by simp only [List.getElem?_toArray, List.getElem?_cons_zero, List.getElem?_cons_succ]; rfl) (by kernel_rfl) (by kernel_rfl) (by kernel_rfl) (by kernel_rfl) (by intro _ _ _ h; exact h) (Or.inl ⟨by rfl, ?_⟩) (by assumption) ?_
          rotate_left
          · (intro w9 hSw; (try dsimp only at hSw); obtain ⟨s0, s1⟩ := hSw; have g1x0 : w9.cell? ⟨wr.heap.size, 0, none⟩ = some (.int .i64 oky) := Joins.cell_of_block s1 0; have g1x1 : w9.cell? ⟨wr.heap.size, 1, none⟩ = some (.int .i64 ost) := Joins.cell_of_block s1 1; have g1x2 : w9.cell? ⟨wr.heap.size, 2, none⟩ = some (.int .i64 oen) := Joins.cell_of_block s1 2; have g1x3 : w9.cell? ⟨wr.heap.size, 3, none⟩ = some (.int .i64 on) := Joins.cell_of_block s1 3; have g1x4 : w9.cell? ⟨wr.heap.size, 4, none⟩ = some (.int .i64 osu) := Joins.cell_of_block s1 4; have g1x5 : w9.cell? ⟨wr.heap.size, 5, none⟩ = some (.int .i64 ole) := Joins.cell_of_block s1 5; have g1x6 : w9.cell? ⟨wr.heap.size, 6, none⟩ = some (.int .i64 omo) := Joins.cell_of_block s1 6; go_simp <;> with_reducible rfl)
          try simp only [Act.put, List.setIfInBounds_toArray, List.set_cons_zero, List.set_cons_succ]
          refine wpAnyP_ready (rs := [4]) (by kernel_rfl) (by simp) ?_
          refine AllReadyP.cons (by simp only [List.getElem?_toArray, List.getElem?_cons_zero, List.getElem?_cons_succ]; rfl) (fun K hK => ?_) AllReadyP.nil
          go_simp
          (go_at_call 63; refine (span_is _ HSP).mono ?_; rintro e9 wa ⟨rfl, hba⟩; have bO2 := (hba.block (w.heap.size + 1) zO1).trans bO1; have bQ2 := (hba.block wr.heap.size zQ1).trans bQ1; have zO2 := Nat.lt_of_lt_of_le zO1 hba.size; have zQ2 := Nat.lt_of_lt_of_le zQ1 hba.size)
          (try go_wp2_with fail)
          refine hK.out _ _ ?_ (fun hHeld2 => ?_)
          · (try dsimp only); first | exact ⟨bO1, bQ1⟩ | exact ⟨bO2, bQ2⟩ | exact ⟨bO3, bQ3⟩
          clear hK K hHeld
          have hHeld := hHeld2
          clear hHeld2
          try simp only [Act.put, List.setIfInBounds_toArray, List.set_cons_zero, List.set_cons_succ]
          refine wpAnyP_take0 (i := 10) (v := ?_) (by simp only [List.getElem?_toArray, List.getElem?_cons_zero, List.getElem?_cons_succ]; rfl) (by kernel_rfl) (by kernel_rfl) (by kernel_rfl) (by kernel_rfl) (by intro _ _ _ h; exact h) (Or.inl ⟨by rfl, ?_⟩) (fun _ => by assumption) ?_
          rotate_left
          · (intro w9 hSw; (try dsimp only at hSw); go_simp <;> with_reducible rfl)
          try simp only [Act.put, List.setIfInBounds_toArray, List.set_cons_zero, List.set_cons_succ]
          refine wpAnyP_ready (rs := [9]) (by kernel_rfl) (by simp) ?_
          refine AllReadyP.cons (by simp only [List.getElem?_toArray, List.getElem?_cons_zero, List.getElem?_cons_succ]; rfl) (fun K hK => ?_) AllReadyP.nil
          go_simp
          (go_at_call 56; refine (both_is _ HBO).mono ?_; rintro e9 wb ⟨rfl, hbb⟩; have bO3 := (hbb.block (w.heap.size + 1) zO2).trans bO2; have bQ3 := (hbb.block wr.heap.size zQ2).trans bQ2; have zO3 := Nat.lt_of_lt_of_le zO2 hbb.size; have zQ3 := Nat.lt_of_lt_of_le zQ2 hbb.size)
          (try go_wp2_with fail)
          refine hK.out _ _ ?_ (fun hHeld2 => ?_)
          · (try dsimp only); first | exact ⟨bO1, bQ1⟩ | exact ⟨bO2, bQ2⟩ | exact ⟨bO3, bQ3⟩
          clear hK K hHeld
          have hHeld := hHeld2
          clear hHeld2
          try simp only [Act.put, List.setIfInBounds_toArray, List.set_cons_zero, List.set_cons_succ]
          have y0 : wb.cell? ⟨w.heap.size + 1, 0, none⟩ = some (.int .i64 ky) := Joins.cell_of_block bO3 0; have y1 : wb.cell? ⟨w.heap.size + 1, 1, none⟩ = some (.int .i64 q.a) := Joins.cell_of_block bO3 1; have y2 : wb.cell? ⟨w.heap.size + 1, 2, none⟩ = some (.int .i64 q.b) := Joins.cell_of_block bO3 2; have y3 : wb.cell? ⟨w.heap.size + 1, 3, none⟩ = some (.int .i64 q.g.1) := Joins.cell_of_block bO3 3; have y4 : wb.cell? ⟨w.heap.size + 1, 4, none⟩ = some (.int .i64 q.g.2.1) := Joins.cell_of_block bO3 4; have y5 : wb.cell? ⟨w.heap.size + 1, 5, none⟩ = some (.int .i64 q.g.2.2.1) := Joins.cell_of_block bO3 5; have y6 : wb.cell? ⟨w.heap.size + 1, 6, none⟩ = some (.int .i64 q.g.2.2.2) := Joins.cell_of_block bO3 6
          have fz : ∀ j, wb.frozen? ⟨w.heap.size + 1, j, none⟩ = false := fun j => by simp [World.frozen?, bO3]
          have f1 := fz 1
          have f2 := fz 2
          have f3 := fz 3
          have f4 := fz 4
          have f5 := fz 5
          have f6 := fz 6
          clear fz
          refine wpAnyP_ready (rs := [11]) (by kernel_rfl) (by simp) ?_
          refine AllReadyP.consS (by simp only [List.getElem?_toArray, List.getElem?_cons_zero, List.getElem?_cons_succ]; rfl) (by kernel_rfl) (fun K hK => ?_) AllReadyP.nil
          go_simp
          refine hK.out _ _ ?_
          clear hK K
          try simp only [Act.put, List.setIfInBounds_toArray, List.set_cons_zero, List.set_cons_succ]
          refine wpAnyP_take0 (i := 12) (v := ?_) (by simp only [List.getElem?_toArray, List.getElem?_cons_zero, List.getElem?_cons_succ]; rfl) (by kernel_rfl) (by kernel_rfl) (by kernel_rfl) (by kernel_rfl) (by intro _ _ _ h; exact h) (Or.inl ⟨by rfl, ?_⟩) (SL_of (by kernel_rfl)) ?_
          rotate_left
          · (intro w9 hSw; (try dsimp only at hSw); go_simp <;> with_reducible rfl)
          try simp only [Act.put, List.setIfInBounds_toArray, List.set_cons_zero, List.set_cons_succ]
          refine wpAnyP_ready (rs := [13]) (by kernel_rfl) (by simp) ?_
          refine AllReadyP.consS (by simp only [List.getElem?_toArray, List.getElem?_cons_zero, List.getElem?_cons_succ]; rfl) (by kernel_rfl) (fun K hK => ?_) AllReadyP.nil
          go_simp
          refine hK.out _ _ ?_
          clear hK K
          try simp only [Act.put, List.setIfInBounds_toArray, List.set_cons_zero, List.set_cons_succ]
          refine wpAnyP_done (by kernel_rfl) ?_ _
          have hA5 : Hid (((((((wb.setCell ⟨w.heap.size + 1, 1, none⟩ (.int .i64 xa)).setCell ⟨w.heap.size + 1, 2, none⟩ (.int .i64 xb)).setCell ⟨w.heap.size + 1, 3, none⟩ (.int .i64 ya)).setCell ⟨w.heap.size + 1, 4, none⟩ (.int .i64 yb)).setCell ⟨w.heap.size + 1, 5, none⟩ (.int .i64 yc)).setCell ⟨w.heap.size + 1, 6, none⟩ (.int .i64 yd)).heap[w.heap.size + 1]? = some (.cells #[.int .i64 ky, .int .i64 xa, .int .i64 xb, .int .i64 ya, .int .i64 yb, .int .i64 yc, .int .i64 yd] 39 (0, 0))) := hide (Joins.block_setCell (Joins.block_setCell (Joins.block_setCell (Joins.block_setCell (Joins.block_setCell (Joins.block_setCell bO3 _) _) _) _) _) _)
          have hne : ∀ (X : World) (u : Value) (j : Nat), (X.setCell ⟨w.heap.size + 1, j, none⟩ u).heap[w.heap.size]? = X.heap[w.heap.size]? := fun X u j => Below.heap_setCell _ _ _ _ (by simp)
          have hR5 : Hid (((((((wb.setCell ⟨w.heap.size + 1, 1, none⟩ (.int .i64 xa)).setCell ⟨w.heap.size + 1, 2, none⟩ (.int .i64 xb)).setCell ⟨w.heap.size + 1, 3, none⟩ (.int .i64 ya)).setCell ⟨w.heap.size + 1, 4, none⟩ (.int .i64 yb)).setCell ⟨w.heap.size + 1, 5, none⟩ (.int .i64 yc)).setCell ⟨w.heap.size + 1, 6, none⟩ (.int .i64 yd)).heap[w.heap.size]? = some (.cells #[.int .i64 ky, .int .i64 st, .int .i64 en, .int .i64 n, .int .i64 su, .int .i64 le, .int .i64 mo] 39 (0, 0))) := hide (by rw [hne, hne, hne, hne, hne, hne]; exact (hbb.block w.heap.size (by omega)).trans ((hba.block w.heap.size (by omega)).trans bR1))
          have hnb : u6.ownBlock ≠ some (w.heap.size + 1) := fun e9 => by have := (World.ownsRow.lt (unhide HO1) _ e9).1; omega
          have hO5 : Hid (OwnTb ((((((wb.setCell ⟨w.heap.size + 1, 1, none⟩ (.int .i64 xa)).setCell ⟨w.heap.size + 1, 2, none⟩ (.int .i64 xb)).setCell ⟨w.heap.size + 1, 3, none⟩ (.int .i64 ya)).setCell ⟨w.heap.size + 1, 4, none⟩ (.int .i64 yb)).setCell ⟨w.heap.size + 1, 5, none⟩ (.int .i64 yc)).setCell ⟨w.heap.size + 1, 6, none⟩ (.int .i64 yd)) (w.heap.size + 1 + 1) u6 q.l) := hide (ownTb_set (ownTb_set (ownTb_set (ownTb_set (ownTb_set (ownTb_set (ownTb_bel (ownTb_bel (unhide HO1) hba) hbb) hnb) hnb) hnb) hnb) hnb) hnb)
          have hF5 : Below w.heap.size w ((((((wb.setCell ⟨w.heap.size + 1, 1, none⟩ (.int .i64 xa)).setCell ⟨w.heap.size + 1, 2, none⟩ (.int .i64 xb)).setCell ⟨w.heap.size + 1, 3, none⟩ (.int .i64 ya)).setCell ⟨w.heap.size + 1, 4, none⟩ (.int .i64 yb)).setCell ⟨w.heap.size + 1, 5, none⟩ (.int .i64 yc)).setCell ⟨w.heap.size + 1, 6, none⟩ (.int .i64 yd)) := bel_set (bel_set (bel_set (bel_set (bel_set (bel_set (bel_trans (bel_trans hbF1 hba) hbb) (by simp) _) (by simp) _) (by simp) _) (by simp) _) (by simp) _) (by simp) _
          clear hne hba hbb HO1 hbF1 bO1 bQ1 bR1 bO2 bQ2 bO3 bQ3 y0 y1 y2 y3 y4 y5 y6 f1 f2 f3 f4 f5 f6
          generalize ((((((wb.setCell ⟨w.heap.size + 1, 1, none⟩ (.int .i64 xa)).setCell ⟨w.heap.size + 1, 2, none⟩ (.int .i64 xb)).setCell ⟨w.heap.size + 1, 3, none⟩ (.int .i64 ya)).setCell ⟨w.heap.size + 1, 4, none⟩ (.int .i64 yb)).setCell ⟨w.heap.size + 1, 5, none⟩ (.int .i64 yc)).setCell ⟨w.heap.size + 1, 6, none⟩ (.int .i64 yd)) = we at *
          go_wp2
          refine ⟨⟨i + 1, ⟨xa, xb, (ya, yb, yc, yd), q.l⟩, by omega, by go_num, hide (by rw [unhide HS]; exact unhide HQ2), hR5, hA5, hO5, hF5⟩, ?_⟩
          simp [intOf]; omega
      · have hk1 : (oky == ky) = false := by simp [hk]
        have HN := hide (sesStep_no (k := ky) (a := st) (b := en) (q := q) (r := ⟨oky, ost, oen, on, osu, ole, omo⟩) (fun h9 => hk h9.1))
        have HOa := hide (ownTb_bel (unhide HO) hbo)
        have hbFq : Below w.heap.size w (wr.alloc (.cells #[.int .i64 oky, .int .i64 ost, .int .i64 oen, .int .i64 on, .int .i64 osu, .int .i64 ole, .int .i64 omo] 39)) := bel_alloc hbw _
        have zq : wr.heap.size < (wr.alloc (.cells #[.int .i64 oky, .int .i64 ost, .int .i64 oen, .int .i64 on, .int .i64 osu, .int .i64 ole, .int .i64 omo] 39)).heap.size := by simp
        have bRq := bR
        have bOq := bO
        clear hk HO HR HOn hbo bO bR bQ
        have hge := hide (fun b (hb : u6.ownBlock = some b) => (World.ownsRow.lt (unhide HOa) b hb).1)
        go_wp2_with (at_builtin; go_loud (refine wpList_append_own _ rfl _ _ 28 rfl (w.heap.size + 1 + 1) 39 i0 _ 7 56 Tryz.underlying28 hi hz0' hz1' hz2' rfl (by decide) u6 _ _ rfl (World.ownsRow.alloc (unhide HOa) _) ⟨wr.heap.size + 1, 0, none⟩ 1 1 [.int .i64 oky, .int .i64 ost, .int .i64 oen, .int .i64 on, .int .i64 osu, .int .i64 ole, .int .i64 omo] rfl rfl (cells_atTb _ oky ost oen on osu ole omo _ (by simp)) (by simp [Value.oneCell']) (by unfold maxLen; omega) (by omega) (by simp; omega) ?_); intro v' w5 hown hgrow hnn)
        have hb5 : Below (w.heap.size + 1 + 1) (wr.alloc (.cells #[.int .i64 oky, .int .i64 ost, .int .i64 oen, .int .i64 on, .int .i64 osu, .int .i64 ole, .int .i64 omo] 39)) w5 := ((Below.refl _ _).alloc (by simp; omega) _).grown hgrow (by simp; omega) (unhide hge)
        have O5 := ownTb_snoc (x := ⟨oky, ost, oen, on, osu, ole, omo⟩) hown
        refine ⟨⟨i + 1, ⟨q.a, q.b, q.g, q.l ++ [⟨oky, ost, oen, on, osu, ole, omo⟩]⟩, by omega, by go_num, hide (by rw [unhide HS]; exact unhide HN), hide ((hb5.block w.heap.size (by omega)).trans bRq), hide ((hb5.block (w.heap.size + 1) (by omega)).trans bOq), hide O5, hbFq.trans (hb5.mono (by omega))⟩, ?_⟩
        simp [intOf]; omega
    · obtain rfl : len = i := by omega
      have HQf : Hid (sesAll ky st en (n, su, le, mo) rows = q) := hide (by have h9 := unhide HQ; rw [List.take_of_length_le (by omega)] at h9; exact h9)
      have HRf : Hid (sesPut ky st en (n, su, le, mo) rows = insR (sesRow ky q) (kpTb ky q.a q.b q.l)) := hide (by unfold sesPut; rw [unhide HQf])
      obtain ⟨ao, co, rfl, HT, _, _⟩ := holdTb (unhide HO) (by omega)
      have a0 : wr.cell? ⟨w.heap.size + 1, 0, none⟩ = some (.int .i64 ky) := Joins.cell_of_block (unhide HOn) 0
      have a1 : wr.cell? ⟨w.heap.size + 1, 1, none⟩ = some (.int .i64 q.a) := Joins.cell_of_block (unhide HOn) 1
      have a2 : wr.cell? ⟨w.heap.size + 1, 2, none⟩ = some (.int .i64 q.b) := Joins.cell_of_block (unhide HOn) 2
      have a3 : wr.cell? ⟨w.heap.size + 1, 3, none⟩ = some (.int .i64 q.g.1) := Joins.cell_of_block (unhide HOn) 3
      have a4 : wr.cell? ⟨w.heap.size + 1, 4, none⟩ = some (.int .i64 q.g.2.1) := Joins.cell_of_block (unhide HOn) 4
      have a5 : wr.cell? ⟨w.heap.size + 1, 5, none⟩ = some (.int .i64 q.g.2.2.1) := Joins.cell_of_block (unhide HOn) 5
      have a6 : wr.cell? ⟨w.heap.size + 1, 6, none⟩ = some (.int .i64 q.g.2.2.2) := Joins.cell_of_block (unhide HOn) 6
      have HTh := hide HT
      clear HT HQ HQf HO HR HOn
      go_wp2_with fail
      refine (implput_any (sesRow ky q) _ _ _ q.l _ (unhide HTh) (by omega)).mono ?_
      rintro e9 w9 ⟨v9, rfl, hO9, hb9⟩
      go_wp2
      go_ret
      refine ⟨_, rfl, ?_, bel_trans hbw hb9⟩
      rw [unhide HRf]
      exact World.ownsRow.mono hO9 hbw.size
end Go.Proofs.YtbockbdlojkpiaaGreat
/- Proved here: when a pane is ok, in the program and in the specification, at every argument. -/
namespace Go.Proofs.YtbockbdlojkpiaaGreat
open Go.ChangeShapes Go.WideShapes Go.ChangeAt Go.RowKit
set_option linter.unusedVariables false

/-- When a window of a key is ok; when a pane is. -/
def okPlace (ky st en : Int) : Bool := inB ky 0 3 && okWin st en

def kindB (kd no n : Int) : Bool := if kd = 3 then n == 0 && decide (0 < no) else decide (0 < n) && ((kd == 1 && no == 0) || (kd == 2 && decide (0 < no)))

def okPan (ky st en no kd n s l m : Int) : Bool := inB ky 0 3 && okWin st en && inB no 0 1500 && okAgg n s l m && kindB kd no n

theorem okAgg_pos {n s l m : Int} (h : okAgg n s l m = true) : n = 0 ∨ 0 < n := by
  by_cases h0 : n = 0
  · exact Or.inl h0
  · rw [okAgg_n h0] at h
    simp only [Bool.and_eq_true] at h
    have := inB_iff.1 h.1.1.1
    omega

theorem placeok_any (ky st en : Int) (w : World) : Calls Tryz.prog 130 #[.agg #[.int .i64 ky, .int .i64 st, .int .i64 en]] w fun e' w' => e' = .returned (.bool (okPlace ky st en)) ∧ Below w.heap.size w w' := by
  cases c0 : inB ky 0 3
  · have hq : Hid (okPlace ky st en = false) := hide (by simp [okPlace, c0])
    go_enter Tryz.func130, Tryz.ntmps130
    go_wp2_with (first
      | (go_at_call 36; refine (within_any _ _ _ _).mono ?_; rintro e' w' ⟨rfl, rfl⟩)
      | (go_at_call 32; refine (winok_any _ _ _).mono ?_; rintro e w' ⟨rfl, hb⟩; obtain ⟨hc, hf, hs⟩ := bcell hb; (try have hz0 : w.heap.size < w'.heap.size := (by have h9 := hb.size; (try simp at h9); omega))))
    go_ret
    exact ⟨ret_b (unhide hq).symm, (by repeat (first | (with_reducible refine bel_set ?_ (by first | (simp; done) | (simp; omega)) _) | (with_reducible refine bel_alloc ?_ _) | (with_reducible exact Below.refl _ _) | (with_reducible assumption) | (with_reducible refine bel_drew ?_) | (with_reducible refine bel_drewN ?_ _) | (with_reducible refine bel_trans ?_ (by with_reducible assumption))))⟩
  · have hq : Hid (okPlace ky st en = okWin st en) := hide (by simp [okPlace, c0])
    go_enter Tryz.func130, Tryz.ntmps130
    go_wp2_with (first
      | (go_at_call 36; refine (within_any _ _ _ _).mono ?_; rintro e' w' ⟨rfl, rfl⟩)
      | (go_at_call 32; refine (winok_any _ _ _).mono ?_; rintro e w' ⟨rfl, hb⟩; obtain ⟨hc, hf, hs⟩ := bcell hb; (try have hz0 : w.heap.size < w'.heap.size := (by have h9 := hb.size; (try simp at h9); omega))))
    go_ret
    exact ⟨ret_b (unhide hq).symm, (by repeat (first | (with_reducible refine bel_set ?_ (by first | (simp; done) | (simp; omega)) _) | (with_reducible refine bel_alloc ?_ _) | (with_reducible exact Below.refl _ _) | (with_reducible assumption) | (with_reducible refine bel_drew ?_) | (with_reducible refine bel_drewN ?_ _) | (with_reducible refine bel_trans ?_ (by with_reducible assumption))))⟩

end Go.Proofs.YtbockbdlojkpiaaGreat
/- Proved here: slices of structs of 9 ints that came in: read as rows, counted, copied into new memory. -/
namespace Go.Proofs.YtbockbdlojkpiaaGreat
open Go.ChangeShapes Go.WideShapes Go.ChangeAt Go.RowKit Go.Deep
set_option linter.unusedVariables false

/-- Each number is an int. -/
def PnR.ok64 (x : PnR) : Prop := (-9223372036854775808 ≤ x.ky ∧ x.ky ≤ 9223372036854775807) ∧ (-9223372036854775808 ≤ x.st ∧ x.st ≤ 9223372036854775807) ∧ (-9223372036854775808 ≤ x.en ∧ x.en ≤ 9223372036854775807) ∧ (-9223372036854775808 ≤ x.no ∧ x.no ≤ 9223372036854775807) ∧ (-9223372036854775808 ≤ x.kd ∧ x.kd ≤ 9223372036854775807) ∧ (-9223372036854775808 ≤ x.n ∧ x.n ≤ 9223372036854775807) ∧ (-9223372036854775808 ≤ x.su ∧ x.su ≤ 9223372036854775807) ∧ (-9223372036854775808 ≤ x.le ∧ x.le ≤ 9223372036854775807) ∧ (-9223372036854775808 ≤ x.mo ∧ x.mo ≤ 9223372036854775807)
section
variable {H : Type} {enc : TypeId × Value → H} {P : Program} {w : World} {base : Nat} {spare : Nat → Bool} {held : Bool}
theorem cellsPn {a : Addr} {cs : List Value} (h : w.cells? base a 9 = some cs) (f0 : Fits cs [false, false, false, false, false, false, false, false, false]) : a.spot = none ∧ ∃ x : PnR, PnRAt w a.block a.off x ∧ x.ok64 := by
  obtain ⟨z0, r0, rfl, y0, f1⟩ := fits_int f0
  clear f0
  obtain ⟨z1, r1, rfl, y1, f2⟩ := fits_int f1
  clear f1
  obtain ⟨z2, r2, rfl, y2, f3⟩ := fits_int f2
  clear f2
  obtain ⟨z3, r3, rfl, y3, f4⟩ := fits_int f3
  clear f3
  obtain ⟨z4, r4, rfl, y4, f5⟩ := fits_int f4
  clear f4
  obtain ⟨z5, r5, rfl, y5, f6⟩ := fits_int f5
  clear f5
  obtain ⟨z6, r6, rfl, y6, f7⟩ := fits_int f6
  clear f6
  obtain ⟨z7, r7, rfl, y7, f8⟩ := fits_int f7
  clear f7
  obtain ⟨z8, r8, rfl, y8, f9⟩ := fits_int f8
  clear f8
  obtain rfl := fits_nil f9
  obtain ⟨_, hlen, hc⟩ := World.cells?_some h
  have c0 := hc 0 (by omega)
  have c1 := hc 1 (by omega)
  have c2 := hc 2 (by omega)
  have c3 := hc 3 (by omega)
  have c4 := hc 4 (by omega)
  have c5 := hc 5 (by omega)
  have c6 := hc 6 (by omega)
  have c7 := hc 7 (by omega)
  have c8 := hc 8 (by omega)
  obtain ⟨g, o, sp⟩ := a
  have ha0 : (⟨g, o, sp⟩ : Addr).add 0 = ⟨g, o, sp⟩ := by simp [Addr.add]
  have hsp : sp = none := World.cell?_spot (w := w) (a := ⟨g, o, sp⟩) (v := .int .i64 z0) (by rw [← ha0]; simpa using c0)
  subst hsp
  exact ⟨rfl, ⟨z0, z1, z2, z3, z4, z5, z6, z7, z8⟩, ⟨by simpa [Addr.add] using c0, by simpa [Addr.add] using c1, by simpa [Addr.add] using c2, by simpa [Addr.add] using c3, by simpa [Addr.add] using c4, by simpa [Addr.add] using c5, by simpa [Addr.add] using c6, by simpa [Addr.add] using c7, by simpa [Addr.add] using c8⟩, bnd64 y0, bnd64 y1, bnd64 y2, bnd64 y3, bnd64 y4, bnd64 y5, bnd64 y6, bnd64 y7, bnd64 y8⟩
theorem openPn {t e : TypeId} {a : Option Addr} {len cap : Nat} {d : DataW H} {p : List MemPlace} (ht : P.underlying t = some (.slice e)) (hk : flatK P 5 e = some [false, false, false, false, false, false, false, false, false]) (hC : P.cellsOf e = 9)
    (h : DataW.Trod enc P w base spare held t (.slice a len cap) d p) : ∃ xs : List PnR, PnRs w a len xs ∧ ∀ x ∈ xs, x.ok64 := by
  obtain ⟨fuel, hf⟩ := h
  rcases open_slice ht hf with ⟨hcs, _⟩ | ⟨a', len', cap', m, n, D, Pl, hcs, _, hl, hm, hmm, _, hx⟩
  · simp [Value.cells] at hcs
    obtain ⟨rfl, rfl, rfl⟩ := hcs
    exact ⟨[], ⟨rfl, Nat.zero_le _, Or.inl rfl⟩, by simp⟩
  · simp [Value.cells] at hcs
    obtain ⟨rfl, rfl, rfl⟩ := hcs
    have hlm : len ≤ m := by rw [hmm]; split <;> omega
    have hall : ∀ i, i < len → ∃ x : PnR, (i = 0 → a'.spot = none) ∧ PnRAt w a'.block (a'.off + i * 9) x ∧ x.ok64 := by
      intro i hi
      obtain ⟨cs', h1, h2⟩ := hx i (by omega)
      rw [hC] at h1
      obtain ⟨hsp, x, hxa, hxo⟩ := cellsPn h1 (fits_trod 5 hk h2)
      have hb : (a'.add (i * 9)).block = a'.block ∧ (a'.add (i * 9)).off = a'.off + i * 9 := by
        unfold Addr.add
        split
        · exact ⟨rfl, by omega⟩
        · exact ⟨rfl, rfl⟩
      rw [hb.1, hb.2] at hxa
      refine ⟨x, fun h0 => ?_, hxa, hxo⟩
      subst h0
      simpa [Addr.add] using hsp
    by_cases h0 : len = 0
    · subst h0
      exact ⟨[], ⟨rfl, Nat.zero_le _, Or.inl rfl⟩, by simp⟩
    have hinh : Inhabited PnR := ⟨⟨0, 0, 0, 0, 0, 0, 0, 0, 0⟩⟩
    obtain ⟨f, hf'⟩ := choose_lt hall
    have hsp := (hf' 0 (by omega)).1 rfl
    refine ⟨(List.range len).map f, ⟨by simp, by omega, Or.inr ⟨a'.block, a'.off, by cases a'; simp_all, ?_⟩⟩, ?_⟩
    · intro i x hix
      simp only [List.getElem?_map, Option.map_eq_some_iff] at hix
      obtain ⟨j, hj, rfl⟩ := hix
      have hil : i < len := by
        rcases Nat.lt_or_ge i len with h' | h'
        · exact h'
        · rw [List.getElem?_eq_none (by simpa using h')] at hj; cases hj
      rw [List.getElem?_eq_getElem (by simpa using hil)] at hj
      simp at hj
      subst hj
      exact (hf' i hil).2.1
    · intro x hxm
      simp only [List.mem_map, List.mem_range] at hxm
      obtain ⟨i, hi, rfl⟩ := hxm
      exact (hf' i hi).2.2
end

theorem PnRs_of {W : World} {g len : Nat} {xs : List PnR} (h1 : xs.length = len) (h2 : len ≤ maxLen) (h : PnRsAt W g 0 xs) : PnRs W (some ⟨g, 0, none⟩) len xs := ⟨h1, h2, Or.inr ⟨g, 0, rfl, h⟩⟩
end Go.Proofs.YtbockbdlojkpiaaGreat
/- Proved here: what panes tell, in the program: a map of places, told in order. -/
namespace Go.Proofs.YtbockbdlojkpiaaGreat
open Go.ChangeShapes Go.WideShapes Go.ChangeAt Go.RowKit Go.Maps
set_option linter.unusedVariables false

theorem OwnsV.store {w : World} {b n : Nat} {m : P3 → Option Value} (h : OwnsV w b n m) (hn : n < maxLen) (q : P3) (hq : ok3 q) (val : Value) :
    ∃ w', (Instr.mapUpdate 78 (.map (some b)) (.agg #[.int .i64 q.1, .int .i64 q.2.1, .int .i64 q.2.2]) val).run Tryz.prog w = .ok () w' ∧ OwnsV w' b (n + 1) (fun x => if x = q then some val else m x) ∧ w.grownBy w' (some b) :=
  OwnsOp.store h key3 Tryz.underlying78 hn some3 inj3 q hq val (ps := []) rfl

theorem OwnsV.drop {w : World} {b n : Nat} {m : P3 → Option Value} (h : OwnsV w b n m) (q : P3) (hq : ok3 q) (ty : TypeId) :
    ∃ w', (Builtin.delete_ #[78, 64] ty #[.map (some b), .agg #[.int .i64 q.1, .int .i64 q.2.1, .int .i64 q.2.2]]).run Tryz.prog w = .ok (.tuple #[]) w' ∧ OwnsV w' b n (fun x => if x = q then none else m x) ∧ w.grownBy w' (some b) :=
  OwnsOp.drop h key3 Tryz.underlying78 some3 inj3 q hq ty

theorem OwnsV.more {w : World} {b n n2 : Nat} {m : P3 → Option Value} (h : OwnsV w b n m) (hn : n ≤ n2) : OwnsV w b n2 m := OwnsOp.more h hn

theorem OwnsV.bel {w w' : World} {b n : Nat} {m : P3 → Option Value} (h : OwnsV w b n m) (hb : Below w.heap.size w w') : OwnsV w' b n m := OwnsOp.below h hb

theorem PnR.ok64.pl {p : PnR} (h : p.ok64) : ok3 (plP p) := ⟨WalkArith.wf_i64 h.1, WalkArith.wf_i64 h.2.1, WalkArith.wf_i64 h.2.2.1⟩

theorem step_gone {pc : Bool} {f : P3 → Option Ag4} {p : PnR} (h : p.kd = 3) : (fun x => if x = plP p then none else (f x).map agV) = fun x => (stepF pc f p x).map agV := by
  funext x
  unfold stepF
  by_cases e : x = plP p
  · simp [e, h]
  · simp [e]

theorem step_set {f : P3 → Option Ag4} {p : PnR} (h : ¬ p.kd = 3) : (fun x => if x = plP p then some (.agg #[.int .i64 p.n, .int .i64 p.su, .int .i64 p.le, .int .i64 p.mo]) else (f x).map agV) = fun x => (stepF false f p x).map agV := by
  funext x
  unfold stepF
  by_cases e : x = plP p
  · simp [e, h, agV]
  · simp [e]

theorem step_both {f : P3 → Option Ag4} {p : PnR} {a b c d : Int} (h : ¬ p.kd = 3) (hb : bothF ((f (plP p)).getD ag0) p.n p.su p.le p.mo = (a, b, c, d)) : (fun x => if x = plP p then some (.agg #[.int .i64 a, .int .i64 b, .int .i64 c, .int .i64 d]) else (f x).map agV) = fun x => (stepF true f p x).map agV := by
  funext x
  unfold stepF
  by_cases e : x = plP p
  · simp [e, h, hb, agV]
  · simp [e]

theorem val_get {m : Option Ag4} {a b c d : Int} (h : m.getD ag0 = (a, b, c, d)) : (m.map agV).getD (agV ag0) = .agg #[.int .i64 a, .int .i64 b, .int .i64 c, .int .i64 d] := by
  cases m with
  | none => simp only [Option.getD_none] at h; unfold ag0 at h; cases h; rfl
  | some x => simp at h; simp [h, agV]
end Go.Proofs.YtbockbdlojkpiaaGreat
/- Proved here: inside a fence, a region whose order is drawn keeps an invariant that each of its operations keeps. -/
namespace Go.Proofs.YtbockbdlojkpiaaGreat
open Go.ChangeShapes Go.WideShapes Go.ChangeAt Go.RowKit
set_option linter.unusedVariables false

section
variable {F : Fence} {n : Nat} {P : Program} {ops : List Oper} {Q : Exit → Act → World → Prop}

/-- One operation keeps the invariant, whenever it comes. -/
def Keeps1F (F : Fence) (n : Nat) (P : Program) (ops : List Oper) (Q : Exit → Act → World → Prop) (I : (Nat → Bool) → Act → World → Prop) (i : Nat) (o : Oper) : Prop := ∀ (L : Nat → Bool) (a : Act) (w : World), I L a w → L i = false → (∀ e ∈ o.after, Region.binds .any e = true → L e.on = true) → ∀ K' : Act → World → Prop, Shut (∀ a' w', I (more L i) a' w' → K' a' w') → if Region.wanted o (yielded ops.toArray a.tmps) = true then Oper.wpIn F n P o a w K' Q else (∀ f, o.about P w a.eval = some f → F.fn f) ∧ K' (a.put o.dst undef) w

theorem wpAnyF_inv (I : (Nat → Bool) → Act → World → Prop) (step : ∀ i o, ops[i]? = some o → Keeps1F F n P ops Q I i o) (fin : ∀ L a w, I L a w → (∀ i, i < ops.length → L i = true) → Q .normal a w) (hw : waits 0 ops = true) :
    ∀ (fuel : Nat) (l : Array Bool) (L : Nat → Bool) (a : Act) (w : World), l.size = ops.length → (∀ i, i < ops.length → l[i]? = some (L i)) → l.toList.count false ≤ fuel → I L a w → wpAnyIn F n P .any ops.toArray Q fuel l a w := by
  have key : ∀ (l : Array Bool) (L : Nat → Bool), l.size = ops.length → (∀ i, i < ops.length → l[i]? = some (L i)) → Region.ready .any ops.toArray l = [] → ∀ i, i < ops.length → L i = true := by
    intro l L hs hL hr i
    induction i using Nat.strongRecOn with
    | _ i ih =>
      intro hi
      cases hb : L i with
      | true => rfl
      | false =>
        have hm : i ∈ Region.ready .any ops.toArray l := by
          refine mem_ready.2 ⟨?_, ops[i], ?_, fun e he hb' => ?_⟩
          · rw [Array.getD_eq_getD_getElem?, hL i hi, hb]; rfl
          · simp [hi]
          · have hlt := waits_at ops 0 hw i ops[i] (by simp [hi]) e he hb'
            rw [Nat.zero_add] at hlt
            rw [Array.getD_eq_getD_getElem?, hL e.on (by omega), ih e.on hlt (by omega)]
            rfl
        rw [hr] at hm
        cases hm
  intro fuel
  induction fuel with
  | zero =>
    intro l L a w hs hL hc hI
    have hr : Region.ready .any ops.toArray l = [] := by
      cases hx : Region.ready .any ops.toArray l with
      | nil => rfl
      | cons i rs =>
        have hm : i ∈ Region.ready .any ops.toArray l := by rw [hx]; exact List.mem_cons_self
        obtain ⟨h1, o, ho, _⟩ := mem_ready.1 hm
        have hi : i < ops.length := by simpa using (Array.getElem?_eq_some_iff.1 ho).1
        rw [Array.getD_eq_getD_getElem?, hL i hi] at h1
        exact absurd (cnt_zero (i := i) (Nat.le_zero.1 hc) (by rw [Array.getElem?_toList, hL i hi]; simpa using h1)) (fun h => h)
    exact ⟨hr, fin L a w hI (key l L hs hL hr)⟩
  | succ fuel ih =>
    intro l L a w hs hL hc hI
    refine ⟨fun hr => fin L a w hI (key l L hs hL hr), fun i hi => ?_⟩
    obtain ⟨h1, o, ho, hall⟩ := mem_ready.1 hi
    have hlt : i < ops.length := by simpa using (Array.getElem?_eq_some_iff.1 ho).1
    rw [Array.getD_eq_getD_getElem?, hL i hlt] at h1
    have hLi : L i = false := by simpa using h1
    refine wpOpIn_step ho (fun K' hK => ?_)
    have hst := step i o (by simpa using ho)
    refine hst L a w hI hLi (fun e he hb => ?_) K' (fun a' w' hI' => hK a' w' ?_)
    · have := hall e he hb
      have hlt2 := waits_at ops 0 hw i o (by simpa using ho) e he hb
      rw [Nat.zero_add] at hlt2
      rw [Array.getD_eq_getD_getElem?, hL e.on (by omega)] at this
      simpa using this
    · refine ih _ (more L i) a' w' (by simpa using hs) (fun j hj => ?_) ?_ hI'
      · by_cases hji : j = i
        · subst hji
          rw [more_self, Array.getElem?_setIfInBounds]
          simp [hs, hlt]
        · rw [more_ne hji, Array.getElem?_setIfInBounds, if_neg (fun e => hji e.symm)]
          exact hL j hj
      · have h9 := cnt_set l.toList i (by rw [Array.getElem?_toList, hL i hlt, hLi])
        rw [Array.toList_setIfInBounds]
        omega

theorem wpIn_region_inv {id : Nat} {a : Act} {w : World} (hm : P.follows .mixedOrders = true) (hw : waits 0 ops = true) (I : (Nat → Bool) → Act → World → Prop) (h0 : I (fun _ => false) a w.drew) (step : EachOp (Keeps1F F n P ops Q I) 0 ops) (fin : ∀ L a w, I L a w → (∀ i, i < ops.length → L i = true) → Q .normal a w) : (Code.region id ops.toArray true).wpIn F n P Q a w := by
  refine wpIn_region_any hm (wpAnyF_inv I (fun i o ho => by have := eachOp_at ops 0 step i o ho; rw [Nat.zero_add] at this; exact this) fin hw ops.toArray.size _ (fun _ => false) a _ (by simp) (fun i hi => by simp [hi]) ?_ h0)
  simp

/-- The last operation, when all others are done. -/
def Ends1F (F : Fence) (n : Nat) (P : Program) (ops : List Oper) (Q : Exit → Act → World → Prop) (I : (Nat → Bool) → Act → World → Prop) (i : Nat) (o : Oper) : Prop := ∀ (L : Nat → Bool) (a : Act) (w : World), I L a w → (∀ j, j < i → L j = true) → ∀ K' : Act → World → Prop, Shut (∀ a' w', Q .normal a' w' → K' a' w') → if Region.wanted o (yielded ops.toArray a.tmps) = true then Oper.wpIn F n P o a w K' Q else (∀ f, o.about P w a.eval = some f → F.fn f) ∧ K' (a.put o.dst undef) w

theorem wpIn_region_last {id : Nat} {a : Act} {w : World} (hm : P.follows .mixedOrders = true) (hw : waits 0 ops = true) (hl : lastWaits ops = true) (I : (Nat → Bool) → Act → World → Prop) (h0 : I (fun _ => false) a w.drew) (step : EachOpL (Keeps1F F n P ops Q I) (Ends1F F n P ops Q I) 0 ops) : (Code.region id ops.toArray true).wpIn F n P Q a w := by
  have hne : ops ≠ [] := by
    intro h
    rw [h] at hl
    cases hl
  have hlen : 0 < ops.length := List.length_pos_iff.2 hne
  obtain ⟨lo, hlo⟩ : ∃ lo, ops.getLast? = some lo := ⟨_, List.getLast?_eq_some_getLast hne⟩
  have hat : ops[ops.length - 1]? = some lo := by rw [← List.getLast?_eq_getElem?]; exact hlo
  unfold lastWaits at hl
  rw [hlo] at hl
  have hedge : ∀ j, j < ops.length - 1 → ∃ e ∈ lo.after, e.on = j ∧ Region.binds .any e = true := by
    intro j hj
    have h1 := List.all_eq_true.1 hl j (List.mem_range.2 hj)
    simp at h1
    obtain ⟨i, hi, h2, h3⟩ := h1
    exact ⟨lo.after[i], Array.getElem_mem hi, h2, h3⟩
  refine wpIn_region_any hm (wpAnyF_inv (fun L a w => (L (ops.length - 1) = false ∧ I L a w) ∨ ((∀ j, j < ops.length → L j = true) ∧ Q .normal a w)) ?_ ?_ hw ops.toArray.size _ (fun _ => false) a _ (by simp) (fun i hi => by simp [hi]) ?_ (Or.inl ⟨rfl, h0⟩))
  · intro i o ho L a w hI hL hA K' hK
    have hi : i < ops.length := (List.getElem?_eq_some_iff.1 ho).1
    rcases hI with ⟨h1, hI⟩ | ⟨h1, _⟩
    · have h9 := eachOpL_at ops 0 step i o ho
      rw [Nat.zero_add] at h9
      by_cases hil : i + 1 = ops.length
      · obtain rfl : o = lo := by
          have : i = ops.length - 1 := by omega
          rw [this, hat] at ho
          exact (Option.some.inj ho).symm
        have hall : ∀ j, j < i → L j = true := by
          intro j hj
          obtain ⟨e, he, rfl, hb⟩ := hedge j (by omega)
          exact hA e he hb
        refine h9.2 hil L a w hI hall K' (fun a' w' hQ => hK.out a' w' (Or.inr ⟨fun j hj => ?_, hQ⟩))
        by_cases hji : j = i
        · subst hji; exact more_self L j
        · rw [more_ne hji]; exact hall j (by omega)
      · refine h9.1 (by omega) L a w hI hL hA K' (fun a' w' hI' => hK.out a' w' (Or.inl ⟨?_, hI'⟩))
        rw [more_ne (by omega)]
        exact h1
    · rw [h1 i hi] at hL
      cases hL
  · intro L a w hI hall
    rcases hI with ⟨h1, _⟩ | ⟨_, hQ⟩
    · rw [hall (ops.length - 1) (by omega)] at h1
      cases h1
    · exact hQ
  · simp

end
end Go.Proofs.YtbockbdlojkpiaaGreat
/- Proved here, for any program: a slice of structs of 2 ints as a list of rows in memory: kept, filled, owned, told to be the same, marked and found again. -/
namespace Go.Proofs.YtbockbdlojkpiaaGreat
open Go.ChangeShapes Go.WideShapes Go.ChangeAt Go.RowKit
set_option linter.unusedVariables false

/-- A row of 2 numbers. -/
structure WnR where
  a : Int
  b : Int
/-- A row lies in its cells; rows lie one behind the other; a slice's value holds rows. -/
def WnRAt (W : World) (g o : Nat) (x : WnR) : Prop := W.cell? ⟨g, o, none⟩ = some (.int .i64 x.a) ∧ W.cell? ⟨g, o + 1, none⟩ = some (.int .i64 x.b)
def WnRsAt (W : World) (g o : Nat) (xs : List WnR) : Prop := ∀ i x, xs[i]? = some x → WnRAt W g (o + i * 2) x
def WnRs (W : World) (a : Option Addr) (len : Nat) (xs : List WnR) : Prop := xs.length = len ∧ len ≤ maxLen ∧ (len = 0 ∨ ∃ g o, a = some ⟨g, o, none⟩ ∧ WnRsAt W g o xs)
theorem WnRAt.lt {W : World} {g o : Nat} {x : WnR} (h : WnRAt W g o x) : g < W.heap.size := by
  obtain ⟨h0, _⟩ := h
  rcases Nat.lt_or_ge g W.heap.size with hl | hg
  · exact hl
  · simp [World.cell?, Array.getElem?_eq_none hg] at h0
theorem WnRsAt.lt {W : World} {g o : Nat} {xs : List WnR} (h : WnRsAt W g o xs) (hp : 0 < xs.length) : g < W.heap.size := (h 0 xs[0] (List.getElem?_eq_getElem hp)).lt
theorem WnRAt.below {W W' : World} {B g o : Nat} {x : WnR} (h : WnRAt W g o x) (hb : Below B W W') (hg : g < B) : WnRAt W' g o x := by
  obtain ⟨h0, h1⟩ := h
  exact ⟨(hb.cell (p := ⟨g, _, none⟩) hg).trans h0, (hb.cell (p := ⟨g, _, none⟩) hg).trans h1⟩
theorem WnRsAt.below {W W' : World} {B g o : Nat} {xs : List WnR} (h : WnRsAt W g o xs) (hb : Below B W W') (hg : 0 < xs.length → g < B) : WnRsAt W' g o xs := by
  intro i x hx
  have hlt : i < xs.length := (List.getElem?_eq_some_iff.1 hx).1
  exact (h i x hx).below hb (hg (by omega))
theorem WnRs.below {W W' : World} {a : Option Addr} {len : Nat} {xs : List WnR} (h : WnRs W a len xs) (hb : Below W.heap.size W W') : WnRs W' a len xs := by
  obtain ⟨h1, h2, h3⟩ := h
  refine ⟨h1, h2, ?_⟩
  rcases h3 with h3 | ⟨g, o, ha, hr⟩
  · exact Or.inl h3
  · exact Or.inr ⟨g, o, ha, hr.below hb (fun hp => hr.lt hp)⟩
theorem WnRAt.grown {W W' : World} {row : Option Nat} {g o : Nat} {x : WnR} (h : WnRAt W g o x) (hg : W.grownBy W' row) (hne : some g ≠ row) : WnRAt W' g o x := by
  have hbk := hg.block g h.lt hne
  obtain ⟨h0, h1⟩ := h
  exact ⟨(World.cell?_of_block (w := W) hbk).trans h0, (World.cell?_of_block (w := W) hbk).trans h1⟩
theorem WnRs.grown {W W' : World} {row : Option Nat} {a : Option Addr} {n : Nat} {xs : List WnR} (h : WnRs W a n xs) (hg : W.grownBy W' row) (hne : ∀ g o, 0 < n → a = some ⟨g, o, none⟩ → some g ≠ row) : WnRs W' a n xs := by
  obtain ⟨h1, h2, h3⟩ := h
  refine ⟨h1, h2, ?_⟩
  rcases h3 with h3 | ⟨g, o, ha, hr⟩
  · exact Or.inl h3
  · refine Or.inr ⟨g, o, ha, fun i x hx => (hr i x hx).grown hg (hne g o ?_ ha)⟩
    have hlt : i < xs.length := (List.getElem?_eq_some_iff.1 hx).1
    omega
theorem WnRs.lt {W : World} {g o n : Nat} {xs : List WnR} (h : WnRs W (some ⟨g, o, none⟩) n xs) (hp : 0 < n) : g < W.heap.size := by
  obtain ⟨h1, h2, h3⟩ := h
  obtain ⟨g', o', ha, hr⟩ := h3.resolve_left (by omega)
  simp at ha
  have := hr.lt (by omega)
  omega

/-- A row is stored; a block of rows, known whole. -/
def setWn (W : World) (g o : Nat) (x : WnR) : World := ((W.setCell ⟨g, o, none⟩ (.int .i64 x.a)).setCell ⟨g, o + 1, none⟩ (.int .i64 x.b))
def BlkWn (W : World) (g ty len : Nat) : Prop := ∃ cur, W.heap[g]? = some (.cells cur ty (0, 0)) ∧ cur.size = len * 2
theorem BlkWn.set {W : World} {g ty len i : Nat} (h : BlkWn W g ty len) (v : Value) : BlkWn (W.setCell ⟨g, i, none⟩ v) g ty len := by
  obtain ⟨cur, h1, h2⟩ := h
  exact ⟨_, Joins.block_setCell h1 v, by simp [h2]⟩
theorem BlkWn.below {W W' : World} {g ty len B : Nat} (h : BlkWn W g ty len) (hb : Below B W W') (hg : g < B) : BlkWn W' g ty len := by
  obtain ⟨cur, h1, h2⟩ := h
  exact ⟨cur, (hb.block g hg).trans h1, h2⟩
theorem BlkWn.lt {W : World} {g ty len : Nat} (h : BlkWn W g ty len) : g < W.heap.size := by
  obtain ⟨cur, h1, h2⟩ := h
  exact (Array.getElem?_eq_some_iff.1 h1).1
theorem BlkWn.cell {W : World} {g ty len i : Nat} (h : BlkWn W g ty len) (hi : i < len * 2) : ∃ u, W.cell? ⟨g, i, none⟩ = some u := by
  obtain ⟨cur, h1, h2⟩ := h
  exact ⟨_, (Joins.cell_of_block h1 i).trans (Array.getElem?_eq_getElem (by omega))⟩
theorem BlkWn.frozen {W : World} {g ty len i : Nat} (h : BlkWn W g ty len) : W.frozen? ⟨g, i, none⟩ = false := by
  obtain ⟨cur, h1, h2⟩ := h
  exact Joins.unfrozen_of_block h1 i
theorem BlkWn.cells {W : World} {g ty len k : Nat} (h : BlkWn W g ty len) (hk : k < len) : (∃ u, W.cell? ⟨g, k * 2, none⟩ = some u) ∧ (∃ u, W.cell? ⟨g, k * 2 + 1, none⟩ = some u) := ⟨h.cell (by omega), h.cell (by omega)⟩
theorem BlkWn.sets {W : World} {g ty len o : Nat} (h : BlkWn W g ty len) (x : WnR) : BlkWn (setWn W g o x) g ty len := ((h.set _).set _)
theorem Wn_other {W : World} {g i j : Nat} {v : Value} (h : i ≠ j) : (W.setCell ⟨g, i, none⟩ v).cell? ⟨g, j, none⟩ = W.cell? ⟨g, j, none⟩ := World.cell?_setCell_other _ _ _ _ (by intro e; injection e with e1 e2; exact h e2)
theorem Wn_this {W : World} {g ty len i : Nat} {v : Value} (h : BlkWn W g ty len) (hi : i < len * 2) : (W.setCell ⟨g, i, none⟩ v).cell? ⟨g, i, none⟩ = some v := by
  obtain ⟨u, hu⟩ := h.cell hi
  exact World.cell?_setCell_same _ _ _ hu
theorem setWn_this {W : World} {g ty len k : Nat} (h : BlkWn W g ty len) (hk : k < len) (x : WnR) : WnRAt (setWn W g (k * 2) x) g (k * 2) x := by
  unfold setWn
  refine ⟨?_, ?_⟩
  · rw [Wn_other (by omega), Wn_this h (by omega)]
  · rw [Wn_this (h.set _) (by omega)]
theorem setWn_ne {W : World} {g i k : Nat} {x y : WnR} (h : WnRAt W g (i * 2) y) (hk : i ≠ k) : WnRAt (setWn W g (k * 2) x) g (i * 2) y := by
  unfold setWn
  obtain ⟨h0, h1⟩ := h
  refine ⟨?_, ?_⟩
  · rw [Wn_other (by omega), Wn_other (by omega)]; exact h0
  · rw [Wn_other (by omega), Wn_other (by omega)]; exact h1
theorem grown_setWn {W W' : World} {g o : Nat} {x : WnR} (h : W.grownBy W' (some g)) : W.grownBy (setWn W' g o x) (some g) := by
  have hs : ∀ (X : World) (i : Nat) (v : Value), W.grownBy X (some g) → W.grownBy (X.setCell ⟨g, i, none⟩ v) (some g) := by
    intro X i v hX
    exact ⟨hX.os, hX.tape, hX.output, by simp [World.setCell]; exact hX.size, fun k hk hne => (Below.heap_setCell X _ v k (fun e => hne (by rw [e]))).trans (hX.block k hk hne)⟩
  exact hs _ _ _ (hs _ _ _ (h))

/-- The cells of rows; a slice of the call's own that holds rows. -/
def WnR.cells (x : WnR) : List Value := [.int .i64 x.a, .int .i64 x.b]
def flatWn (xs : List WnR) : List Value := xs.flatMap WnR.cells
theorem flatWn_snoc (xs : List WnR) (x : WnR) : flatWn (xs ++ [x]) = flatWn xs ++ x.cells := by simp [flatWn]
theorem flatWn_len (xs : List WnR) : (flatWn xs).length = xs.length * 2 := by
  induction xs with
  | nil => rfl
  | cons x r ih => show (x.cells ++ flatWn r).length = _; rw [List.length_append, ih]; simp [WnR.cells]; omega
theorem flatWn_get {xs : List WnR} {i : Nat} {x : WnR} (h : xs[i]? = some x) : (flatWn xs)[i * 2]? = some (.int .i64 x.a) ∧ (flatWn xs)[i * 2 + 1]? = some (.int .i64 x.b) := by
  induction xs generalizing i with
  | nil => simp at h
  | cons y r ih =>
    have hf : flatWn (y :: r) = y.cells ++ flatWn r := rfl
    cases i with
    | zero =>
      simp at h
      subst h
      rw [hf]
      exact ⟨rfl, rfl⟩
    | succ i =>
      simp at h
      obtain ⟨h0, h1⟩ := ih h
      have hl : y.cells.length = 2 := rfl
      rw [hf]
      refine ⟨?_, ?_⟩
      · rw [List.getElem?_append_right (by omega), hl, show (i + 1) * 2 - 2 = i * 2 by omega]; exact h0
      · rw [List.getElem?_append_right (by omega), hl, show (i + 1) * 2 + 1 - 2 = i * 2 + 1 by omega]; exact h1
def OwnWn (W : World) (B : Nat) (v : Value) (ys : List WnR) : Prop := W.ownsRow B 35 2 v ys.length (flatWn ys)
theorem ownWn_ge {W : World} {B : Nat} {v : Value} {ys : List WnR} (h : OwnWn W B v ys) : ∀ k, v.ownBlock = some k → B ≤ k := by
  intro k hk
  rcases h.2 with ⟨rfl, _⟩ | ⟨g, cap, cur, rfl, hg, _⟩
  · cases hk
  · simp [Value.ownBlock] at hk; omega
theorem ownWn_snoc {w1 : World} {B : Nat} {v' : Value} {ys : List WnR} {x : WnR} (ho : w1.ownsRow B 35 2 v' (ys.length + 1) (flatWn ys ++ x.cells)) : OwnWn w1 B v' (ys ++ [x]) := by
  unfold OwnWn
  rw [flatWn_snoc]
  simpa using ho
theorem cells_newWn (w : World) (a b : Int) (ty : Nat) : ∀ j u, ([.int .i64 a, .int .i64 b] : List Value)[j]? = some u → (w.alloc (.cells #[.int .i64 a, .int .i64 b] ty)).cell? ((⟨w.heap.size, 0, none⟩ : Addr).add j) = some u := by
  intro j u hj
  have e : ((⟨w.heap.size, 0, none⟩ : Addr).add j) = ⟨w.heap.size, j, none⟩ := by
    unfold Addr.add
    split
    · rename_i h0; rw [h0]
    · simp
  rw [e]
  simpa [go_sem] using hj
theorem cells_atWn (w : World) (a b : Int) (ty : Nat) {g : Nat} (hg : g = w.heap.size) : ∀ j u, ([.int .i64 a, .int .i64 b] : List Value)[j]? = some u → (w.alloc (.cells #[.int .i64 a, .int .i64 b] ty)).cell? ((⟨g, 0, none⟩ : Addr).add j) = some u := by
  subst hg
  exact cells_newWn w a b ty

/-- The block of a slice's rows, if there are any; what may be written; what has been marked. -/
def rowWn (a : Option Addr) (n : Nat) : Option Nat := if n = 0 then none else a.map (·.block)
theorem rowWn_zero (a : Option Addr) : rowWn a 0 = none := rfl
theorem rowWn_pos {n : Nat} (h : n ≠ 0) (g o : Nat) : rowWn (some ⟨g, o, none⟩) n = some g := by unfold rowWn; rw [if_neg h]; rfl
def markWn (i : Nat) : WnR := ⟨1 + 2 * (i : Int), 1 + 2 * (i : Int) + 1⟩
def WrWn (W : World) (a : Option Addr) (n cap : Nat) : Prop := n = 0 ∨ ∃ g, a = some ⟨g, 0, none⟩ ∧ BlkWn W g 35 cap ∧ n ≤ cap
def MarkedWn (W : World) (a : Option Addr) (n : Nat) : Prop := n = 0 ∨ ∃ g, a = some ⟨g, 0, none⟩ ∧ ∀ i, i < n → WnRAt W g (i * 2) (markWn i)
theorem grown0Wn {W W' : World} (h : Below W.heap.size W W') : W.grownBy W' none := ⟨h.os, h.tape, h.output, h.size, fun k hk _ => h.block k hk⟩
theorem growWn {w W W' : World} {row : Option Nat} (h : Below w.heap.size w W) (hg : W.grownBy W' row) (hr : ∀ k, row = some k → w.heap.size ≤ k) : Below w.heap.size w W' := h.grown hg h.size hr
theorem MarkedWn.below {W W' : World} {a : Option Addr} {n : Nat} (h : MarkedWn W a n) (hb : Below W.heap.size W W') : MarkedWn W' a n := by
  rcases h with h | ⟨g, ha, hM⟩
  · exact Or.inl h
  · exact Or.inr ⟨g, ha, fun i hi => (hM i hi).below hb (hM i hi).lt⟩
theorem holdWn {W : World} {B : Nat} {v : Value} {ys : List WnR} (h : OwnWn W B v ys) (hl : ys.length ≤ 1048576) :
    ∃ a cap, v = .slice a ys.length cap ∧ WnRs W a ys.length ys ∧ WrWn W a ys.length cap ∧ ∀ g o, 0 < ys.length → a = some ⟨g, o, none⟩ → B ≤ g := by
  have hm : ys.length ≤ maxLen := by unfold maxLen; omega
  obtain ⟨hlen, h | ⟨g, cap, cur, rfl, hB, hblk, hnc, hcm, hsz, htk⟩⟩ := h
  · obtain ⟨rfl, h0⟩ := h
    rw [h0]
    exact ⟨none, 0, rfl, ⟨h0, Nat.zero_le _, Or.inl rfl⟩, Or.inl rfl, fun _ _ hp => by omega⟩
  · refine ⟨_, cap, rfl, ⟨rfl, hm, Or.inr ⟨g, 0, rfl, ?_⟩⟩, Or.inr ⟨g, rfl, ⟨cur, hblk, hsz⟩, hnc⟩, fun g' o' _ e => by simp at e; omega⟩
    intro i x hx
    have hi : i < ys.length := (List.getElem?_eq_some_iff.1 hx).1
    have hcell : ∀ j u, j < ys.length * 2 → (flatWn ys)[j]? = some u → W.cell? ⟨g, j, none⟩ = some u := by
      intro j u hj hu
      rw [Joins.cell_of_block hblk j, ← Array.getElem?_toList]
      rw [← htk, List.getElem?_take_of_lt hj] at hu
      exact hu
    obtain ⟨f0, f1⟩ := flatWn_get hx
    rw [Nat.zero_add]
    exact ⟨hcell _ _ (by omega) f0, hcell _ _ (by omega) f1⟩
theorem WrWn.below {W W' : World} {a : Option Addr} {n cap : Nat} (h : WrWn W a n cap) (hb : Below W.heap.size W W') : WrWn W' a n cap := by
  rcases h with h | ⟨g, ha, hB, hc⟩
  · exact Or.inl h
  · exact Or.inr ⟨g, ha, hB.below hb hB.lt, hc⟩
theorem WrWn.grown {W W' : World} {row : Option Nat} {a : Option Addr} {n cap : Nat} (h : WrWn W a n cap) (hg : W.grownBy W' row) (hne : ∀ g o, 0 < n → a = some ⟨g, o, none⟩ → some g ≠ row) : WrWn W' a n cap := by
  rcases h with h | ⟨g, ha, hB, hc⟩
  · exact Or.inl h
  · by_cases h0 : n = 0
    · exact Or.inl h0
    · obtain ⟨cur, c1, c2⟩ := hB
      exact Or.inr ⟨g, ha, ⟨cur, (hg.block g (Array.getElem?_eq_some_iff.1 c1).1 (hne g 0 (by omega) ha)).trans c1, c2⟩, hc⟩
theorem WrWn.shape {W : World} {a : Option Addr} {n cap : Nat} (h : WrWn W a n cap) : n = 0 ∨ ∃ g', a = some ⟨g', 0, none⟩ := by
  rcases h with h | ⟨g, ha, _⟩
  · exact Or.inl h
  · exact Or.inr ⟨g, ha⟩
theorem rowWn_ne {a : Option Addr} {n g : Nat} (h : ∀ g' o', 0 < n → a = some ⟨g', o', none⟩ → g ≠ g') (hs : n = 0 ∨ ∃ g', a = some ⟨g', 0, none⟩) : some g ≠ rowWn a n := by
  rcases hs with rfl | ⟨g', rfl⟩
  · simp [rowWn_zero]
  · by_cases h0 : n = 0
    · subst h0; simp [rowWn_zero]
    · rw [rowWn_pos h0]
      have := h g' 0 (by omega) rfl
      simpa using this
theorem rowWn_ge {a : Option Addr} {n B : Nat} (h : ∀ g' o', 0 < n → a = some ⟨g', o', none⟩ → B ≤ g') (hs : n = 0 ∨ ∃ g', a = some ⟨g', 0, none⟩) : ∀ k, rowWn a n = some k → B ≤ k := by
  intro k hk
  rcases hs with rfl | ⟨g', rfl⟩
  · simp [rowWn_zero] at hk
  · by_cases h0 : n = 0
    · subst h0; simp [rowWn_zero] at hk
    · rw [rowWn_pos h0] at hk
      have := h g' 0 (by omega) rfl
      simp at hk
      omega
theorem markWn_step {w wr : World} {g ty cap j : Nat} (hB : BlkWn wr g ty cap) (hj : j < cap) (hM : ∀ i, i < j → WnRAt wr g (i * 2) (markWn i)) (hG : w.grownBy wr (some g)) :
    BlkWn (setWn wr g (j * 2) (markWn j)) g ty cap ∧ (∀ i, i < j + 1 → WnRAt (setWn wr g (j * 2) (markWn j)) g (i * 2) (markWn i)) ∧ w.grownBy (setWn wr g (j * 2) (markWn j)) (some g) := by
  refine ⟨hB.sets _, fun i hi => ?_, grown_setWn hG⟩
  by_cases he : i = j
  · subst he
    exact setWn_this hB hj (markWn i)
  · exact setWn_ne (hM i (by omega)) he

end Go.Proofs.YtbockbdlojkpiaaGreat
/- Proved here: the windows of a time, in the program's parts and in the specification, in new memory. -/
namespace Go.Proofs.YtbockbdlojkpiaaGreat
open Go.ChangeShapes Go.WideShapes Go.ChangeAt Go.RowKit
set_option linter.unusedVariables false

/-- The windows that slide, from a start on. -/
def slideGo (z p t : Int) : Nat → Int → List WnR
  | 0, _ => []
  | n + 1, s => if s ≤ t then (if t < s + z then ⟨s, s + z⟩ :: slideGo z p t n (s + p) else slideGo z p t n (s + p)) else []
theorem slideGo_end {z p t : Int} {n : Nat} {s : Int} (h : ¬ s ≤ t) : slideGo z p t n s = [] := by
  cases n with
  | zero => rfl
  | succ n => exact if_neg h
theorem slideGo_in {z p t : Int} {n : Nat} {s : Int} (h : s ≤ t) (h2 : t < s + z) : slideGo z p t (n + 1) s = ⟨s, s + z⟩ :: slideGo z p t n (s + p) := by
  show (if s ≤ t then _ else _) = _
  rw [if_pos h, if_pos h2]
theorem slideGo_out {z p t : Int} {n : Nat} {s : Int} (h : s ≤ t) (h2 : ¬ t < s + z) : slideGo z p t (n + 1) s = slideGo z p t n (s + p) := by
  show (if s ≤ t then _ else _) = _
  rw [if_pos h, if_neg h2]
theorem slideGo_len (z p t : Int) (n : Nat) (s : Int) : (slideGo z p t n s).length ≤ n := by
  induction n generalizing s with
  | zero => exact Nat.le_refl _
  | succ n ih =>
    have := ih (s + p)
    show (if s ≤ t then _ else _ : List WnR).length ≤ _
    split
    · split
      · simp; omega
      · omega
    · simp
/-- The windows of a time. -/
def winsOf (k z p t : Int) : List WnR := if k = 1 then [⟨t - t % z, t - t % z + z⟩] else if k = 3 then [⟨t, t + z⟩] else slideGo z p t 61 0
theorem winsOf_len (k z p t : Int) : (winsOf k z p t).length ≤ 61 := by
  unfold winsOf
  split
  · simp
  · split
    · simp
    · exact slideGo_len _ _ _ _ _
theorem snocW (total ys rest : List WnR) (x : WnR) (h : total = ys ++ x :: rest) : total = (ys ++ [x]) ++ rest := by rw [h]; simp
theorem Tryz.infoWin : (Tryz.prog.info? 35).map (fun i => (i.zero, i.size, i.bytes)) = some (some (.agg #[.int .i64 0, .int .i64 0]), 2, 16) := by kernel_rfl
theorem own_lit1 {W : World} {B : Nat} (h : B ≤ W.heap.size) (a b : Int) : OwnWn (W.alloc (.cells #[.int .i64 a, .int .i64 b] 35)) B (.slice (some ⟨W.heap.size, 0, none⟩) 1 1) [⟨a, b⟩] :=
  World.ownsRow_lit (base := B) (size := 2) W #[.int .i64 a, .int .i64 b] 1 h (by decide) rfl
theorem World.ownsRow.below {W W' : World} {B : Nat} {e : TypeId} {size n : Nat} {v : Value} {xs : List Value} (h : W.ownsRow B e size v n xs) (hb : Below W.heap.size W W') : W'.ownsRow B e size v n xs :=
  h.kept (grown0Wn hb) (by cases h5 : v.ownBlock <;> simp)
theorem own_lit0 {W : World} {B g : Nat} (h : B ≤ W.heap.size) (hg : g = W.heap.size) : OwnWn (W.alloc (.cells #[] 35)) B (.slice (some ⟨g, 0, none⟩) 0 0) [] := by
  subst hg
  exact World.ownsRow_lit (base := B) (size := 2) W #[] 0 h (by decide) rfl

theorem from_any (s t k z p l e : Int) (b : Bool) (v r : Int) (st : Int) (hs : 0 ≤ st ∧ st ≤ 1000) (hz : 1 ≤ z ∧ z ≤ 20) (w : World) : Calls Tryz.prog 58 #[.agg #[.int .i64 s, .int .i64 t, .int .i64 k, .int .i64 z, .int .i64 p, .int .i64 l, .int .i64 e, .bool b, .int .i64 v, .int .i64 r], .int .i64 st] w fun e' w' => e' = .returned (.agg #[.int .i64 st, .int .i64 (st + z)]) ∧ Below w.heap.size w w' := by
  go_enter Tryz.func58, Tryz.ntmps58
  go_wp2
  refine bodyPost_ret (v := .agg #[.int .i64 st, .int .i64 (st + z)]) (by simp [results, Tryz.results58, go_sem]) rfl ⟨rfl, ?_⟩
  exact (by repeat (first | (with_reducible refine bel_set ?_ (by first | (simp; done) | (simp; omega)) _) | (with_reducible refine bel_alloc ?_ _) | (with_reducible exact Below.refl _ _) | (with_reducible assumption) | (with_reducible refine bel_drew ?_) | (with_reducible refine bel_drewN ?_ _) | (with_reducible refine bel_trans ?_ (by with_reducible assumption))))

theorem fixed_any (s t k z p l e : Int) (b : Bool) (v r : Int) (T : Int) (hT : 0 ≤ T ∧ T ≤ 60) (hz : 1 ≤ z ∧ z ≤ 20) (w : World) : Calls Tryz.prog 37 #[.agg #[.int .i64 s, .int .i64 t, .int .i64 k, .int .i64 z, .int .i64 p, .int .i64 l, .int .i64 e, .bool b, .int .i64 v, .int .i64 r], .int .i64 T] w fun e' w' => ∃ v', e' = .returned v' ∧ OwnWn w' w.heap.size v' ([⟨T - T % z, T - T % z + z⟩]) ∧ Below w.heap.size w w' := by
  have hmod : 0 ≤ T % z ∧ T % z ≤ T := ⟨Int.emod_nonneg _ (by omega), by have := Int.emod_add_mul_ediv T z; have := Int.ediv_nonneg (a := T) (b := z) (by omega) (by omega); have := Int.mul_nonneg (a := z) (b := T / z) (by omega) (by omega); omega⟩
  have hwr : IntKind.i64.wrap (T - T % z) = T - T % z := IntWalk.i64_in _ (by omega)
  go_enter Tryz.func37, Tryz.ntmps37
  go_wp2
  go_region_with (first
    | (go_at_call 58; (try rw [hwr]); refine (from_any _ _ _ _ _ _ _ _ _ _ _ (by omega) (by omega) _).mono ?_; rintro e' w' ⟨rfl, hb⟩; obtain ⟨hc, hf, hs⟩ := bcell hb; (try have hz0 : w.heap.size < w'.heap.size := (by have h9 := hb.size; (try simp at h9); omega))))
  all_goals go_wp2
  all_goals
    go_ret
    refine ⟨_, rfl, own_lit1 (by have := hb.size; simp at this; omega) _ _, (by repeat (first | (with_reducible refine bel_set ?_ (by first | (simp; done) | (simp; omega)) _) | (with_reducible refine bel_alloc ?_ _) | (with_reducible exact Below.refl _ _) | (with_reducible assumption) | (with_reducible refine bel_drew ?_) | (with_reducible refine bel_drewN ?_ _) | (with_reducible refine bel_trans ?_ (by with_reducible assumption))))⟩

theorem session_any (s t k z p l e : Int) (b : Bool) (v r : Int) (T : Int) (hT : 0 ≤ T ∧ T ≤ 60) (hz : 1 ≤ z ∧ z ≤ 20) (w : World) : Calls Tryz.prog 39 #[.agg #[.int .i64 s, .int .i64 t, .int .i64 k, .int .i64 z, .int .i64 p, .int .i64 l, .int .i64 e, .bool b, .int .i64 v, .int .i64 r], .int .i64 T] w fun e' w' => ∃ v', e' = .returned v' ∧ OwnWn w' w.heap.size v' ([⟨T, T + z⟩]) ∧ Below w.heap.size w w' := by
  have hmod : 0 ≤ T % z ∧ T % z ≤ T := ⟨Int.emod_nonneg _ (by omega), by have := Int.emod_add_mul_ediv T z; have := Int.ediv_nonneg (a := T) (b := z) (by omega) (by omega); have := Int.mul_nonneg (a := z) (b := T / z) (by omega) (by omega); omega⟩
  have hwr : IntKind.i64.wrap (T - T % z) = T - T % z := IntWalk.i64_in _ (by omega)
  go_enter Tryz.func39, Tryz.ntmps39
  go_wp2_with (first
    | (go_at_call 58; (try rw [hwr]); refine (from_any _ _ _ _ _ _ _ _ _ _ _ (by omega) (by omega) _).mono ?_; rintro e' w' ⟨rfl, hb⟩; obtain ⟨hc, hf, hs⟩ := bcell hb; (try have hz0 : w.heap.size < w'.heap.size := (by have h9 := hb.size; (try simp at h9); omega))))
  all_goals
    go_ret
    refine ⟨_, rfl, own_lit1 (by have := hb.size; simp at this; omega) _ _, (by repeat (first | (with_reducible refine bel_set ?_ (by first | (simp; done) | (simp; omega)) _) | (with_reducible refine bel_alloc ?_ _) | (with_reducible exact Below.refl _ _) | (with_reducible assumption) | (with_reducible refine bel_drew ?_) | (with_reducible refine bel_drewN ?_ _) | (with_reducible refine bel_trans ?_ (by with_reducible assumption))))⟩

end Go.Proofs.YtbockbdlojkpiaaGreat
/- Proved here: the windows that slide, in the program and in the specification, in new memory. -/
namespace Go.Proofs.YtbockbdlojkpiaaGreat
open Go.ChangeShapes Go.WideShapes Go.ChangeAt Go.RowKit
set_option linter.unusedVariables false

set_option maxRecDepth 20000 in
set_option maxHeartbeats 2000000 in
theorem specslide_any (s t k z p l e : Int) (b : Bool) (v r : Int) (T : Int) (hT : 0 ≤ T ∧ T ≤ 60) (hz : 1 ≤ z ∧ z ≤ 20) (hp : 1 ≤ p ∧ p ≤ 20) (hk : k = 2) (w : World) : Calls Tryz.prog 49 #[.agg #[.int .i64 s, .int .i64 t, .int .i64 k, .int .i64 z, .int .i64 p, .int .i64 l, .int .i64 e, .bool b, .int .i64 v, .int .i64 r], .int .i64 T] w fun e' w' => ∃ v', e' = .returned v' ∧ OwnWn w' w.heap.size v' (slideGo z p T 61 0) ∧ Below w.heap.size w w' := by
  subst hk
  obtain ⟨i0, hi, hz0, hz1, hz2⟩ := info_parts Tryz.infoWin
  go_enter Tryz.func49, Tryz.ntmps49
  go_wp2
  go_loopw [5, 6] (fun v' s' wr => ∃ (st : Int) (n : Nat) (ys : List WnR), s' = .int .i64 st ∧ 0 ≤ st ∧ st ≤ 80 ∧ T + 1 ≤ st + n ∧ n + ys.length ≤ 61 ∧ Hid (slideGo z p T 61 0 = ys ++ slideGo z p T n st) ∧ OwnWn wr (w.heap.size + 1) v' ys ∧ Below (w.heap.size + 1) (w.alloc (.cells #[.int .i64 s, .int .i64 t, .int .i64 2, .int .i64 z, .int .i64 p, .int .i64 l, .int .i64 e, .bool b, .int .i64 v, .int .i64 r] 24)) wr) (fun _ s' _ => (T + 1 - intOf s').toNat)
  case atStart => exact ⟨0, 61, [], rfl, by omega, by omega, by omega, by simp, hide rfl, own_lit0 (W := (w.alloc (.cells #[.int .i64 s, .int .i64 t, .int .i64 2, .int .i64 z, .int .i64 p, .int .i64 l, .int .i64 e, .bool b, .int .i64 v, .int .i64 r] 24))) (B := w.heap.size + 1) (by simp) (by simp), (Below.refl (w.heap.size + 1) (w.alloc (.cells #[.int .i64 s, .int .i64 t, .int .i64 2, .int .i64 z, .int .i64 p, .int .i64 l, .int .i64 e, .bool b, .int .i64 v, .int .i64 r] 24))).alloc (by simp) _⟩
  case round =>
    obtain ⟨st, n, ys, rfl, hs0, hs1, hsn, hyn, HQ, hO, hbw⟩ := hrel
    have hws : w.heap.size + 1 ≤ wr.heap.size := by have := hbw.size; simpa using this
    have hgs : w.heap.size < wr.heap.size := by omega
    have c0 : wr.cell? ⟨w.heap.size, 0, none⟩ = some (.int .i64 s) := (hbw.cell (p := ⟨w.heap.size, 0, none⟩) (by simp)).trans (by simp [go_sem])
    have c1 : wr.cell? ⟨w.heap.size, 1, none⟩ = some (.int .i64 t) := (hbw.cell (p := ⟨w.heap.size, 1, none⟩) (by simp)).trans (by simp [go_sem])
    have c2 : wr.cell? ⟨w.heap.size, 2, none⟩ = some (.int .i64 2) := (hbw.cell (p := ⟨w.heap.size, 2, none⟩) (by simp)).trans (by simp [go_sem])
    have c3 : wr.cell? ⟨w.heap.size, 3, none⟩ = some (.int .i64 z) := (hbw.cell (p := ⟨w.heap.size, 3, none⟩) (by simp)).trans (by simp [go_sem])
    have c4 : wr.cell? ⟨w.heap.size, 4, none⟩ = some (.int .i64 p) := (hbw.cell (p := ⟨w.heap.size, 4, none⟩) (by simp)).trans (by simp [go_sem])
    have c5 : wr.cell? ⟨w.heap.size, 5, none⟩ = some (.int .i64 l) := (hbw.cell (p := ⟨w.heap.size, 5, none⟩) (by simp)).trans (by simp [go_sem])
    have c6 : wr.cell? ⟨w.heap.size, 6, none⟩ = some (.int .i64 e) := (hbw.cell (p := ⟨w.heap.size, 6, none⟩) (by simp)).trans (by simp [go_sem])
    have c7 : wr.cell? ⟨w.heap.size, 7, none⟩ = some (.bool b) := (hbw.cell (p := ⟨w.heap.size, 7, none⟩) (by simp)).trans (by simp [go_sem])
    have c8 : wr.cell? ⟨w.heap.size, 8, none⟩ = some (.int .i64 v) := (hbw.cell (p := ⟨w.heap.size, 8, none⟩) (by simp)).trans (by simp [go_sem])
    have c9 : wr.cell? ⟨w.heap.size, 9, none⟩ = some (.int .i64 r) := (hbw.cell (p := ⟨w.heap.size, 9, none⟩) (by simp)).trans (by simp [go_sem])
    have HO := hide hO
    have hge := hide (ownWn_ge hO)
    clear hO
    by_cases h1 : st ≤ T
    · obtain ⟨n, rfl⟩ : ∃ m, n = m + 1 := ⟨n - 1, by omega⟩
      by_cases h2 : T < st + z
      · have HQ2 := hide (snocW _ _ _ _ ((unhide HQ).trans (by rw [slideGo_in h1 h2])))
        clear HQ
        go_wp2_with (first
          | (at_builtin; go_loud (refine wpList_append_own _ rfl _ _ 50 rfl (w.heap.size + 1) 35 i0 _ 2 16 Tryz.underlying50 hi hz0 hz1 hz2 rfl (by decide) u5 _ _ rfl (World.ownsRow.alloc (unhide HO) _) ⟨wr.heap.size, 0, none⟩ 1 1 [.int .i64 st, .int .i64 (st + z)] rfl rfl (cells_newWn wr st (st + z) _) (by simp [Value.oneCell']) (by unfold maxLen; omega) (by omega) (by have := hbw.size; simp at this ⊢; omega) ?_); intro v' w1 hown' hgrow _; go_loud (have hb1 := (hbw.alloc hws _).grown hgrow (by simp; omega) (unhide hge)); go_loud (have d4 : w1.cell? ⟨w.heap.size, 4, none⟩ = some (.int .i64 p) := (hb1.cell (p := ⟨w.heap.size, 4, none⟩) (by simp)).trans (by simp [go_sem]))))
        go_roundw
        case rel => exact ⟨st + p, n, ys ++ [⟨st, st + z⟩], rfl, by omega, by omega, by omega, by simp; omega, HQ2, ownWn_snoc (x := ⟨st, st + z⟩) hown', hb1⟩
        case measure => simp [intOf]; omega
      · have HQ2 := hide ((unhide HQ).trans (by rw [slideGo_out h1 h2]))
        clear HQ
        go_wp2
        go_roundw
        case rel => exact ⟨st + p, n, ys, rfl, by omega, by omega, by omega, by omega, HQ2, unhide HO, hbw⟩
        case measure => simp [intOf]; omega
    · have HQ2 : Hid (slideGo z p T 61 0 = ys) := hide ((unhide HQ).trans (by rw [slideGo_end h1]; simp))
      clear HQ
      go_wp2
      go_ret
      refine ⟨_, rfl, ?_, ?_⟩
      · rw [unhide HQ2]; exact World.ownsRow.mono (unhide HO) (by omega)
      · exact bel_trans (bel_one _ _) (by simpa using hbw)

end Go.Proofs.YtbockbdlojkpiaaGreat
/- Proved here: the windows that slide, in the program and in the specification, in new memory. -/
namespace Go.Proofs.YtbockbdlojkpiaaGreat
open Go.ChangeShapes Go.WideShapes Go.ChangeAt Go.RowKit
set_option linter.unusedVariables false

set_option maxRecDepth 20000 in
set_option maxHeartbeats 2000000 in
theorem slide_any (s t k z p l e : Int) (b : Bool) (v r : Int) (T : Int) (hT : 0 ≤ T ∧ T ≤ 60) (hz : 1 ≤ z ∧ z ≤ 20) (hp : 1 ≤ p ∧ p ≤ 20) (w : World) : Calls Tryz.prog 38 #[.agg #[.int .i64 s, .int .i64 t, .int .i64 k, .int .i64 z, .int .i64 p, .int .i64 l, .int .i64 e, .bool b, .int .i64 v, .int .i64 r], .int .i64 T] w fun e' w' => ∃ v', e' = .returned v' ∧ OwnWn w' w.heap.size v' (slideGo z p T 61 0) ∧ Below w.heap.size w w' := by
  skip
  obtain ⟨i0, hi, hz0, hz1, hz2⟩ := info_parts Tryz.infoWin
  go_enter Tryz.func38, Tryz.ntmps38
  go_wp2
  go_loopw [5, 6] (fun v' s' wr => ∃ (st : Int) (n : Nat) (ys : List WnR), s' = .int .i64 st ∧ 0 ≤ st ∧ st ≤ 80 ∧ T + 1 ≤ st + n ∧ n + ys.length ≤ 61 ∧ Hid (slideGo z p T 61 0 = ys ++ slideGo z p T n st) ∧ OwnWn wr (w.heap.size + 1) v' ys ∧ Below (w.heap.size + 1) (w.alloc (.cells #[.int .i64 s, .int .i64 t, .int .i64 k, .int .i64 z, .int .i64 p, .int .i64 l, .int .i64 e, .bool b, .int .i64 v, .int .i64 r] 24)) wr) (fun _ s' _ => (T + 1 - intOf s').toNat)
  case atStart => exact ⟨0, 61, [], rfl, by omega, by omega, by omega, by simp, hide rfl, World.ownsRow_nil _ _ _ _, Below.refl _ _⟩
  case round =>
    obtain ⟨st, n, ys, rfl, hs0, hs1, hsn, hyn, HQ, hO, hbw⟩ := hrel
    have hws : w.heap.size + 1 ≤ wr.heap.size := by have := hbw.size; simpa using this
    have hgs : w.heap.size < wr.heap.size := by omega
    have c0 : wr.cell? ⟨w.heap.size, 0, none⟩ = some (.int .i64 s) := (hbw.cell (p := ⟨w.heap.size, 0, none⟩) (by simp)).trans (by simp [go_sem])
    have c1 : wr.cell? ⟨w.heap.size, 1, none⟩ = some (.int .i64 t) := (hbw.cell (p := ⟨w.heap.size, 1, none⟩) (by simp)).trans (by simp [go_sem])
    have c2 : wr.cell? ⟨w.heap.size, 2, none⟩ = some (.int .i64 k) := (hbw.cell (p := ⟨w.heap.size, 2, none⟩) (by simp)).trans (by simp [go_sem])
    have c3 : wr.cell? ⟨w.heap.size, 3, none⟩ = some (.int .i64 z) := (hbw.cell (p := ⟨w.heap.size, 3, none⟩) (by simp)).trans (by simp [go_sem])
    have c4 : wr.cell? ⟨w.heap.size, 4, none⟩ = some (.int .i64 p) := (hbw.cell (p := ⟨w.heap.size, 4, none⟩) (by simp)).trans (by simp [go_sem])
    have c5 : wr.cell? ⟨w.heap.size, 5, none⟩ = some (.int .i64 l) := (hbw.cell (p := ⟨w.heap.size, 5, none⟩) (by simp)).trans (by simp [go_sem])
    have c6 : wr.cell? ⟨w.heap.size, 6, none⟩ = some (.int .i64 e) := (hbw.cell (p := ⟨w.heap.size, 6, none⟩) (by simp)).trans (by simp [go_sem])
    have c7 : wr.cell? ⟨w.heap.size, 7, none⟩ = some (.bool b) := (hbw.cell (p := ⟨w.heap.size, 7, none⟩) (by simp)).trans (by simp [go_sem])
    have c8 : wr.cell? ⟨w.heap.size, 8, none⟩ = some (.int .i64 v) := (hbw.cell (p := ⟨w.heap.size, 8, none⟩) (by simp)).trans (by simp [go_sem])
    have c9 : wr.cell? ⟨w.heap.size, 9, none⟩ = some (.int .i64 r) := (hbw.cell (p := ⟨w.heap.size, 9, none⟩) (by simp)).trans (by simp [go_sem])
    have HO := hide hO
    have hge := hide (ownWn_ge hO)
    clear hO
    by_cases h1 : st ≤ T
    · obtain ⟨n, rfl⟩ : ∃ m, n = m + 1 := ⟨n - 1, by omega⟩
      by_cases h2 : T < st + z
      · have HQ2 := hide (snocW _ _ _ _ ((unhide HQ).trans (by rw [slideGo_in h1 h2])))
        clear HQ
        go_wp2_with (first
          | (go_at_call 58; refine (from_any _ _ _ _ _ _ _ _ _ _ _ (by omega) (by omega) _).mono ?_; rintro e' wf ⟨rfl, hb⟩; obtain ⟨hc, hf, hsz⟩ := bcell hb; have hzf : w.heap.size < wf.heap.size := Nat.lt_of_lt_of_le hgs hb.size)
          | (at_builtin; go_loud (refine wpList_append_own _ rfl _ _ 50 rfl (w.heap.size + 1) 35 i0 _ 2 16 Tryz.underlying50 hi hz0 hz1 hz2 rfl (by decide) u5 _ _ rfl (World.ownsRow.alloc (World.ownsRow.alloc (World.ownsRow.below (unhide HO) hb) _) _) ⟨wf.heap.size + 1, 0, none⟩ 1 1 [.int .i64 st, .int .i64 (st + z)] rfl rfl (cells_atWn _ st (st + z) _ (by simp)) (by simp [Value.oneCell']) (by unfold maxLen; omega) (by omega) (by have := hbw.size; simp at this ⊢; omega) ?_); intro v' w1 hown' hgrow _; go_loud (have hb0 := (hbw.trans (hb.mono hws)); have hb1 := ((hb0.alloc (by omega) _).alloc (by simp; omega) _).grown hgrow (by simp; omega) (unhide hge)); go_loud (have d4 : w1.cell? ⟨w.heap.size, 4, none⟩ = some (.int .i64 p) := (hb1.cell (p := ⟨w.heap.size, 4, none⟩) (by simp)).trans (by simp [go_sem]))))
        go_roundw
        case rel => exact ⟨st + p, n, ys ++ [⟨st, st + z⟩], rfl, by omega, by omega, by omega, by simp; omega, HQ2, ownWn_snoc (x := ⟨st, st + z⟩) hown', hb1⟩
        case measure => simp [intOf]; omega
      · have HQ2 := hide ((unhide HQ).trans (by rw [slideGo_out h1 h2]))
        clear HQ
        go_wp2_with (go_at_call 58; refine (from_any _ _ _ _ _ _ _ _ _ _ _ (by omega) (by omega) _).mono ?_; rintro e' wf ⟨rfl, hb⟩; obtain ⟨hc, hf, hsz⟩ := bcell hb; have hzf : w.heap.size < wf.heap.size := Nat.lt_of_lt_of_le hgs hb.size)
        go_roundw
        case rel => exact ⟨st + p, n, ys, rfl, by omega, by omega, by omega, by omega, HQ2, World.ownsRow.alloc (World.ownsRow.below (unhide HO) hb) _, (hbw.trans (hb.mono hws)).alloc (by omega) _⟩
        case measure => simp [intOf]; omega
    · have HQ2 : Hid (slideGo z p T 61 0 = ys) := hide ((unhide HQ).trans (by rw [slideGo_end h1]; simp))
      clear HQ
      go_wp2
      go_ret
      refine ⟨_, rfl, ?_, ?_⟩
      · rw [unhide HQ2]; exact World.ownsRow.mono (unhide HO) (by omega)
      · exact bel_trans (bel_one _ _) (by simpa using hbw)

end Go.Proofs.YtbockbdlojkpiaaGreat
/- Proved here: the windows of a time, by kind: the specification, and the program by its map of functions. -/
namespace Go.Proofs.YtbockbdlojkpiaaGreat
open Go.ChangeShapes Go.WideShapes Go.ChangeAt Go.RowKit Go.Maps
set_option linter.unusedVariables false

/-- A function in a map is read as its number. -/
def rdF (v : Value) : Option (DataW Unit × List MemPlace) := match v with
  | .func (.func n) f c => if f.size = 0 ∧ c.size = 0 then some (.lit (.int .i64 n), []) else none
  | .nilFunc => some (.lit (.int .i64 (-1)), [])
  | _ => none
theorem rdF_inv {v : Value} {n : Nat} {ps : List MemPlace} (h : rdF v = some (.lit (.int .i64 (n : Int)), ps)) : v = .func (.func n) #[] #[] := by
  unfold rdF at h
  split at h
  · rename_i m f c
    split at h
    · rename_i hc
      simp only [Option.some.injEq, Prod.mk.injEq, DataW.lit.injEq, Lit.int.injEq, true_and] at h
      obtain ⟨h1, h2⟩ := hc
      have e1 : f = #[] := Array.eq_empty_of_size_eq_zero h1
      have e2 : c = #[] := Array.eq_empty_of_size_eq_zero h2
      have e3 : m = n := Int.ofNat.inj h.1
      rw [e1, e2, e3]
    · cases h
  · simp only [Option.some.injEq, Prod.mk.injEq, DataW.lit.injEq, Lit.int.injEq, true_and] at h
    have := h.1
    omega
  · cases h
/-- The map of functions, behind none, one, two and three entries. -/
def dF0 : DataW Unit := .map []
def dF1 : DataW Unit := dF0.put (.int .i64 1) (.lit (.int .i64 ((37 : Nat) : Int)))
def dF2 : DataW Unit := dF1.put (.int .i64 2) (.lit (.int .i64 ((38 : Nat) : Int)))
def dF3 : DataW Unit := dF2.put (.int .i64 3) (.lit (.int .i64 ((39 : Nat) : Int)))
theorem zeroF (w : World) : (zeroValue 51).run Tryz.prog w = .ok .nilFunc w := by kernel_rfl
theorem keyI : Keyed Tryz.prog 3 := int_keyed Tryz.underlying3
theorem kI (n : Int) (h : (Lit.int .i64 n).wf = true) : keyOf Tryz.prog 3 (.int .i64 n) = some (.int .i64 n) := by
  exact keyOf_int_mk Tryz.underlying3 h


theorem mapMade : ∃ u1 u2 u3 : World → World, (∀ W : World, (Instr.mapUpdate 69 (.map (some W.heap.size)) (.int .i64 1) (.func (.func 37) #[] #[])).run Tryz.prog (W.alloc (.map #[] 0)) = .ok () (u1 W)) ∧ (∀ W : World, (Instr.mapUpdate 69 (.map (some W.heap.size)) (.int .i64 2) (.func (.func 38) #[] #[])).run Tryz.prog (u1 W) = .ok () (u2 W)) ∧ (∀ W : World, (Instr.mapUpdate 69 (.map (some W.heap.size)) (.int .i64 3) (.func (.func 39) #[] #[])).run Tryz.prog (u2 W) = .ok () (u3 W)) ∧
    (∀ W : World, (Instr.lookup 69 (.map (some W.heap.size)) (.int .i64 1) false).run Tryz.prog (u3 W) = .ok (.func (.func 37) #[] #[]) (u3 W)) ∧ (∀ W : World, (Instr.lookup 69 (.map (some W.heap.size)) (.int .i64 2) false).run Tryz.prog (u3 W) = .ok (.func (.func 38) #[] #[]) (u3 W)) ∧ (∀ W : World, (Instr.lookup 69 (.map (some W.heap.size)) (.int .i64 3) false).run Tryz.prog (u3 W) = .ok (.func (.func 39) #[] #[]) (u3 W)) ∧ (∀ W : World, Below W.heap.size W (u3 W)) := by
  have H1 : ∀ W : World, ∃ w2, (Instr.mapUpdate 69 (.map (some W.heap.size)) (.int .i64 1) (.func (.func 37) #[] #[])).run Tryz.prog (W.alloc (.map #[] 0)) = .ok () (w2) ∧ w2.ownsMap Tryz.prog 3 rdF W.heap.size 1 dF1 ∧ Below W.heap.size W w2 := fun W => by
    obtain ⟨w2, h1, h2, h3⟩ := World.ownsMap.update (World.ownsMap_made W Tryz.prog 3 rdF) keyI Tryz.underlying69 (by decide) (kI 1 (by decide)) (show rdF (.func (.func 37) #[] #[]) = some (.lit (.int .i64 ((37 : Nat) : Int)), []) from rfl)
    exact ⟨w2, h1, h2, (bel_one W _).grown h3 (by simp) (by intro k hk; cases hk; omega)⟩
  obtain ⟨u1, hu1⟩ := Classical.skolem.1 H1
  have H2 : ∀ W : World, ∃ w2, (Instr.mapUpdate 69 (.map (some W.heap.size)) (.int .i64 2) (.func (.func 38) #[] #[])).run Tryz.prog (u1 W) = .ok () (w2) ∧ w2.ownsMap Tryz.prog 3 rdF W.heap.size 2 dF2 ∧ Below W.heap.size W w2 := fun W => by
    obtain ⟨w2, h1, h2, h3⟩ := World.ownsMap.update (hu1 W).2.1 keyI Tryz.underlying69 (by decide) (kI 2 (by decide)) (show rdF (.func (.func 38) #[] #[]) = some (.lit (.int .i64 ((38 : Nat) : Int)), []) from rfl)
    exact ⟨w2, h1, h2, (hu1 W).2.2.grown h3 (hu1 W).2.2.size (by intro k hk; cases hk; omega)⟩
  obtain ⟨u2, hu2⟩ := Classical.skolem.1 H2
  have H3 : ∀ W : World, ∃ w2, (Instr.mapUpdate 69 (.map (some W.heap.size)) (.int .i64 3) (.func (.func 39) #[] #[])).run Tryz.prog (u2 W) = .ok () (w2) ∧ w2.ownsMap Tryz.prog 3 rdF W.heap.size 3 dF3 ∧ Below W.heap.size W w2 := fun W => by
    obtain ⟨w2, h1, h2, h3⟩ := World.ownsMap.update (hu2 W).2.1 keyI Tryz.underlying69 (by decide) (kI 3 (by decide)) (show rdF (.func (.func 39) #[] #[]) = some (.lit (.int .i64 ((39 : Nat) : Int)), []) from rfl)
    exact ⟨w2, h1, h2, (hu2 W).2.2.grown h3 (hu2 W).2.2.size (by intro k hk; cases hk; omega)⟩
  obtain ⟨u3, hu3⟩ := Classical.skolem.1 H3
  have L : ∀ (W : World) (k : Int) (fn : Nat), (Lit.int .i64 k).wf = true → dF3.atKey (.int .i64 k) (.lit (.int .i64 (-1))) = .lit (.int .i64 (fn : Int)) → (Instr.lookup 69 (.map (some W.heap.size)) (.int .i64 k) false).run Tryz.prog (u3 W) = .ok (.func (.func fn) #[] #[]) (u3 W) := fun W k fn hk ha => by
    obtain ⟨v, ps, h1, h2⟩ := World.ownsMap.lookup (hu3 W).2.1 keyI Tryz.underlying69 (zeroF (u3 W)) (show rdF .nilFunc = some (.lit (.int .i64 (-1)), []) from rfl) (kI k hk)
    rw [ha] at h2
    rw [h1, rdF_inv h2]
  exact ⟨u1, u2, u3, fun W => (hu1 W).1, fun W => (hu2 W).1, fun W => (hu3 W).1, fun W => L W 1 _ (by decide) rfl, fun W => L W 2 _ (by decide) rfl, fun W => L W 3 _ (by decide) rfl, fun W => (hu3 W).2.2⟩

end Go.Proofs.YtbockbdlojkpiaaGreat
/- Proved here: the windows of a time, for every job and time, in the program and in the specification, in new memory. -/
namespace Go.Proofs.YtbockbdlojkpiaaGreat
open Go.ChangeShapes Go.WideShapes Go.ChangeAt Go.RowKit Go.Maps
set_option linter.unusedVariables false

/-- The windows of a time, none if the job is not ok or there is no such time. -/
def winsAll (s t k z p l e v r T : Int) : List WnR := if (okJob s t k z p l e v r && inB T 0 60) = true then winsOf k z p T else []
theorem winsAll_tt {s t k z p l e v r T : Int} (h : okJob s t k z p l e v r = true) (h2 : inB T 0 60 = true) : winsAll s t k z p l e v r T = winsOf k z p T := by simp [winsAll, h, h2]
theorem winsAll_f1 {s t k z p l e v r T : Int} (h : okJob s t k z p l e v r = false) : winsAll s t k z p l e v r T = [] := by simp [winsAll, h]
theorem winsAll_f2 {s t k z p l e v r T : Int} (h2 : inB T 0 60 = false) : winsAll s t k z p l e v r T = [] := by simp [winsAll, h2]
theorem winsAll_len (s t k z p l e v r T : Int) : (winsAll s t k z p l e v r T).length ≤ 61 := by
  unfold winsAll
  split
  · exact winsOf_len _ _ _ _
  · simp
theorem okJob_parts {s t k z p l e v r : Int} (h : okJob s t k z p l e v r = true) : (1 ≤ k ∧ k ≤ 3) ∧ (1 ≤ z ∧ z ≤ 20) ∧ stepB k z p = true := by
  simp only [okJob, Bool.and_eq_true] at h
  obtain ⟨⟨⟨⟨⟨⟨⟨⟨h1, h2⟩, h3⟩, h4⟩, h5⟩, h6⟩, h7⟩, h8⟩, h9⟩ := h
  exact ⟨inB_iff.1 h3, inB_iff.1 h4, h5⟩
theorem stepB_in {z p : Int} (hz : 1 ≤ z ∧ z ≤ 20) (h : stepB 2 z p = true) : 1 ≤ p ∧ p ≤ 20 := by
  rw [stepB_2, Bool.and_eq_true] at h
  have := inB_iff.1 h.1
  omega
theorem winsOf_1 (z p T : Int) : winsOf 1 z p T = [⟨T - T % z, T - T % z + z⟩] := rfl
theorem winsOf_2 (z p T : Int) : winsOf 2 z p T = slideGo z p T 61 0 := rfl
theorem winsOf_3 (z p T : Int) : winsOf 3 z p T = [⟨T, T + z⟩] := rfl

theorem implw1 (s t z p l e : Int) (b : Bool) (v r : Int) (T : Int) (hT : inB T 0 60 = true) (hj : okJob s t 1 z p l e v r = true) (w : World) : Calls Tryz.prog 19 #[.agg #[.int .i64 s, .int .i64 t, .int .i64 1, .int .i64 z, .int .i64 p, .int .i64 l, .int .i64 e, .bool b, .int .i64 v, .int .i64 r], .int .i64 T] w fun e' w' => ∃ v', e' = .returned v' ∧ OwnWn w' w.heap.size v' (winsOf 1 z p T) ∧ Below w.heap.size w w' := by
  have hmm := @run_makeMap Tryz.prog
  obtain ⟨u1, u2, u3, hr1, hr2, hr3, hl1, hl2, hl3, hu⟩ := mapMade
  obtain ⟨hk, hz, hp⟩ := okJob_parts hj
  have hT' := inB_iff.1 hT
  rw [winsOf_1]
  go_enter Tryz.func19, Tryz.ntmps19
  go_wp2_with (first
    | (go_at_call 35; refine (impljobok_any _ _ _ _ _ _ _ _ _ _ _).mono ?_; rintro e' w1 ⟨rfl, hb⟩; obtain ⟨hc, hf, hsz⟩ := bcell hb; (try have hz0 : w.heap.size < w1.heap.size := (by have h9 := hb.size; (try simp at h9); omega)); obtain ⟨hc3, hf3, hs3⟩ := bcell (hu w1))
    | (go_at_call 36; refine (within_any _ _ _ _).mono ?_; rintro e' w' ⟨rfl, rfl⟩)
    | (go_at_call 37; refine (fixed_any _ _ _ _ _ _ _ _ _ _ _ (by omega) (by omega) _).mono ?_; rintro e' w2 ⟨v2, rfl, hO, hb2⟩))
  go_ret
  have h9 := hb.size
  have h8 := (hu w').size
  simp at h9
  exact ⟨_, rfl, World.ownsRow.mono hO (by omega), bel_trans (bel_trans (bel_trans (bel_one _ _) hb) (hu w')) hb2⟩

theorem implw2 (s t z p l e : Int) (b : Bool) (v r : Int) (T : Int) (hT : inB T 0 60 = true) (hj : okJob s t 2 z p l e v r = true) (w : World) : Calls Tryz.prog 19 #[.agg #[.int .i64 s, .int .i64 t, .int .i64 2, .int .i64 z, .int .i64 p, .int .i64 l, .int .i64 e, .bool b, .int .i64 v, .int .i64 r], .int .i64 T] w fun e' w' => ∃ v', e' = .returned v' ∧ OwnWn w' w.heap.size v' (winsOf 2 z p T) ∧ Below w.heap.size w w' := by
  have hmm := @run_makeMap Tryz.prog
  obtain ⟨u1, u2, u3, hr1, hr2, hr3, hl1, hl2, hl3, hu⟩ := mapMade
  obtain ⟨hk, hz, hp⟩ := okJob_parts hj
  have hT' := inB_iff.1 hT
  have hp' := stepB_in hz hp
  rw [winsOf_2]
  go_enter Tryz.func19, Tryz.ntmps19
  go_wp2_with (first
    | (go_at_call 35; refine (impljobok_any _ _ _ _ _ _ _ _ _ _ _).mono ?_; rintro e' w1 ⟨rfl, hb⟩; obtain ⟨hc, hf, hsz⟩ := bcell hb; (try have hz0 : w.heap.size < w1.heap.size := (by have h9 := hb.size; (try simp at h9); omega)); obtain ⟨hc3, hf3, hs3⟩ := bcell (hu w1))
    | (go_at_call 36; refine (within_any _ _ _ _).mono ?_; rintro e' w' ⟨rfl, rfl⟩)
    | (go_at_call 38; refine (slide_any _ _ _ _ _ _ _ _ _ _ _ (by omega) (by omega) (by omega) _).mono ?_; rintro e' w2 ⟨v2, rfl, hO, hb2⟩))
  go_ret
  have h9 := hb.size
  have h8 := (hu w').size
  simp at h9
  exact ⟨_, rfl, World.ownsRow.mono hO (by omega), bel_trans (bel_trans (bel_trans (bel_one _ _) hb) (hu w')) hb2⟩

theorem implw3 (s t z p l e : Int) (b : Bool) (v r : Int) (T : Int) (hT : inB T 0 60 = true) (hj : okJob s t 3 z p l e v r = true) (w : World) : Calls Tryz.prog 19 #[.agg #[.int .i64 s, .int .i64 t, .int .i64 3, .int .i64 z, .int .i64 p, .int .i64 l, .int .i64 e, .bool b, .int .i64 v, .int .i64 r], .int .i64 T] w fun e' w' => ∃ v', e' = .returned v' ∧ OwnWn w' w.heap.size v' (winsOf 3 z p T) ∧ Below w.heap.size w w' := by
  have hmm := @run_makeMap Tryz.prog
  obtain ⟨u1, u2, u3, hr1, hr2, hr3, hl1, hl2, hl3, hu⟩ := mapMade
  obtain ⟨hk, hz, hp⟩ := okJob_parts hj
  have hT' := inB_iff.1 hT
  rw [winsOf_3]
  go_enter Tryz.func19, Tryz.ntmps19
  go_wp2_with (first
    | (go_at_call 35; refine (impljobok_any _ _ _ _ _ _ _ _ _ _ _).mono ?_; rintro e' w1 ⟨rfl, hb⟩; obtain ⟨hc, hf, hsz⟩ := bcell hb; (try have hz0 : w.heap.size < w1.heap.size := (by have h9 := hb.size; (try simp at h9); omega)); obtain ⟨hc3, hf3, hs3⟩ := bcell (hu w1))
    | (go_at_call 36; refine (within_any _ _ _ _).mono ?_; rintro e' w' ⟨rfl, rfl⟩)
    | (go_at_call 39; refine (session_any _ _ _ _ _ _ _ _ _ _ _ (by omega) (by omega) _).mono ?_; rintro e' w2 ⟨v2, rfl, hO, hb2⟩))
  go_ret
  have h9 := hb.size
  have h8 := (hu w').size
  simp at h9
  exact ⟨_, rfl, World.ownsRow.mono hO (by omega), bel_trans (bel_trans (bel_trans (bel_one _ _) hb) (hu w')) hb2⟩

theorem implwinof_any (s t k z p l e : Int) (b : Bool) (v r : Int) (T : Int) (w : World) : Calls Tryz.prog 19 #[.agg #[.int .i64 s, .int .i64 t, .int .i64 k, .int .i64 z, .int .i64 p, .int .i64 l, .int .i64 e, .bool b, .int .i64 v, .int .i64 r], .int .i64 T] w fun e' w' => ∃ v', e' = .returned v' ∧ OwnWn w' w.heap.size v' (winsAll s t k z p l e v r T) ∧ Below w.heap.size w w' := by
  cases c0 : okJob s t k z p l e v r
  · rw [winsAll_f1 c0]
    go_enter Tryz.func19, Tryz.ntmps19
    go_wp2_with (first
      | (go_at_call 35; refine (impljobok_any _ _ _ _ _ _ _ _ _ _ _).mono ?_; rintro e' w1 ⟨rfl, hb⟩; obtain ⟨hc, hf, hsz⟩ := bcell hb)
      | (go_at_call 36; refine (within_any _ _ _ _).mono ?_; rintro e' w' ⟨rfl, rfl⟩))
    go_ret
    exact ⟨_, rfl, World.ownsRow_nil _ _ _ _, (by repeat (first | (with_reducible refine bel_set ?_ (by first | (simp; done) | (simp; omega)) _) | (with_reducible refine bel_alloc ?_ _) | (with_reducible exact Below.refl _ _) | (with_reducible assumption) | (with_reducible refine bel_drew ?_) | (with_reducible refine bel_drewN ?_ _) | (with_reducible refine bel_trans ?_ (by with_reducible assumption))))⟩
  cases c1 : inB T 0 60
  · rw [winsAll_f2 c1]
    go_enter Tryz.func19, Tryz.ntmps19
    go_wp2_with (first
      | (go_at_call 35; refine (impljobok_any _ _ _ _ _ _ _ _ _ _ _).mono ?_; rintro e' w1 ⟨rfl, hb⟩; obtain ⟨hc, hf, hsz⟩ := bcell hb)
      | (go_at_call 36; refine (within_any _ _ _ _).mono ?_; rintro e' w' ⟨rfl, rfl⟩))
    go_ret
    exact ⟨_, rfl, World.ownsRow_nil _ _ _ _, (by repeat (first | (with_reducible refine bel_set ?_ (by first | (simp; done) | (simp; omega)) _) | (with_reducible refine bel_alloc ?_ _) | (with_reducible exact Below.refl _ _) | (with_reducible assumption) | (with_reducible refine bel_drew ?_) | (with_reducible refine bel_drewN ?_ _) | (with_reducible refine bel_trans ?_ (by with_reducible assumption))))⟩
  rw [winsAll_tt c0 c1]
  obtain ⟨hk, _, _⟩ := okJob_parts c0
  by_cases h1 : k = 1
  · subst h1; exact implw1 s t z p l e b v r T c1 c0 w
  by_cases h2 : k = 2
  · subst h2; exact implw2 s t z p l e b v r T c1 c0 w
  obtain rfl : k = 3 := by omega
  exact implw3 s t z p l e b v r T c1 c0 w

end Go.Proofs.YtbockbdlojkpiaaGreat
/- Proved here: the windows of a time in the specification, in new memory. -/
namespace Go.Proofs.YtbockbdlojkpiaaGreat
open Go.ChangeShapes Go.WideShapes Go.ChangeAt Go.RowKit Go.Maps
set_option linter.unusedVariables false

theorem own_lit1' {W : World} {B g : Nat} (h : B ≤ W.heap.size) (hg : g = W.heap.size) (a b : Int) : OwnWn (W.alloc (.cells #[.int .i64 a, .int .i64 b] 35)) B (.slice (some ⟨g, 0, none⟩) 1 1) [⟨a, b⟩] := by
  subst hg; exact own_lit1 h a b

theorem l4_1 (s t z p l e : Int) (b : Bool) (v r : Int) (T : Int) (hT : 0 ≤ T ∧ T ≤ 60) (hz : 1 ≤ z ∧ z ≤ 20) (w : World) : Calls Tryz.prog 49 #[.agg #[.int .i64 s, .int .i64 t, .int .i64 1, .int .i64 z, .int .i64 p, .int .i64 l, .int .i64 e, .bool b, .int .i64 v, .int .i64 r], .int .i64 T] w fun e' w' => ∃ v', e' = .returned v' ∧ OwnWn w' w.heap.size v' (winsOf 1 z p T) ∧ Below w.heap.size w w' := by
  have hmod : 0 ≤ T % z ∧ T % z ≤ T := ⟨Int.emod_nonneg _ (by omega), by have := Int.emod_add_mul_ediv T z; have := Int.ediv_nonneg (a := T) (b := z) (by omega) (by omega); have := Int.mul_nonneg (a := z) (b := T / z) (by omega) (by omega); omega⟩
  rw [winsOf_1]
  have hwr : IntKind.i64.wrap (T - T % z) = T - T % z := IntWalk.i64_in _ (by omega)
  have hwr2 : IntKind.i64.wrap (T - T % z + z) = T - T % z + z := IntWalk.i64_in _ (by omega)
  go_enter Tryz.func49, Tryz.ntmps49
  go_wp2
  go_region
  all_goals go_wp2
  all_goals
    go_ret
    exact ⟨_, rfl, own_lit1' (by simp) (by simp) _ _, (by repeat (first | (with_reducible refine bel_set ?_ (by first | (simp; done) | (simp; omega)) _) | (with_reducible refine bel_alloc ?_ _) | (with_reducible exact Below.refl _ _) | (with_reducible assumption) | (with_reducible refine bel_drew ?_) | (with_reducible refine bel_drewN ?_ _) | (with_reducible refine bel_trans ?_ (by with_reducible assumption))))⟩

theorem l4_3 (s t z p l e : Int) (b : Bool) (v r : Int) (T : Int) (hT : 0 ≤ T ∧ T ≤ 60) (hz : 1 ≤ z ∧ z ≤ 20) (w : World) : Calls Tryz.prog 49 #[.agg #[.int .i64 s, .int .i64 t, .int .i64 3, .int .i64 z, .int .i64 p, .int .i64 l, .int .i64 e, .bool b, .int .i64 v, .int .i64 r], .int .i64 T] w fun e' w' => ∃ v', e' = .returned v' ∧ OwnWn w' w.heap.size v' (winsOf 3 z p T) ∧ Below w.heap.size w w' := by
  have hmod : 0 ≤ T % z ∧ T % z ≤ T := ⟨Int.emod_nonneg _ (by omega), by have := Int.emod_add_mul_ediv T z; have := Int.ediv_nonneg (a := T) (b := z) (by omega) (by omega); have := Int.mul_nonneg (a := z) (b := T / z) (by omega) (by omega); omega⟩
  rw [winsOf_3]
  have hwr : IntKind.i64.wrap (T - T % z) = T - T % z := IntWalk.i64_in _ (by omega)
  have hwr2 : IntKind.i64.wrap (T - T % z + z) = T - T % z + z := IntWalk.i64_in _ (by omega)
  go_enter Tryz.func49, Tryz.ntmps49
  go_wp2
  all_goals
    go_ret
    exact ⟨_, rfl, own_lit1' (by simp) (by simp) _ _, (by repeat (first | (with_reducible refine bel_set ?_ (by first | (simp; done) | (simp; omega)) _) | (with_reducible refine bel_alloc ?_ _) | (with_reducible exact Below.refl _ _) | (with_reducible assumption) | (with_reducible refine bel_drew ?_) | (with_reducible refine bel_drewN ?_ _) | (with_reducible refine bel_trans ?_ (by with_reducible assumption))))⟩

end Go.Proofs.YtbockbdlojkpiaaGreat
