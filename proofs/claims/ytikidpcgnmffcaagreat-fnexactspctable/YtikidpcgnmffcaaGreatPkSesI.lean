/- Laid together: what the claim needs of the texts that were built one by one. -/
import Derived.Test.YtikidpcgnmffcaaGreatPkSesS
import Derived.Test.YtikidpcgnmffcaaGreatPkBase
import Derived.Test.YtikidpcgnmffcaaGreatPkPutI
import Derived.Test.YtikidpcgnmffcaaGreatPkRegL
import Derived.BigQuiet
import Derived.Lib.SmallJoins
namespace Go.Proofs.YtikidpcgnmffcaaGreat
open Go.ChangeShapes Go.WideShapes Go.ChangeAt Go.RowKit
set_option linter.unusedVariables false
set_option linter.unusedSimpArgs false

theorem touches_is {a b c d : Int} (w : World) {o : Bool} (h : Hid (touchB a b c d = o)) : Calls Tryz.prog 44 #[.agg #[.int .i64 a, .int .i64 b], .agg #[.int .i64 c, .int .i64 d]] w fun e w' => e = .returned (.bool o) ∧ Below w.heap.size w w' := by
  have h9 := touches_any a b c d w
  rw [unhide h] at h9
  exact h9

theorem span_is {a b c d x y : Int} (w : World) (h : Hid (loI a c = x ∧ hiI b d = y)) : Calls Tryz.prog 45 #[.agg #[.int .i64 a, .int .i64 b], .agg #[.int .i64 c, .int .i64 d]] w fun e w' => e = .returned (.agg #[.int .i64 x, .int .i64 y]) ∧ Below w.heap.size w w' := by
  have h9 := span_any a b c d w
  rw [(unhide h).1, (unhide h).2] at h9
  exact h9

theorem both_is {n s l m n' s' l' m' x y u v : Int} (w : World) (h : Hid (bothF (n, s, l, m) n' s' l' m' = (x, y, u, v))) : Calls Tryz.prog 46 #[.agg #[.int .i64 n, .int .i64 s, .int .i64 l, .int .i64 m], .agg #[.int .i64 n', .int .i64 s', .int .i64 l', .int .i64 m']] w fun e w' => e = .returned (.agg #[.int .i64 x, .int .i64 y, .int .i64 u, .int .i64 v]) ∧ Below w.heap.size w w' := by
  have h9 := both_any n s l m n' s' l' m' w
  have h8 := unhide h
  simp only [bothF, Prod.mk.injEq] at h8
  obtain ⟨rfl, rfl, rfl, rfl⟩ := h8
  exact h9

set_option maxRecDepth 20000 in
set_option maxHeartbeats 8000000 in
theorem seswith_any (ky st en n su le mo : Int) (ar : Option Addr) (len cap : Nat) (rows : List TbR) (w : World) (h : TbRs w ar len rows) (hl : len ≤ 1000000) : Calls Tryz.prog 33 #[.slice ar len cap, .agg #[.int .i64 ky, .int .i64 st, .int .i64 en, .int .i64 n, .int .i64 su, .int .i64 le, .int .i64 mo]] w fun e w' => ∃ v, e = .returned v ∧ OwnTb w' w.heap.size v (sesPut ky st en (n, su, le, mo) rows) ∧ Below w.heap.size w w' := by
  obtain ⟨i0, hi, hz0', hz1', hz2'⟩ := info_parts Tryz.infoTb
  have hlen := h.1
  have hm := h.2.1
  unfold maxLen at hm
  go_enter Tryz.func33, Tryz.ntmps33
  go_wp2
  go_loopw [6, 12] (fun lv iv wr => ∃ (i : Nat) (q : Ses), i ≤ len ∧ iv = .int .i64 i ∧ Hid (sesAll ky st en (n, su, le, mo) (rows.take i) = q) ∧ Hid (wr.heap[w.heap.size]? = some (.cells #[.int .i64 ky, .int .i64 st, .int .i64 en, .int .i64 n, .int .i64 su, .int .i64 le, .int .i64 mo] 53 (0, 0))) ∧ Hid (wr.heap[w.heap.size + 1]? = some (.cells #[.int .i64 ky, .int .i64 q.a, .int .i64 q.b, .int .i64 q.g.1, .int .i64 q.g.2.1, .int .i64 q.g.2.2.1, .int .i64 q.g.2.2.2] 53 (0, 0))) ∧ Hid (OwnTb wr (w.heap.size + 1 + 1) lv q.l) ∧ Below w.heap.size w wr) (fun _ iv _ => len - (intOf iv).toNat)
  case atStart =>
    refine ⟨0, ⟨st, en, (n, su, le, mo), []⟩, Nat.zero_le _, rfl, hide rfl, hide ?_, hide ?_, hide (World.ownsRow_nil _ _ _ _), bel_alloc (bel_one _ _) _⟩
    · rw [Below.heap_alloc _ _ _ (by simp)]
      exact World.alloc_heap_new w _
    · have h9 := World.alloc_heap_new (w.alloc (.cells #[.int .i64 ky, .int .i64 st, .int .i64 en, .int .i64 n, .int .i64 su, .int .i64 le, .int .i64 mo] 53)) (.cells #[.int .i64 ky, .int .i64 st, .int .i64 en, .int .i64 n, .int .i64 su, .int .i64 le, .int .i64 mo] 53)
      rw [World.size_alloc] at h9
      exact h9
  case round =>
    obtain ⟨i, q, hil, rfl, HQ, HR, HOn, HO, hbw⟩ := hrel
    have zr : w.heap.size + 1 < wr.heap.size := (Array.getElem?_eq_some_iff.1 (unhide HOn)).1
    have zw : w.heap.size < wr.heap.size := by omega
    have hql : q.l.length ≤ i := by rw [← unhide HQ]; refine Nat.le_trans (sesAll_len _ _ _ _ _) ?_; rw [List.length_take]; omega
    by_cases hlt : i < len
    · obtain ⟨_, _, hy⟩ := h
      obtain ⟨g, o, rfl, hr⟩ := hy.resolve_left (by omega)
      obtain ⟨x, hxk⟩ : ∃ x, rows[i]? = some x := ⟨_, List.getElem?_eq_getElem (by omega)⟩
      have hgw : g < w.heap.size := hr.lt (by omega)
      obtain ⟨c0, c1, c2, c3, c4, c5, c6⟩ := (hr i _ hxk).below hbw hgw
      have HS := hide (sesAll_snoc (k := ky) (a := st) (b := en) (g := (n, su, le, mo)) hxk)
      rw [unhide HQ] at HS
      clear hr hy hxk
      obtain ⟨oky, ost, oen, on, osu, ole, omo⟩ := x
      dsimp only at c0 c1 c2 c3 c4 c5 c6
      have hgr : g < wr.heap.size := by omega
      have hbo : Below wr.heap.size wr (wr.alloc (.cells #[.int .i64 oky, .int .i64 ost, .int .i64 oen, .int .i64 on, .int .i64 osu, .int .i64 ole, .int .i64 omo] 53)) := bel_one _ _
      have bQ : (wr.alloc (.cells #[.int .i64 oky, .int .i64 ost, .int .i64 oen, .int .i64 on, .int .i64 osu, .int .i64 ole, .int .i64 omo] 53)).heap[wr.heap.size]? = some (.cells #[.int .i64 oky, .int .i64 ost, .int .i64 oen, .int .i64 on, .int .i64 osu, .int .i64 ole, .int .i64 omo] 53 (0, 0)) := World.alloc_heap_new wr _
      have bR : (wr.alloc (.cells #[.int .i64 oky, .int .i64 ost, .int .i64 oen, .int .i64 on, .int .i64 osu, .int .i64 ole, .int .i64 omo] 53)).heap[w.heap.size]? = some (.cells #[.int .i64 ky, .int .i64 st, .int .i64 en, .int .i64 n, .int .i64 su, .int .i64 le, .int .i64 mo] 53 (0, 0)) := (Below.heap_alloc _ _ _ (by omega)).trans (unhide HR)
      have bO : (wr.alloc (.cells #[.int .i64 oky, .int .i64 ost, .int .i64 oen, .int .i64 on, .int .i64 osu, .int .i64 ole, .int .i64 omo] 53)).heap[w.heap.size + 1]? = some (.cells #[.int .i64 ky, .int .i64 q.a, .int .i64 q.b, .int .i64 q.g.1, .int .i64 q.g.2.1, .int .i64 q.g.2.2.1, .int .i64 q.g.2.2.2] 53 (0, 0)) := (Below.heap_alloc _ _ _ zr).trans (unhide HOn)
      have r0 : wr.cell? ⟨w.heap.size, 0, none⟩ = some (.int .i64 ky) := Joins.cell_of_block (unhide HR) 0
      have r1 : wr.cell? ⟨w.heap.size, 1, none⟩ = some (.int .i64 st) := Joins.cell_of_block (unhide HR) 1
      have r2 : wr.cell? ⟨w.heap.size, 2, none⟩ = some (.int .i64 en) := Joins.cell_of_block (unhide HR) 2
      have r3 : wr.cell? ⟨w.heap.size, 3, none⟩ = some (.int .i64 n) := Joins.cell_of_block (unhide HR) 3
      have r4 : wr.cell? ⟨w.heap.size, 4, none⟩ = some (.int .i64 su) := Joins.cell_of_block (unhide HR) 4
      have r5 : wr.cell? ⟨w.heap.size, 5, none⟩ = some (.int .i64 le) := Joins.cell_of_block (unhide HR) 5
      have r6 : wr.cell? ⟨w.heap.size, 6, none⟩ = some (.int .i64 mo) := Joins.cell_of_block (unhide HR) 6
      by_cases hk : oky = ky
      · have hk1 : (oky == ky) = true := by simp [hk]
        cases hT : touchB ost oen st en
        · have HTB := hide hT
          have HN := hide (sesStep_no (k := ky) (a := st) (b := en) (q := q) (r := ⟨oky, ost, oen, on, osu, ole, omo⟩) (fun h9 => by rw [show touchB ost oen st en = true from h9.2] at hT; cases hT))
          clear hk hT
          go_wp2_with fail
          refine (touches_is _ HTB).mono ?_
          rintro e9 wq ⟨rfl, hbt⟩
          have zq : wr.heap.size < wq.heap.size := by have := hbt.size; simp at this; omega
          have bRq := (hbt.block w.heap.size (by simp; omega)).trans bR
          have bOq := (hbt.block (w.heap.size + 1) (by simp; omega)).trans bO
          have bQq := (hbt.block wr.heap.size (by simp)).trans bQ
          have HOa := hide (ownTb_bel (unhide HO) (bel_trans hbo hbt))
          have hbFq : Below w.heap.size w wq := bel_trans (bel_alloc hbw _) hbt
          have d0 : wq.cell? ⟨wr.heap.size, 0, none⟩ = some (.int .i64 oky) := Joins.cell_of_block bQq 0
          have d1 : wq.cell? ⟨wr.heap.size, 1, none⟩ = some (.int .i64 ost) := Joins.cell_of_block bQq 1
          have d2 : wq.cell? ⟨wr.heap.size, 2, none⟩ = some (.int .i64 oen) := Joins.cell_of_block bQq 2
          have d3 : wq.cell? ⟨wr.heap.size, 3, none⟩ = some (.int .i64 on) := Joins.cell_of_block bQq 3
          have d4 : wq.cell? ⟨wr.heap.size, 4, none⟩ = some (.int .i64 osu) := Joins.cell_of_block bQq 4
          have d5 : wq.cell? ⟨wr.heap.size, 5, none⟩ = some (.int .i64 ole) := Joins.cell_of_block bQq 5
          have d6 : wq.cell? ⟨wr.heap.size, 6, none⟩ = some (.int .i64 omo) := Joins.cell_of_block bQq 6
          clear bO bQ bR hbt HTB c0 c1 c2 c3 c4 c5 c6 r0 r1 r2 r3 r4 r5 r6 HO HR HOn hbo bQq
          have hge := hide (fun b (hb : u6.ownBlock = some b) => (World.ownsRow.lt (unhide HOa) b hb).1)
          go_wp2_with (at_builtin; go_loud (refine wpList_append_own _ rfl _ _ 26 rfl (w.heap.size + 1 + 1) 53 i0 _ 7 56 Tryz.underlying26 hi hz0' hz1' hz2' rfl (by decide) u6 _ _ rfl (World.ownsRow.alloc (unhide HOa) _) ⟨wq.heap.size, 0, none⟩ 1 1 [.int .i64 oky, .int .i64 ost, .int .i64 oen, .int .i64 on, .int .i64 osu, .int .i64 ole, .int .i64 omo] rfl rfl (cells_newTb wq oky ost oen on osu ole omo _) (by simp [Value.oneCell']) (by unfold maxLen; omega) (by omega) (by simp; omega) ?_); intro v' w5 hown hgrow hnn)
          have hb5 : Below (w.heap.size + 1 + 1) wq w5 := ((Below.refl _ wq).alloc (by omega) _).grown hgrow (by simp; omega) (unhide hge)
          have O5 := ownTb_snoc (x := ⟨oky, ost, oen, on, osu, ole, omo⟩) hown
          refine ⟨⟨i + 1, ⟨q.a, q.b, q.g, q.l ++ [⟨oky, ost, oen, on, osu, ole, omo⟩]⟩, by omega, by go_num, hide (by rw [unhide HS]; exact unhide HN), hide ((hb5.block w.heap.size (by omega)).trans bRq), hide ((hb5.block (w.heap.size + 1) (by omega)).trans bOq), hide O5, hbFq.trans (hb5.mono (by omega))⟩, ?_⟩
          simp [intOf]; omega
        · have HTB := hide hT
          have HN := hide (sesStep_yes (k := ky) (a := st) (b := en) (q := q) (r := ⟨oky, ost, oen, on, osu, ole, omo⟩) hk hT)
          clear hk hT
          go_wp2_with fail
          refine (touches_is _ HTB).mono ?_
          rintro e9 wt ⟨rfl, hbt⟩
          have zt : wr.heap.size < wt.heap.size := by have := hbt.size; simp at this; omega
          have bO1 : wt.drew.heap[w.heap.size + 1]? = some (.cells #[.int .i64 ky, .int .i64 q.a, .int .i64 q.b, .int .i64 q.g.1, .int .i64 q.g.2.1, .int .i64 q.g.2.2.1, .int .i64 q.g.2.2.2] 53 (0, 0)) := (hbt.block (w.heap.size + 1) (by simp; omega)).trans bO
          have bQ1 : wt.drew.heap[wr.heap.size]? = some (.cells #[.int .i64 oky, .int .i64 ost, .int .i64 oen, .int .i64 on, .int .i64 osu, .int .i64 ole, .int .i64 omo] 53 (0, 0)) := (hbt.block wr.heap.size (by simp)).trans bQ
          have bR1 : wt.drew.heap[w.heap.size]? = some (.cells #[.int .i64 ky, .int .i64 st, .int .i64 en, .int .i64 n, .int .i64 su, .int .i64 le, .int .i64 mo] 53 (0, 0)) := (hbt.block w.heap.size (by simp; omega)).trans bR
          have zO1 : w.heap.size + 1 < wt.drew.heap.size := by show w.heap.size + 1 < wt.heap.size; omega
          have zQ1 : wr.heap.size < wt.drew.heap.size := zt
          obtain ⟨xa, xb, hsp⟩ : ∃ xa xb, loI q.a ost = xa ∧ hiI q.b oen = xb := ⟨_, _, rfl, rfl⟩
          obtain ⟨ya, yb, yc, yd, hbo9⟩ : ∃ ya yb yc yd, bothF (q.g.1, q.g.2.1, q.g.2.2.1, q.g.2.2.2) on osu ole omo = (ya, yb, yc, yd) := ⟨_, _, _, _, rfl⟩
          have HSP := hide hsp
          have HBO := hide hbo9
          have HQ2 : Hid (sesStep ky st en q ⟨oky, ost, oen, on, osu, ole, omo⟩ = ⟨xa, xb, (ya, yb, yc, yd), q.l⟩) := hide (by rw [unhide HN]; show (⟨loI q.a ost, hiI q.b oen, bothF q.g on osu ole omo, q.l⟩ : Ses) = _; rw [hsp.1, hsp.2]; congr 1)
          have HO1 := hide (ownTb_bel (unhide HO) (bel_trans (bel_trans hbo hbt) (bel_drew (Below.refl _ _))))
          have hbF1 : Below w.heap.size w wt.drew := bel_drew (bel_trans (bel_alloc hbw _) hbt)
          clear hsp hbo9 HN bO bQ bR hbt HTB c0 c1 c2 c3 c4 c5 c6 r0 r1 r2 r3 r4 r5 r6 HO HR HOn hbo
          go_wp2_with fail
          refine wp_region_P [11, 13] (fun W => W.heap[w.heap.size + 1]? = some (.cells #[.int .i64 ky, .int .i64 q.a, .int .i64 q.b, .int .i64 q.g.1, .int .i64 q.g.2.1, .int .i64 q.g.2.2.1, .int .i64 q.g.2.2.2] 53 (0, 0)) ∧ W.heap[wr.heap.size]? = some (.cells #[.int .i64 oky, .int .i64 ost, .int .i64 oen, .int .i64 on, .int .i64 osu, .int .i64 ole, .int .i64 omo] 53 (0, 0))) (by kernel_rfl) ?_ (fun hHeld => ?_)
          · (try dsimp only); first | exact ⟨bO1, bQ1⟩ | exact ⟨bO2, bQ2⟩ | exact ⟨bO3, bQ3⟩
          refine wpAnyP_take (i := 0) (v := ?_) (by simp only [gA, gZ, gS]; rfl) (by kernel_rfl) (by kernel_rfl) (by kernel_rfl) (by kernel_rfl) (by intro _ _ _ h; exact h) (Or.inl ⟨by rfl, ?_⟩) (by assumption) ?_
          rotate_left
          · (intro w9 hSw; (try dsimp only at hSw); obtain ⟨s0, s1⟩ := hSw; go_simp <;> with_reducible rfl)
          try simp only [Act.put, tA, tZ, tS]
          refine wpAnyP_take (i := 1) (v := ?_) (by simp only [gA, gZ, gS]; rfl) (by kernel_rfl) (by kernel_rfl) (by kernel_rfl) (by kernel_rfl) (by intro _ _ _ h; exact h) (Or.inl ⟨by rfl, ?_⟩) (by assumption) ?_
          rotate_left
          · (intro w9 hSw; (try dsimp only at hSw); obtain ⟨s0, s1⟩ := hSw; have g0x0 : w9.cell? ⟨w.heap.size + 1, 0, none⟩ = some (.int .i64 ky) := Joins.cell_of_block s0 0; have g0x1 : w9.cell? ⟨w.heap.size + 1, 1, none⟩ = some (.int .i64 q.a) := Joins.cell_of_block s0 1; have g0x2 : w9.cell? ⟨w.heap.size + 1, 2, none⟩ = some (.int .i64 q.b) := Joins.cell_of_block s0 2; have g0x3 : w9.cell? ⟨w.heap.size + 1, 3, none⟩ = some (.int .i64 q.g.1) := Joins.cell_of_block s0 3; have g0x4 : w9.cell? ⟨w.heap.size + 1, 4, none⟩ = some (.int .i64 q.g.2.1) := Joins.cell_of_block s0 4; have g0x5 : w9.cell? ⟨w.heap.size + 1, 5, none⟩ = some (.int .i64 q.g.2.2.1) := Joins.cell_of_block s0 5; have g0x6 : w9.cell? ⟨w.heap.size + 1, 6, none⟩ = some (.int .i64 q.g.2.2.2) := Joins.cell_of_block s0 6; go_simp <;> with_reducible rfl)
          try simp only [Act.put, tA, tZ, tS]
          refine wpAnyP_take (i := 2) (v := ?_) (by simp only [gA, gZ, gS]; rfl) (by kernel_rfl) (by kernel_rfl) (by kernel_rfl) (by kernel_rfl) (by intro _ _ _ h; exact h) (Or.inl ⟨by rfl, ?_⟩) (by assumption) ?_
          rotate_left
          · (intro w9 hSw; (try dsimp only at hSw); obtain ⟨s0, s1⟩ := hSw; go_simp <;> with_reducible rfl)
          try simp only [Act.put, tA, tZ, tS]
          refine wpAnyP_take (i := 3) (v := ?_) (by simp only [gA, gZ, gS]; rfl) (by kernel_rfl) (by kernel_rfl) (by kernel_rfl) (by kernel_rfl) (by intro _ _ _ h; exact h) (Or.inl ⟨by rfl, ?_⟩) (by assumption) ?_
          rotate_left
          · (intro w9 hSw; (try dsimp only at hSw); obtain ⟨s0, s1⟩ := hSw; have g1x0 : w9.cell? ⟨wr.heap.size, 0, none⟩ = some (.int .i64 oky) := Joins.cell_of_block s1 0; have g1x1 : w9.cell? ⟨wr.heap.size, 1, none⟩ = some (.int .i64 ost) := Joins.cell_of_block s1 1; have g1x2 : w9.cell? ⟨wr.heap.size, 2, none⟩ = some (.int .i64 oen) := Joins.cell_of_block s1 2; have g1x3 : w9.cell? ⟨wr.heap.size, 3, none⟩ = some (.int .i64 on) := Joins.cell_of_block s1 3; have g1x4 : w9.cell? ⟨wr.heap.size, 4, none⟩ = some (.int .i64 osu) := Joins.cell_of_block s1 4; have g1x5 : w9.cell? ⟨wr.heap.size, 5, none⟩ = some (.int .i64 ole) := Joins.cell_of_block s1 5; have g1x6 : w9.cell? ⟨wr.heap.size, 6, none⟩ = some (.int .i64 omo) := Joins.cell_of_block s1 6; go_simp <;> with_reducible rfl)
          try simp only [Act.put, tA, tZ, tS]
          refine wpAnyP_take (i := 5) (v := ?_) (by simp only [gA, gZ, gS]; rfl) (by kernel_rfl) (by kernel_rfl) (by kernel_rfl) (by kernel_rfl) (by intro _ _ _ h; exact h) (Or.inl ⟨by rfl, ?_⟩) (by assumption) ?_
          rotate_left
          · (intro w9 hSw; (try dsimp only at hSw); obtain ⟨s0, s1⟩ := hSw; go_simp <;> with_reducible rfl)
          try simp only [Act.put, tA, tZ, tS]
          refine wpAnyP_take (i := 6) (v := ?_) (by simp only [gA, gZ, gS]; rfl) (by kernel_rfl) (by kernel_rfl) (by kernel_rfl) (by kernel_rfl) (by intro _ _ _ h; exact h) (Or.inl ⟨by rfl, ?_⟩) (by assumption) ?_
          rotate_left
          · (intro w9 hSw; (try dsimp only at hSw); obtain ⟨s0, s1⟩ := hSw; have g0x0 : w9.cell? ⟨w.heap.size + 1, 0, none⟩ = some (.int .i64 ky) := Joins.cell_of_block s0 0; have g0x1 : w9.cell? ⟨w.heap.size + 1, 1, none⟩ = some (.int .i64 q.a) := Joins.cell_of_block s0 1; have g0x2 : w9.cell? ⟨w.heap.size + 1, 2, none⟩ = some (.int .i64 q.b) := Joins.cell_of_block s0 2; have g0x3 : w9.cell? ⟨w.heap.size + 1, 3, none⟩ = some (.int .i64 q.g.1) := Joins.cell_of_block s0 3; have g0x4 : w9.cell? ⟨w.heap.size + 1, 4, none⟩ = some (.int .i64 q.g.2.1) := Joins.cell_of_block s0 4; have g0x5 : w9.cell? ⟨w.heap.size + 1, 5, none⟩ = some (.int .i64 q.g.2.2.1) := Joins.cell_of_block s0 5; have g0x6 : w9.cell? ⟨w.heap.size + 1, 6, none⟩ = some (.int .i64 q.g.2.2.2) := Joins.cell_of_block s0 6; go_simp <;> with_reducible rfl)
          try simp only [Act.put, tA, tZ, tS]
          refine wpAnyP_take (i := 7) (v := ?_) (by simp only [gA, gZ, gS]; rfl) (by kernel_rfl) (by kernel_rfl) (by kernel_rfl) (by kernel_rfl) (by intro _ _ _ h; exact h) (Or.inl ⟨by rfl, ?_⟩) (by assumption) ?_
          rotate_left
          · (intro w9 hSw; (try dsimp only at hSw); obtain ⟨s0, s1⟩ := hSw; go_simp <;> with_reducible rfl)
          try simp only [Act.put, tA, tZ, tS]
          refine wpAnyP_take (i := 8) (v := ?_) (by simp only [gA, gZ, gS]; rfl) (by kernel_rfl) (by kernel_rfl) (by kernel_rfl) (by kernel_rfl) (by intro _ _ _ h; exact h) (Or.inl ⟨by rfl, ?_⟩) (by assumption) ?_
          rotate_left
          · (intro w9 hSw; (try dsimp only at hSw); obtain ⟨s0, s1⟩ := hSw; have g1x0 : w9.cell? ⟨wr.heap.size, 0, none⟩ = some (.int .i64 oky) := Joins.cell_of_block s1 0; have g1x1 : w9.cell? ⟨wr.heap.size, 1, none⟩ = some (.int .i64 ost) := Joins.cell_of_block s1 1; have g1x2 : w9.cell? ⟨wr.heap.size, 2, none⟩ = some (.int .i64 oen) := Joins.cell_of_block s1 2; have g1x3 : w9.cell? ⟨wr.heap.size, 3, none⟩ = some (.int .i64 on) := Joins.cell_of_block s1 3; have g1x4 : w9.cell? ⟨wr.heap.size, 4, none⟩ = some (.int .i64 osu) := Joins.cell_of_block s1 4; have g1x5 : w9.cell? ⟨wr.heap.size, 5, none⟩ = some (.int .i64 ole) := Joins.cell_of_block s1 5; have g1x6 : w9.cell? ⟨wr.heap.size, 6, none⟩ = some (.int .i64 omo) := Joins.cell_of_block s1 6; go_simp <;> with_reducible rfl)
          try simp only [Act.put, tA, tZ, tS]
          refine wpAnyP_ready (rs := [4]) (by kernel_rfl) (by simp) ?_
          refine AllReadyP.cons (by simp only [gA, gZ, gS]; rfl) (fun K hK => ?_) AllReadyP.nil
          go_simp
          (go_at_call 45; refine (span_is _ HSP).mono ?_; rintro e9 wa ⟨rfl, hba⟩; have bO2 := (hba.block (w.heap.size + 1) zO1).trans bO1; have bQ2 := (hba.block wr.heap.size zQ1).trans bQ1; have zO2 := Nat.lt_of_lt_of_le zO1 hba.size; have zQ2 := Nat.lt_of_lt_of_le zQ1 hba.size)
          (try go_wp2_with fail)
          refine hK.out _ _ ?_ (fun hHeld2 => ?_)
          · (try dsimp only); first | exact ⟨bO1, bQ1⟩ | exact ⟨bO2, bQ2⟩ | exact ⟨bO3, bQ3⟩
          clear hK K hHeld
          have hHeld := hHeld2
          clear hHeld2
          try simp only [Act.put, tA, tZ, tS]
          refine wpAnyP_take0 (i := 10) (v := ?_) (by simp only [gA, gZ, gS]; rfl) (by kernel_rfl) (by kernel_rfl) (by kernel_rfl) (by kernel_rfl) (by intro _ _ _ h; exact h) (Or.inl ⟨by rfl, ?_⟩) (fun _ => by assumption) ?_
          rotate_left
          · (intro w9 hSw; (try dsimp only at hSw); go_simp <;> with_reducible rfl)
          try simp only [Act.put, tA, tZ, tS]
          refine wpAnyP_ready (rs := [9]) (by kernel_rfl) (by simp) ?_
          refine AllReadyP.cons (by simp only [gA, gZ, gS]; rfl) (fun K hK => ?_) AllReadyP.nil
          go_simp
          (go_at_call 46; refine (both_is _ HBO).mono ?_; rintro e9 wb ⟨rfl, hbb⟩; have bO3 := (hbb.block (w.heap.size + 1) zO2).trans bO2; have bQ3 := (hbb.block wr.heap.size zQ2).trans bQ2; have zO3 := Nat.lt_of_lt_of_le zO2 hbb.size; have zQ3 := Nat.lt_of_lt_of_le zQ2 hbb.size)
          (try go_wp2_with fail)
          refine hK.out _ _ ?_ (fun hHeld2 => ?_)
          · (try dsimp only); first | exact ⟨bO1, bQ1⟩ | exact ⟨bO2, bQ2⟩ | exact ⟨bO3, bQ3⟩
          clear hK K hHeld
          have hHeld := hHeld2
          clear hHeld2
          try simp only [Act.put, tA, tZ, tS]
          have y0 : wb.cell? ⟨w.heap.size + 1, 0, none⟩ = some (.int .i64 ky) := Joins.cell_of_block bO3 0; have y1 : wb.cell? ⟨w.heap.size + 1, 1, none⟩ = some (.int .i64 q.a) := Joins.cell_of_block bO3 1; have y2 : wb.cell? ⟨w.heap.size + 1, 2, none⟩ = some (.int .i64 q.b) := Joins.cell_of_block bO3 2; have y3 : wb.cell? ⟨w.heap.size + 1, 3, none⟩ = some (.int .i64 q.g.1) := Joins.cell_of_block bO3 3; have y4 : wb.cell? ⟨w.heap.size + 1, 4, none⟩ = some (.int .i64 q.g.2.1) := Joins.cell_of_block bO3 4; have y5 : wb.cell? ⟨w.heap.size + 1, 5, none⟩ = some (.int .i64 q.g.2.2.1) := Joins.cell_of_block bO3 5; have y6 : wb.cell? ⟨w.heap.size + 1, 6, none⟩ = some (.int .i64 q.g.2.2.2) := Joins.cell_of_block bO3 6
          have fz : ∀ j, wb.frozen? ⟨w.heap.size + 1, j, none⟩ = false := fun j => by simp [World.frozen?, bO3]
          have f1 := fz 1
          have f2 := fz 2
          have f3 := fz 3
          have f4 := fz 4
          have f5 := fz 5
          have f6 := fz 6
          clear fz
          refine wpAnyP_ready (rs := [11]) (by kernel_rfl) (by simp) ?_
          refine AllReadyP.consS (by simp only [gA, gZ, gS]; rfl) (by kernel_rfl) (fun K hK => ?_) AllReadyP.nil
          go_simp
          refine hK.out _ _ ?_
          clear hK K
          try simp only [Act.put, tA, tZ, tS]
          refine wpAnyP_take0 (i := 12) (v := ?_) (by simp only [gA, gZ, gS]; rfl) (by kernel_rfl) (by kernel_rfl) (by kernel_rfl) (by kernel_rfl) (by intro _ _ _ h; exact h) (Or.inl ⟨by rfl, ?_⟩) (SL_of (by kernel_rfl)) ?_
          rotate_left
          · (intro w9 hSw; (try dsimp only at hSw); go_simp <;> with_reducible rfl)
          try simp only [Act.put, tA, tZ, tS]
          refine wpAnyP_ready (rs := [13]) (by kernel_rfl) (by simp) ?_
          refine AllReadyP.consS (by simp only [gA, gZ, gS]; rfl) (by kernel_rfl) (fun K hK => ?_) AllReadyP.nil
          go_simp
          refine hK.out _ _ ?_
          clear hK K
          try simp only [Act.put, tA, tZ, tS]
          refine wpAnyP_done (by kernel_rfl) ?_ _
          have hA5 : Hid (((((((wb.setCell ⟨w.heap.size + 1, 1, none⟩ (.int .i64 xa)).setCell ⟨w.heap.size + 1, 2, none⟩ (.int .i64 xb)).setCell ⟨w.heap.size + 1, 3, none⟩ (.int .i64 ya)).setCell ⟨w.heap.size + 1, 4, none⟩ (.int .i64 yb)).setCell ⟨w.heap.size + 1, 5, none⟩ (.int .i64 yc)).setCell ⟨w.heap.size + 1, 6, none⟩ (.int .i64 yd)).heap[w.heap.size + 1]? = some (.cells #[.int .i64 ky, .int .i64 xa, .int .i64 xb, .int .i64 ya, .int .i64 yb, .int .i64 yc, .int .i64 yd] 53 (0, 0))) := hide (Joins.block_setCell (Joins.block_setCell (Joins.block_setCell (Joins.block_setCell (Joins.block_setCell (Joins.block_setCell bO3 _) _) _) _) _) _)
          have hne : ∀ (X : World) (u : Value) (j : Nat), (X.setCell ⟨w.heap.size + 1, j, none⟩ u).heap[w.heap.size]? = X.heap[w.heap.size]? := fun X u j => Below.heap_setCell _ _ _ _ (by simp)
          have hR5 : Hid (((((((wb.setCell ⟨w.heap.size + 1, 1, none⟩ (.int .i64 xa)).setCell ⟨w.heap.size + 1, 2, none⟩ (.int .i64 xb)).setCell ⟨w.heap.size + 1, 3, none⟩ (.int .i64 ya)).setCell ⟨w.heap.size + 1, 4, none⟩ (.int .i64 yb)).setCell ⟨w.heap.size + 1, 5, none⟩ (.int .i64 yc)).setCell ⟨w.heap.size + 1, 6, none⟩ (.int .i64 yd)).heap[w.heap.size]? = some (.cells #[.int .i64 ky, .int .i64 st, .int .i64 en, .int .i64 n, .int .i64 su, .int .i64 le, .int .i64 mo] 53 (0, 0))) := hide (by rw [hne, hne, hne, hne, hne, hne]; exact (hbb.block w.heap.size (by omega)).trans ((hba.block w.heap.size (by omega)).trans bR1))
          have hnb : u6.ownBlock ≠ some (w.heap.size + 1) := fun e9 => by have := (World.ownsRow.lt (unhide HO1) _ e9).1; omega
          have hO5 : Hid (OwnTb ((((((wb.setCell ⟨w.heap.size + 1, 1, none⟩ (.int .i64 xa)).setCell ⟨w.heap.size + 1, 2, none⟩ (.int .i64 xb)).setCell ⟨w.heap.size + 1, 3, none⟩ (.int .i64 ya)).setCell ⟨w.heap.size + 1, 4, none⟩ (.int .i64 yb)).setCell ⟨w.heap.size + 1, 5, none⟩ (.int .i64 yc)).setCell ⟨w.heap.size + 1, 6, none⟩ (.int .i64 yd)) (w.heap.size + 1 + 1) u6 q.l) := hide (ownTb_set (ownTb_set (ownTb_set (ownTb_set (ownTb_set (ownTb_set (ownTb_bel (ownTb_bel (unhide HO1) hba) hbb) hnb) hnb) hnb) hnb) hnb) hnb)
          have hF5 : Below w.heap.size w ((((((wb.setCell ⟨w.heap.size + 1, 1, none⟩ (.int .i64 xa)).setCell ⟨w.heap.size + 1, 2, none⟩ (.int .i64 xb)).setCell ⟨w.heap.size + 1, 3, none⟩ (.int .i64 ya)).setCell ⟨w.heap.size + 1, 4, none⟩ (.int .i64 yb)).setCell ⟨w.heap.size + 1, 5, none⟩ (.int .i64 yc)).setCell ⟨w.heap.size + 1, 6, none⟩ (.int .i64 yd)) := bel_set (bel_set (bel_set (bel_set (bel_set (bel_set (bel_trans (bel_trans hbF1 hba) hbb) (by simp) _) (by simp) _) (by simp) _) (by simp) _) (by simp) _) (by simp) _
          clear hne hba hbb HO1 hbF1 bO1 bQ1 bR1 bO2 bQ2 bO3 bQ3 y0 y1 y2 y3 y4 y5 y6 f1 f2 f3 f4 f5 f6
          generalize ((((((wb.setCell ⟨w.heap.size + 1, 1, none⟩ (.int .i64 xa)).setCell ⟨w.heap.size + 1, 2, none⟩ (.int .i64 xb)).setCell ⟨w.heap.size + 1, 3, none⟩ (.int .i64 ya)).setCell ⟨w.heap.size + 1, 4, none⟩ (.int .i64 yb)).setCell ⟨w.heap.size + 1, 5, none⟩ (.int .i64 yc)).setCell ⟨w.heap.size + 1, 6, none⟩ (.int .i64 yd)) = we at *
          go_wp2
          refine ⟨⟨i + 1, ⟨xa, xb, (ya, yb, yc, yd), q.l⟩, by omega, by go_num, hide (by rw [unhide HS]; exact unhide HQ2), hR5, hA5, hO5, hF5⟩, ?_⟩
          simp [intOf]; omega
      · have hk1 : (oky == ky) = false := by simp [hk]
        have HN := hide (sesStep_no (k := ky) (a := st) (b := en) (q := q) (r := ⟨oky, ost, oen, on, osu, ole, omo⟩) (fun h9 => hk h9.1))
        have HOa := hide (ownTb_bel (unhide HO) hbo)
        have hbFq : Below w.heap.size w (wr.alloc (.cells #[.int .i64 oky, .int .i64 ost, .int .i64 oen, .int .i64 on, .int .i64 osu, .int .i64 ole, .int .i64 omo] 53)) := bel_alloc hbw _
        have zq : wr.heap.size < (wr.alloc (.cells #[.int .i64 oky, .int .i64 ost, .int .i64 oen, .int .i64 on, .int .i64 osu, .int .i64 ole, .int .i64 omo] 53)).heap.size := by simp
        have bRq := bR
        have bOq := bO
        clear hk HO HR HOn hbo bO bR bQ
        have hge := hide (fun b (hb : u6.ownBlock = some b) => (World.ownsRow.lt (unhide HOa) b hb).1)
        go_wp2_with (at_builtin; go_loud (refine wpList_append_own _ rfl _ _ 26 rfl (w.heap.size + 1 + 1) 53 i0 _ 7 56 Tryz.underlying26 hi hz0' hz1' hz2' rfl (by decide) u6 _ _ rfl (World.ownsRow.alloc (unhide HOa) _) ⟨wr.heap.size + 1, 0, none⟩ 1 1 [.int .i64 oky, .int .i64 ost, .int .i64 oen, .int .i64 on, .int .i64 osu, .int .i64 ole, .int .i64 omo] rfl rfl (cells_atTb _ oky ost oen on osu ole omo _ (by simp)) (by simp [Value.oneCell']) (by unfold maxLen; omega) (by omega) (by simp; omega) ?_); intro v' w5 hown hgrow hnn)
        have hb5 : Below (w.heap.size + 1 + 1) (wr.alloc (.cells #[.int .i64 oky, .int .i64 ost, .int .i64 oen, .int .i64 on, .int .i64 osu, .int .i64 ole, .int .i64 omo] 53)) w5 := ((Below.refl _ _).alloc (by simp; omega) _).grown hgrow (by simp; omega) (unhide hge)
        have O5 := ownTb_snoc (x := ⟨oky, ost, oen, on, osu, ole, omo⟩) hown
        refine ⟨⟨i + 1, ⟨q.a, q.b, q.g, q.l ++ [⟨oky, ost, oen, on, osu, ole, omo⟩]⟩, by omega, by go_num, hide (by rw [unhide HS]; exact unhide HN), hide ((hb5.block w.heap.size (by omega)).trans bRq), hide ((hb5.block (w.heap.size + 1) (by omega)).trans bOq), hide O5, hbFq.trans (hb5.mono (by omega))⟩, ?_⟩
        simp [intOf]; omega
    · obtain rfl : len = i := by omega
      have HQf : Hid (sesAll ky st en (n, su, le, mo) rows = q) := hide (by have h9 := unhide HQ; rw [List.take_of_length_le (by omega)] at h9; exact h9)
      have HRf : Hid (sesPut ky st en (n, su, le, mo) rows = insR (sesRow ky q) (kpTb ky q.a q.b q.l)) := hide (by unfold sesPut; rw [unhide HQf])
      obtain ⟨ao, co, rfl, HT, _, _⟩ := holdTb (unhide HO) (by omega)
      have a0 : wr.cell? ⟨w.heap.size + 1, 0, none⟩ = some (.int .i64 ky) := Joins.cell_of_block (unhide HOn) 0
      have a1 : wr.cell? ⟨w.heap.size + 1, 1, none⟩ = some (.int .i64 q.a) := Joins.cell_of_block (unhide HOn) 1
      have a2 : wr.cell? ⟨w.heap.size + 1, 2, none⟩ = some (.int .i64 q.b) := Joins.cell_of_block (unhide HOn) 2
      have a3 : wr.cell? ⟨w.heap.size + 1, 3, none⟩ = some (.int .i64 q.g.1) := Joins.cell_of_block (unhide HOn) 3
      have a4 : wr.cell? ⟨w.heap.size + 1, 4, none⟩ = some (.int .i64 q.g.2.1) := Joins.cell_of_block (unhide HOn) 4
      have a5 : wr.cell? ⟨w.heap.size + 1, 5, none⟩ = some (.int .i64 q.g.2.2.1) := Joins.cell_of_block (unhide HOn) 5
      have a6 : wr.cell? ⟨w.heap.size + 1, 6, none⟩ = some (.int .i64 q.g.2.2.2) := Joins.cell_of_block (unhide HOn) 6
      have HTh := hide HT
      clear HT HQ HQf HO HR HOn
      go_wp2_with fail
      refine (implput_any (sesRow ky q) _ _ _ q.l _ (unhide HTh) (by omega)).mono ?_
      rintro e9 w9 ⟨v9, rfl, hO9, hb9⟩
      go_wp2
      go_ret
      refine ⟨_, rfl, ?_, bel_trans hbw hb9⟩
      rw [unhide HRf]
      exact World.ownsRow.mono hO9 hbw.size
end Go.Proofs.YtikidpcgnmffcaaGreat
