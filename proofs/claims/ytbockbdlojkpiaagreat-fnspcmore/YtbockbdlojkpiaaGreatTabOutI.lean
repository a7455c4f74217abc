/- Proved here: the rows of (or without those of) a window of a key, in the program, in new memory. -/
import Derived.Test.YtbockbdlojkpiaaGreatTabOutS
import Derived.Test.YtbockbdlojkpiaaGreatTabFnd2
namespace Go.Proofs.YtbockbdlojkpiaaGreat
open Go.ChangeShapes Go.WideShapes Go.ChangeAt Go.RowKit
set_option linter.unusedVariables false

set_option maxRecDepth 20000 in
set_option maxHeartbeats 2000000 in
theorem cloTb_any (x : TbR) (B : Nat) (ky st en : Int) (w : World) (c0 : w.cell? ⟨B, 0, none⟩ = some (.int .i64 ky)) (c1 : w.cell? ⟨B, 1, none⟩ = some (.int .i64 st)) (c2 : w.cell? ⟨B, 2, none⟩ = some (.int .i64 en)) (hBs : B < w.heap.size) : Calls Tryz.prog 83 #[.agg #[.int .i64 x.ky, .int .i64 x.st, .int .i64 x.en, .int .i64 x.n, .int .i64 x.su, .int .i64 x.le, .int .i64 x.mo], .pointer (some ⟨B, 0, none⟩)] w fun e w' => e = .returned (.bool (!x.isB ky st en)) ∧ Below w.heap.size w w' := by
  by_cases k1 : x.ky = ky
  · by_cases k2 : x.st = st
    · by_cases k3 : x.en = en
      · have hB := isTb_t k1 k2 k3
        have HB : Hid ((!x.isB ky st en) = false) := hide (by simp [hB])
        clear hB
        go_enter Tryz.func83, Tryz.ntmps83
        go_wp2
        go_region_held3 (fun W => ((W.cell? ⟨B, 0, none⟩ = some (.int .i64 ky) ∧ W.cell? ⟨B, 1, none⟩ = some (.int .i64 st) ∧ W.cell? ⟨B, 2, none⟩ = some (.int .i64 en) ∧ W.cell? ⟨w.heap.size, 0, none⟩ = some (.int .i64 x.ky) ∧ W.cell? ⟨w.heap.size, 1, none⟩ = some (.int .i64 x.st) ∧ W.cell? ⟨w.heap.size, 2, none⟩ = some (.int .i64 x.en) ∧ W.cell? ⟨w.heap.size, 3, none⟩ = some (.int .i64 x.n) ∧ W.cell? ⟨w.heap.size, 4, none⟩ = some (.int .i64 x.su) ∧ W.cell? ⟨w.heap.size, 5, none⟩ = some (.int .i64 x.le) ∧ W.cell? ⟨w.heap.size, 6, none⟩ = some (.int .i64 x.mo)) ∧ B < W.heap.size ∧ w.heap.size < W.heap.size)) ((first | ((repeat (first | (with_reducible assumption) | (with_reducible refine hd_3_7 ?_ (by with_reducible assumption)) | (with_reducible refine hd_3_7 ?_ (bel_drew (Below.refl _ _))) | (with_reducible exact hd_3_7_re (by with_reducible assumption) (by first | omega | (simp; done) | (simp; omega)) (by first | omega | (simp; done) | (simp; omega))) | (with_reducible refine hd_3_7 ?_ (bel_one _ _)) | (with_reducible refine hd_3_7_set ?_ (by first | omega | (simp; done) | (simp; omega)) (by first | omega | (simp; done) | (simp; omega)) _))); done) | (refine ⟨⟨?_, ?_, ?_, ?_, ?_, ?_, ?_, ?_, ?_, ?_⟩, ?_, ?_⟩ <;> first | (go_keep; done) | (simp; done) | (simp; omega) | omega)))
          (first
          | (go_at_call 34; refine (rowplace_any _ _ _ _ _ _ _ _).mono ?_; rintro e w' ⟨rfl, hb⟩; obtain ⟨hc, hf, hs⟩ := bcell hb))
        all_goals
          go_wp2
          go_ret
          exact ⟨ret_b (unhide HB).symm, (by repeat (first | (with_reducible exact Below.refl _ _) | (with_reducible assumption) | (with_reducible refine bel_set ?_ (by first | (simp; done) | (simp; omega)) _) | (with_reducible refine bel_alloc ?_ _) | (with_reducible refine bel_drew ?_) | (with_reducible refine bel_drewN ?_ _) | (with_reducible refine bel_trans ?_ (by with_reducible assumption))))⟩
      · have hB := isTb_3 (ky := ky) (st := st) k3
        have k3' : (x.en == en) = false := by simpa using k3
        have HB : Hid ((!x.isB ky st en) = true) := hide (by simp [hB])
        clear hB
        go_enter Tryz.func83, Tryz.ntmps83
        go_wp2
        go_region_held3 (fun W => ((W.cell? ⟨B, 0, none⟩ = some (.int .i64 ky) ∧ W.cell? ⟨B, 1, none⟩ = some (.int .i64 st) ∧ W.cell? ⟨B, 2, none⟩ = some (.int .i64 en) ∧ W.cell? ⟨w.heap.size, 0, none⟩ = some (.int .i64 x.ky) ∧ W.cell? ⟨w.heap.size, 1, none⟩ = some (.int .i64 x.st) ∧ W.cell? ⟨w.heap.size, 2, none⟩ = some (.int .i64 x.en) ∧ W.cell? ⟨w.heap.size, 3, none⟩ = some (.int .i64 x.n) ∧ W.cell? ⟨w.heap.size, 4, none⟩ = some (.int .i64 x.su) ∧ W.cell? ⟨w.heap.size, 5, none⟩ = some (.int .i64 x.le) ∧ W.cell? ⟨w.heap.size, 6, none⟩ = some (.int .i64 x.mo)) ∧ B < W.heap.size ∧ w.heap.size < W.heap.size)) ((first | ((repeat (first | (with_reducible assumption) | (with_reducible refine hd_3_7 ?_ (by with_reducible assumption)) | (with_reducible refine hd_3_7 ?_ (bel_drew (Below.refl _ _))) | (with_reducible exact hd_3_7_re (by with_reducible assumption) (by first | omega | (simp; done) | (simp; omega)) (by first | omega | (simp; done) | (simp; omega))) | (with_reducible refine hd_3_7 ?_ (bel_one _ _)) | (with_reducible refine hd_3_7_set ?_ (by first | omega | (simp; done) | (simp; omega)) (by first | omega | (simp; done) | (simp; omega)) _))); done) | (refine ⟨⟨?_, ?_, ?_, ?_, ?_, ?_, ?_, ?_, ?_, ?_⟩, ?_, ?_⟩ <;> first | (go_keep; done) | (simp; done) | (simp; omega) | omega)))
          (first
          | (go_at_call 34; refine (rowplace_any _ _ _ _ _ _ _ _).mono ?_; rintro e w' ⟨rfl, hb⟩; obtain ⟨hc, hf, hs⟩ := bcell hb))
        all_goals
          go_wp2
          go_ret
          exact ⟨ret_b (unhide HB).symm, (by repeat (first | (with_reducible exact Below.refl _ _) | (with_reducible assumption) | (with_reducible refine bel_set ?_ (by first | (simp; done) | (simp; omega)) _) | (with_reducible refine bel_alloc ?_ _) | (with_reducible refine bel_drew ?_) | (with_reducible refine bel_drewN ?_ _) | (with_reducible refine bel_trans ?_ (by with_reducible assumption))))⟩
    · have hB := isTb_2 (ky := ky) (en := en) k2
      have k2' : (x.st == st) = false := by simpa using k2
      have HB : Hid ((!x.isB ky st en) = true) := hide (by simp [hB])
      clear hB
      go_enter Tryz.func83, Tryz.ntmps83
      go_wp2
      go_region_held3 (fun W => ((W.cell? ⟨B, 0, none⟩ = some (.int .i64 ky) ∧ W.cell? ⟨B, 1, none⟩ = some (.int .i64 st) ∧ W.cell? ⟨B, 2, none⟩ = some (.int .i64 en) ∧ W.cell? ⟨w.heap.size, 0, none⟩ = some (.int .i64 x.ky) ∧ W.cell? ⟨w.heap.size, 1, none⟩ = some (.int .i64 x.st) ∧ W.cell? ⟨w.heap.size, 2, none⟩ = some (.int .i64 x.en) ∧ W.cell? ⟨w.heap.size, 3, none⟩ = some (.int .i64 x.n) ∧ W.cell? ⟨w.heap.size, 4, none⟩ = some (.int .i64 x.su) ∧ W.cell? ⟨w.heap.size, 5, none⟩ = some (.int .i64 x.le) ∧ W.cell? ⟨w.heap.size, 6, none⟩ = some (.int .i64 x.mo)) ∧ B < W.heap.size ∧ w.heap.size < W.heap.size)) ((first | ((repeat (first | (with_reducible assumption) | (with_reducible refine hd_3_7 ?_ (by with_reducible assumption)) | (with_reducible refine hd_3_7 ?_ (bel_drew (Below.refl _ _))) | (with_reducible exact hd_3_7_re (by with_reducible assumption) (by first | omega | (simp; done) | (simp; omega)) (by first | omega | (simp; done) | (simp; omega))) | (with_reducible refine hd_3_7 ?_ (bel_one _ _)) | (with_reducible refine hd_3_7_set ?_ (by first | omega | (simp; done) | (simp; omega)) (by first | omega | (simp; done) | (simp; omega)) _))); done) | (refine ⟨⟨?_, ?_, ?_, ?_, ?_, ?_, ?_, ?_, ?_, ?_⟩, ?_, ?_⟩ <;> first | (go_keep; done) | (simp; done) | (simp; omega) | omega)))
        (first
        | (go_at_call 34; refine (rowplace_any _ _ _ _ _ _ _ _).mono ?_; rintro e w' ⟨rfl, hb⟩; obtain ⟨hc, hf, hs⟩ := bcell hb))
      all_goals
        go_wp2
        go_ret
        exact ⟨ret_b (unhide HB).symm, (by repeat (first | (with_reducible exact Below.refl _ _) | (with_reducible assumption) | (with_reducible refine bel_set ?_ (by first | (simp; done) | (simp; omega)) _) | (with_reducible refine bel_alloc ?_ _) | (with_reducible refine bel_drew ?_) | (with_reducible refine bel_drewN ?_ _) | (with_reducible refine bel_trans ?_ (by with_reducible assumption))))⟩
  · have hB := isTb_1 (st := st) (en := en) k1
    have k1' : (x.ky == ky) = false := by simpa using k1
    have HB : Hid ((!x.isB ky st en) = true) := hide (by simp [hB])
    clear hB
    go_enter Tryz.func83, Tryz.ntmps83
    go_wp2
    go_region_held3 (fun W => ((W.cell? ⟨B, 0, none⟩ = some (.int .i64 ky) ∧ W.cell? ⟨B, 1, none⟩ = some (.int .i64 st) ∧ W.cell? ⟨B, 2, none⟩ = some (.int .i64 en) ∧ W.cell? ⟨w.heap.size, 0, none⟩ = some (.int .i64 x.ky) ∧ W.cell? ⟨w.heap.size, 1, none⟩ = some (.int .i64 x.st) ∧ W.cell? ⟨w.heap.size, 2, none⟩ = some (.int .i64 x.en) ∧ W.cell? ⟨w.heap.size, 3, none⟩ = some (.int .i64 x.n) ∧ W.cell? ⟨w.heap.size, 4, none⟩ = some (.int .i64 x.su) ∧ W.cell? ⟨w.heap.size, 5, none⟩ = some (.int .i64 x.le) ∧ W.cell? ⟨w.heap.size, 6, none⟩ = some (.int .i64 x.mo)) ∧ B < W.heap.size ∧ w.heap.size < W.heap.size)) ((first | ((repeat (first | (with_reducible assumption) | (with_reducible refine hd_3_7 ?_ (by with_reducible assumption)) | (with_reducible refine hd_3_7 ?_ (bel_drew (Below.refl _ _))) | (with_reducible exact hd_3_7_re (by with_reducible assumption) (by first | omega | (simp; done) | (simp; omega)) (by first | omega | (simp; done) | (simp; omega))) | (with_reducible refine hd_3_7 ?_ (bel_one _ _)) | (with_reducible refine hd_3_7_set ?_ (by first | omega | (simp; done) | (simp; omega)) (by first | omega | (simp; done) | (simp; omega)) _))); done) | (refine ⟨⟨?_, ?_, ?_, ?_, ?_, ?_, ?_, ?_, ?_, ?_⟩, ?_, ?_⟩ <;> first | (go_keep; done) | (simp; done) | (simp; omega) | omega)))
      (first
      | (go_at_call 34; refine (rowplace_any _ _ _ _ _ _ _ _).mono ?_; rintro e w' ⟨rfl, hb⟩; obtain ⟨hc, hf, hs⟩ := bcell hb))
    all_goals
      go_wp2
      go_ret
      exact ⟨ret_b (unhide HB).symm, (by repeat (first | (with_reducible exact Below.refl _ _) | (with_reducible assumption) | (with_reducible refine bel_set ?_ (by first | (simp; done) | (simp; omega)) _) | (with_reducible refine bel_alloc ?_ _) | (with_reducible refine bel_drew ?_) | (with_reducible refine bel_drewN ?_ _) | (with_reducible refine bel_trans ?_ (by with_reducible assumption))))⟩

set_option maxRecDepth 20000 in
set_option maxHeartbeats 2000000 in
theorem onlyTb_any (a : Option Addr) (len cap : Nat) (xs : List TbR) (B : Nat) (ky st en : Int) (w : World) (h : TbRs w a len xs) (hl : len ≤ 1048576) (c0 : w.cell? ⟨B, 0, none⟩ = some (.int .i64 ky)) (c1 : w.cell? ⟨B, 1, none⟩ = some (.int .i64 st)) (c2 : w.cell? ⟨B, 2, none⟩ = some (.int .i64 en)) (hBs : B < w.heap.size) : Calls Tryz.prog 82 #[.slice a len cap, .func (.func 83) #[] #[.pointer (some ⟨B, 0, none⟩)]] w fun e w' => ∃ v, e = .returned v ∧ OwnTb w' w.heap.size v (kpTb ky st en xs) ∧ Below w.heap.size w w' := by
  have hm := h.2.1
  unfold maxLen at hm
  obtain ⟨i0, hi, hz0, hz1, hz2⟩ := info_parts Tryz.infoTb
  go_enter Tryz.func82, Tryz.ntmps82
  go_wp2
  go_loopw [5, 10] (fun v' i wr => ∃ k : Nat, k ≤ len ∧ i = .int .i64 k ∧ OwnTb wr w.heap.size v' (kpTb ky st en (xs.take k)) ∧ Below w.heap.size w wr) (fun _ i _ => len - (intOf i).toNat)
  case atStart => exact ⟨0, Nat.zero_le _, rfl, World.ownsRow_nil _ _ _ _, Below.refl _ _⟩
  case round =>
    obtain ⟨k, hk, rfl, hO, hbw⟩ := hrel
    have hws := hbw.size
    have hkl := kpTb_len ky st en xs k
    have HO := hide hO
    have hge := hide (ownTb_ge hO)
    clear hO
    by_cases hlt : k < len
    · obtain ⟨hxl, _, hx⟩ := h
      obtain ⟨g, o, rfl, hr⟩ := hx.resolve_left (by omega)
      obtain ⟨x, hxk⟩ : ∃ x, xs[k]? = some x := ⟨_, List.getElem?_eq_getElem (by omega)⟩
      have hg : g < w.heap.size := hr.lt (by omega)
      have hX := hide hxk
      obtain ⟨d0, d1, d2, d3, d4, d5, d6⟩ := (hr k _ hxk).below hbw hg
      clear hx hxk hr
      cases hB : x.isB ky st en
      · have HB := hide hB
        go_wp2_with (first
          | (go_at_call 83; refine (cloTb_any x B ky st en _ ((bel_alloc hbw _).cell (p := ⟨B, 0, none⟩) hBs |>.trans c0) ((bel_alloc hbw _).cell (p := ⟨B, 1, none⟩) hBs |>.trans c1) ((bel_alloc hbw _).cell (p := ⟨B, 2, none⟩) hBs |>.trans c2) (by simp; omega)).mono ?_; rintro e wf ⟨rfl, hb⟩; obtain ⟨hc, hf, hsz⟩ := bcell hb; have hzf : wr.heap.size < wf.heap.size := (by have h9 := hb.size; simp at h9; omega))
          | (at_builtin; go_loud (refine wpList_append_own _ rfl _ _ 28 rfl w.heap.size 39 i0 _ 7 56 Tryz.underlying28 hi hz0 hz1 hz2 rfl (by decide) u5 _ _ rfl (World.ownsRow.alloc (ownBel (World.ownsRow.alloc (unhide HO) _) hb) _) ⟨wf.heap.size, 0, none⟩ 1 1 [.int .i64 x.ky, .int .i64 x.st, .int .i64 x.en, .int .i64 x.n, .int .i64 x.su, .int .i64 x.le, .int .i64 x.mo] rfl rfl (cells_newTb wf x.ky x.st x.en x.n x.su x.le x.mo _) (by simp [Value.oneCell']) (by unfold maxLen; omega) (by omega) (by have h9 := hb.size; have h8 := hbw.size; simp at h9 ⊢; omega) ?_); intro v' w1 hown' hgrow _))
        have hb1 : Below w.heap.size w w1 := ((bel_trans (bel_alloc hbw _) hb).alloc (by have h9 := hb.size; simp at h9; omega) _).grown hgrow (by have h9 := hb.size; simp at h9 ⊢; omega) (unhide hge)
        go_roundw
        case rel => exact ⟨k + 1, by omega, by go_num, keepTb (unhide hX) (unhide HB) hown', hb1⟩
        case measure => simp [intOf]; omega
      · have HB := hide hB
        go_wp2_with (first
          | (go_at_call 83; refine (cloTb_any x B ky st en _ ((bel_alloc hbw _).cell (p := ⟨B, 0, none⟩) hBs |>.trans c0) ((bel_alloc hbw _).cell (p := ⟨B, 1, none⟩) hBs |>.trans c1) ((bel_alloc hbw _).cell (p := ⟨B, 2, none⟩) hBs |>.trans c2) (by simp; omega)).mono ?_; rintro e wf ⟨rfl, hb⟩; obtain ⟨hc, hf, hsz⟩ := bcell hb; have hzf : wr.heap.size < wf.heap.size := (by have h9 := hb.size; simp at h9; omega))
          | (at_builtin; go_loud (refine wpList_append_own _ rfl _ _ 28 rfl w.heap.size 39 i0 _ 7 56 Tryz.underlying28 hi hz0 hz1 hz2 rfl (by decide) u5 _ _ rfl (World.ownsRow.alloc (ownBel (World.ownsRow.alloc (unhide HO) _) hb) _) ⟨wf.heap.size, 0, none⟩ 1 1 [.int .i64 x.ky, .int .i64 x.st, .int .i64 x.en, .int .i64 x.n, .int .i64 x.su, .int .i64 x.le, .int .i64 x.mo] rfl rfl (cells_newTb wf x.ky x.st x.en x.n x.su x.le x.mo _) (by simp [Value.oneCell']) (by unfold maxLen; omega) (by omega) (by have h9 := hb.size; have h8 := hbw.size; simp at h9 ⊢; omega) ?_); intro v' w1 hown' hgrow _))
        go_roundw
        case rel => exact ⟨k + 1, by omega, by go_num, skipTb (unhide hX) (unhide HB) (ownBel (World.ownsRow.alloc (unhide HO) _) hb), bel_trans (bel_alloc hbw _) hb⟩
        case measure => simp [intOf]; omega
    · have HQ : Hid (kpTb ky st en (xs.take k) = kpTb ky st en xs) := hide (by rw [List.take_of_length_le (by have := h.1; omega)])
      go_wp2
      go_ret
      refine ⟨_, rfl, ?_, hbw⟩
      rw [← unhide HQ]
      exact unhide HO

theorem implTabOut_any (a : Option Addr) (len cap : Nat) (xs : List TbR) (ky st en : Int) (w : World) (h : TbRs w a len xs) (hl : len ≤ 1048576) : Calls Tryz.prog 71 #[.slice a len cap, .int .i64 ky, .agg #[.int .i64 st, .int .i64 en]] w fun e w' => ∃ v, e = .returned v ∧ OwnTb w' w.heap.size v (kpTb ky st en xs) ∧ Below w.heap.size w w' := by
  go_enter Tryz.func71, Tryz.ntmps71
  go_wp2_with (go_at_call 82; refine (onlyTb_any a len cap xs (w.heap.size + 1) ky st en _ (h.below (by repeat (first | (with_reducible refine bel_set ?_ (by first | (simp; done) | (simp; omega)) _) | (with_reducible refine bel_alloc ?_ _) | (with_reducible exact Below.refl _ _) | (with_reducible assumption) | (with_reducible refine bel_drew ?_) | (with_reducible refine bel_drewN ?_ _) | (with_reducible refine bel_trans ?_ (by with_reducible assumption))))) hl (by simp [go_sem]) (by simp [go_sem]) (by simp [go_sem]) (by simp)).mono ?_; rintro e w' ⟨v, rfl, hO, hb⟩)
  go_ret
  exact ⟨_, rfl, World.ownsRow.mono hO (by simp; omega), (by repeat (first | (with_reducible refine bel_set ?_ (by first | (simp; done) | (simp; omega)) _) | (with_reducible refine bel_alloc ?_ _) | (with_reducible exact Below.refl _ _) | (with_reducible assumption) | (with_reducible refine bel_drew ?_) | (with_reducible refine bel_drewN ?_ _) | (with_reducible refine bel_trans ?_ (by with_reducible assumption))))⟩

end Go.Proofs.YtbockbdlojkpiaaGreat
