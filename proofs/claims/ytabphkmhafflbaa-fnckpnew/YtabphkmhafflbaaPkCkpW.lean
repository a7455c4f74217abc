/- Laid together: what the claim needs of the texts that were built one by one. -/
import Derived.Test.YtabphkmhafflbaaPkCkpQ
import Derived.Test.YtabphkmhafflbaaPkCkpV
import Derived.Deep.RegionHeld3
import Derived.Test.YtabphkmhafflbaaPkBase
namespace Go.Proofs.Ytabphkmhafflbaa
open Go.ChangeShapes Go.WideShapes Go.ChangeAt Go.RowKit Go.Deep
set_option linter.unusedVariables false

theorem implnewc_no (s t k z p l e : Int) (b : Bool) (v r : Int) (w : World) (hj : okJob s t k z p l e v r = false) : Calls Try.prog 5 #[.agg #[.int .i64 s, .int .i64 t, .int .i64 k, .int .i64 z, .int .i64 p, .int .i64 l, .int .i64 e, .bool b, .int .i64 v, .int .i64 r]] w fun e' w' => NewC w ckZero e' w' := by
  go_enter Try.func5, Try.ntmps5
  go_wp2_with (go_at_call 15; refine (impljobok_any s t k z p l e b v r _).mono ?_; rintro e' w1 ⟨rfl, hb1⟩; obtain ⟨hc1, hf1, hs1⟩ := bcell hb1; have hz10 : w.heap.size < w1.heap.size := (by have h9 := hb1.size; (try simp at h9); omega); have hz11 : w.heap.size + 1 < w1.heap.size := (by have h9 := hb1.size; (try simp at h9); omega))
  refine bodyPost_ret (v := .agg #[.int .i64 0, .bool false, .slice none 0 0, .slice none 0 0, .slice none 0 0, .int .i64 0, .slice none 0 0, .slice none 0 0]) (by simp (maxDischargeDepth := 9) [results, Try.results5, go_sem, *]) rfl ?_
  exact zero_newC (belA)

set_option linter.unusedSimpArgs false in
set_option maxRecDepth 20000 in
set_option maxHeartbeats 16000000 in
theorem implnewc_ok (i t : Nat) (k z p l e : Int) (b : Bool) (v r : Int) (w : World) (hj : okJob i t k z p l e v r = true) (hs : 1 ≤ i ∧ i ≤ 3) (ht : 1 ≤ t ∧ t ≤ 2) : Calls Try.prog 5 #[.agg #[.int .i64 i, .int .i64 t, .int .i64 k, .int .i64 z, .int .i64 p, .int .i64 l, .int .i64 e, .bool b, .int .i64 v, .int .i64 r]] w fun e' w' => NewC w (ckNew i t) e' w' := by
  obtain ⟨i1, hi1, hz10, hz11, hz12⟩ := info_parts Try.infoInt1
  obtain ⟨i3, hi3, hz30, hz31, hz32⟩ := info_parts Try.infoSn1
  have hbb : Below w.heap.size w ((w.alloc (.cells #[.int .i64 i, .int .i64 t, .int .i64 k, .int .i64 z, .int .i64 p, .int .i64 l, .int .i64 e, .bool b, .int .i64 v, .int .i64 r] 24)).alloc (.cells #[.int .i64 0, .bool false, .slice none 0 0, .slice none 0 0, .slice none 0 0, .int .i64 0, .slice none 0 0, .slice none 0 0] 32)) := (belA)
  obtain ⟨C, ⟨hC, hCl⟩, hmk⟩ := mkIn0 i hs
  go_enter Try.func5, Try.ntmps5
  go_wp2_with fail
  refine (impljobok_any i t k z p l e b v r _).mono ?_
  rintro e' w1 ⟨rfl, hb1⟩
  have y1 : w.heap.size + 1 < w1.heap.size := by have h9 := hb1.size; simp at h9; omega
  have y0 : w.heap.size < w1.heap.size := by omega
  have j0 : w1.cell? ⟨w.heap.size, 0, none⟩ = some (.int .i64 i) := (hb1.cell (p := ⟨w.heap.size, 0, none⟩) (by simp <;> omega)).trans (by simp [go_sem])
  have j1 : w1.cell? ⟨w.heap.size, 1, none⟩ = some (.int .i64 t) := (hb1.cell (p := ⟨w.heap.size, 1, none⟩) (by simp <;> omega)).trans (by simp [go_sem])
  go_wp2
  have hbm : Below w1.heap.size w1 ((w1.alloc (.cells C 3)).alloc (.cells #[.int .i64 0, .bool false, .slice none 0 0, .slice none 0 0, .slice none 0 0, .int .i64 0, .slice (some ⟨w1.heap.size, 0, none⟩) i i, .slice none 0 0] 32)) := bel_alloc (bel_one _ _) _
  have O6 : ((w1.alloc (.cells C 3)).alloc (.cells #[.int .i64 0, .bool false, .slice none 0 0, .slice none 0 0, .slice none 0 0, .int .i64 0, .slice (some ⟨w1.heap.size, 0, none⟩) i i, .slice none 0 0] 32)).ownsRow w1.heap.size 3 1 (.slice (some ⟨w1.heap.size, 0, none⟩) i i) i (List.replicate i (.int .i64 0)) := World.ownsRow.alloc (own_made (B := w1.heap.size) (by omega) hCl (by omega) (Nat.le_refl _) rfl) _
  have hbx : BoxC ((w1.alloc (.cells C 3)).alloc (.cells #[.int .i64 0, .bool false, .slice none 0 0, .slice none 0 0, .slice none 0 0, .int .i64 0, .slice (some ⟨w1.heap.size, 0, none⟩) i i, .slice none 0 0] 32)) (w1.heap.size + 1) (.slice none 0 0) (.slice none 0 0) (.slice none 0 0) (.slice (some ⟨w1.heap.size, 0, none⟩) i i) (.slice none 0 0) := blk_new (by simp)
  have hzm : ((w1.alloc (.cells C 3)).alloc (.cells #[.int .i64 0, .bool false, .slice none 0 0, .slice none 0 0, .slice none 0 0, .int .i64 0, .slice (some ⟨w1.heap.size, 0, none⟩) i i, .slice none 0 0] 32)).heap.size = w1.heap.size + 2 := by simp
  generalize ((w1.alloc (.cells C 3)).alloc (.cells #[.int .i64 0, .bool false, .slice none 0 0, .slice none 0 0, .slice none 0 0, .int .i64 0, .slice (some ⟨w1.heap.size, 0, none⟩) i i, .slice none 0 0] 32)) = wm at hbm O6 hbx hzm ⊢
  have hbxe : w1.heap.size + 1 + 1 = wm.heap.size := by omega
  clear hzm
  have hbxl : w1.heap.size < w1.heap.size + 1 := by omega
  generalize w1.heap.size + 1 = bx at hbx hbxe hbxl ⊢
  have hbxm : bx < wm.heap.size := by omega
  clear hbxe
  have HO := hide O6
  clear O6
  go_loopw [15] (fun iv wr => ∃ (n : Nat) (a7 : Option Addr) (c7 : Nat) (gs : List Nat), iv = .int .i64 n ∧ n ≤ t ∧ wr.ownsRow wm.heap.size 48 3 (.slice a7 n c7) n (flatSV (gs.map (mkP i))) ∧ gs.length = n ∧ Mks wr wm.heap.size i gs ∧ BoxC wr bx (.slice none 0 0) (.slice none 0 0) (.slice none 0 0) (.slice (some ⟨w1.heap.size, 0, none⟩) i i) (.slice a7 n c7) ∧ Kept (fun b => b = bx) wm wr) (fun i _ => t - (intOf i).toNat)
  case atStart => exact ⟨0, none, 0, [], rfl, Nat.zero_le _, World.ownsRow_nil _ _ _ _, rfl, ⟨fun g hg => by simp at hg, List.Pairwise.nil⟩, hbx, Kept.refl _ _⟩
  case round =>
        obtain ⟨n, a7, c7, gs, rfl, hn, hO7, hgl, hMk, hX, hK⟩ := hrel
        have hKs2 : wm.heap.size ≤ wr.heap.size := hK.size
        have jc : ∀ k9, wr.cell? ⟨w.heap.size, k9, none⟩ = w1.cell? ⟨w.heap.size, k9, none⟩ := fun k9 => (World.cell?_of_block (hK.blk w.heap.size (by omega) (show ¬ w.heap.size = bx by omega))).trans (hbm.cell (p := ⟨w.heap.size, k9, none⟩) y0)
        have kc : ∀ k9, wr.cell? ⟨w.heap.size, k9, none⟩ = ((w.alloc (.cells #[.int .i64 i, .int .i64 t, .int .i64 k, .int .i64 z, .int .i64 p, .int .i64 l, .int .i64 e, .bool b, .int .i64 v, .int .i64 r] 24)).alloc (.cells #[.int .i64 0, .bool false, .slice none 0 0, .slice none 0 0, .slice none 0 0, .int .i64 0, .slice none 0 0, .slice none 0 0] 32)).cell? ⟨w.heap.size, k9, none⟩ := fun k9 => (jc k9).trans (hb1.cell (p := ⟨w.heap.size, k9, none⟩) (by simp <;> omega))
        have j0 : wr.cell? ⟨w.heap.size, 0, none⟩ = some (.int .i64 i) := (jc 0).trans j0
        have HX2 := hide hX
        obtain ⟨⟨x0, x1, x2, x3, x4, x5, x6, x7⟩, xf⟩ := hX.cells
        have hge := hide (own_geV hO7)
        have HO7 := hide hO7
        have HM := hide hMk
        have hltb := hX.lt
        clear hO7 hX hMk jc
        by_cases hlt : (n : Int) < (t : Int)
        · have xf7 := xf 7
          clear xf kc
          have yw : w.heap.size < wr.heap.size := by omega
          have yn : w.heap.size ≠ bx := by omega
          have yn' : bx ≠ w.heap.size := by omega
          go_wp2_with fail
          refine wp_region_held_drew (S := (fun W => W.cell? ⟨w.heap.size, 0, none⟩ = some (.int .i64 i) ∧ W.cell? ⟨bx, 6, none⟩ = some (.slice (some ⟨w1.heap.size, 0, none⟩) i i) ∧ wr.heap.size ≤ W.heap.size)) (by kernel_rfl) ?_ (fun hHeld => ?_)
          · (try dsimp only); exact ⟨by first | (simp (maxDischargeDepth := 9) [go_sem, *]; done) | assumption, by first | (simp (maxDischargeDepth := 9) [go_sem, *]; done) | assumption, by simp <;> omega⟩
          refine kT 0 ?_ ?_ ?_
          rotate_left
          · (intro w9 hSw; (try dsimp only at hSw); go_simp <;> with_reducible rfl)
          try simp only [Act.put, tA, tZ, tS]
          refine kT 1 ?_ ?_ ?_
          rotate_left
          · (intro w9 hSw; (try dsimp only at hSw); go_simp <;> with_reducible rfl)
          try simp only [Act.put, tA, tZ, tS]
          refine kT 3 ?_ ?_ ?_
          rotate_left
          · (intro w9 hSw; (try dsimp only at hSw); go_simp <;> with_reducible rfl)
          try simp only [Act.put, tA, tZ, tS]
          refine kT 4 ?_ ?_ ?_
          rotate_left
          · (intro w9 hSw; (try dsimp only at hSw); go_simp <;> with_reducible rfl)
          try simp only [Act.put, tA, tZ, tS]
          refine wpAnyH_ready (rs := [2, 5]) (by kernel_rfl) (by simp) ?_
          refine AllReadyH.cons (by simp only [gA, gZ, gS]; rfl) (fun K hK => ?_) ?_
          · go_simp
            refine hK.out _ _ ?_ (fun hHeld2 => ?_)
            · (try dsimp only); exact ⟨by first | (simp (maxDischargeDepth := 9) [go_sem, *]; done) | assumption, by first | (simp (maxDischargeDepth := 9) [go_sem, *]; done) | assumption, by simp <;> omega⟩
            clear hK K hHeld
            have hHeld := hHeld2
            clear hHeld2
            try simp only [Act.put, tA, tZ, tS]
            refine wpAnyH_ready (rs := [5]) (by kernel_rfl) (by simp) ?_
            refine AllReadyH.cons (by simp only [gA, gZ, gS]; rfl) (fun K hK => ?_) AllReadyH.nil
            go_simp
            refine hK.out _ _ ?_ (fun hHeld2 => ?_)
            · (try dsimp only); exact ⟨by first | (simp (maxDischargeDepth := 9) [go_sem, *]; done) | assumption, by first | (simp (maxDischargeDepth := 9) [go_sem, *]; done) | assumption, by simp <;> omega⟩
            clear hK K hHeld
            have hHeld := hHeld2
            clear hHeld2
            try simp only [Act.put, tA, tZ, tS]
            refine kT 6 ?_ ?_ ?_
            rotate_left
            · (intro w9 hSw; (try dsimp only at hSw); go_simp <;> with_reducible rfl)
            try simp only [Act.put, tA, tZ, tS]
            refine wpAnyH_ready (rs := [7]) (by kernel_rfl) (by simp) ?_
            refine AllReadyH.cons (by simp only [gA, gZ, gS]; rfl) (fun K hK => ?_) AllReadyH.nil
            go_simp
            refine hK.out _ _ ?_ (fun hHeld2 => ?_)
            · (try dsimp only); exact ⟨by first | (simp (maxDischargeDepth := 9) [go_sem, *]; done) | assumption, by first | (simp (maxDischargeDepth := 9) [go_sem, *]; done) | assumption, by simp <;> omega⟩
            clear hK K hHeld
            have hHeld := hHeld2
            clear hHeld2
            try simp only [Act.put, tA, tZ, tS]
            refine wpAnyH_ready (rs := [8]) (by kernel_rfl) (by simp) ?_
            refine AllReadyH.cons (by simp only [gA, gZ, gS]; rfl) (fun K hK => ?_) AllReadyH.nil
            refine step_append_at rfl _ _ 28 rfl wm.heap.size 48 i3 _ 3 56 Try.underlying28 hi3 hz30 hz31 hz32 rfl (by decide) (.slice a7 n c7) n (flatSV (gs.map (mkP i))) rfl (World.ownsRow.alloc (World.ownsRow.alloc (unhide HO7).drew _) _) ⟨wr.heap.size + 1, 0, none⟩ 1 1 (SnV.cells (mkP i wr.heap.size)) rfl rfl (cell_new3 _ (by simp) _ _ _ _) (by simp [SnV.cells, Value.oneCell']) (by unfold maxLen; omega) (by omega) (by simp; omega) ?_
            intro v' w5 hown hgrow _
            obtain ⟨a7', c7', rfl⟩ := sliceC hown
            have hbX : Below wm.heap.size wr w5 := (((((Below.refl _ wr).drew).alloc (by simpa using hKs2) _).alloc (by simp; omega) _).grown hgrow (by simp; omega) (unhide hge))
            have q0 : w5.cell? ⟨w.heap.size, 0, none⟩ = some (.int .i64 i) := (hbX.cell (p := ⟨w.heap.size, 0, none⟩) (by simp; omega)).trans j0
            have q6 : w5.cell? ⟨bx, 6, none⟩ = some (.slice (some ⟨w1.heap.size, 0, none⟩) i i) := (hbX.cell (p := ⟨bx, 6, none⟩) (by simp; omega)).trans x6
            have q7 : w5.cell? ⟨bx, 7, none⟩ = some (.slice a7 n c7) := (hbX.cell (p := ⟨bx, 7, none⟩) (by simp; omega)).trans x7
            have qf : w5.frozen? ⟨bx, 7, none⟩ = false := (hbX.frozen (p := ⟨bx, 7, none⟩) (by simp; omega)).trans xf7
            have qz : wr.heap.size ≤ w5.heap.size := hbX.size
            refine hK.out _ _ ?_ (fun hHeld2 => ?_)
            · (try dsimp only); exact ⟨q0, q6, qz⟩
            clear hK K hHeld
            have hHeld := hHeld2
            clear hHeld2
            try simp only [Act.put, tA, tZ, tS]
            refine kT 9 ?_ ?_ ?_
            rotate_left
            · (intro w9 hSw; (try dsimp only at hSw); go_simp <;> with_reducible rfl)
            try simp only [Act.put, tA, tZ, tS]
            refine kT 10 ?_ ?_ ?_
            rotate_left
            · (intro w9 hSw; (try dsimp only at hSw); go_simp <;> with_reducible rfl)
            try simp only [Act.put, tA, tZ, tS]
            refine wpAnyH_ready (rs := [11]) (by kernel_rfl) (by simp) ?_
            refine AllReadyH.cons (by simp only [gA, gZ, gS]; rfl) (fun K hK => ?_) AllReadyH.nil
            go_simp
            refine hK.out _ _ ?_ (fun hHeld2 => ?_)
            · (try dsimp only); exact ⟨by first | (simp (maxDischargeDepth := 9) [go_sem, *]; done) | assumption, by first | (simp (maxDischargeDepth := 9) [go_sem, *]; done) | assumption, by simp <;> omega⟩
            clear hK K hHeld
            have hHeld := hHeld2
            clear hHeld2
            try simp only [Act.put, tA, tZ, tS]
            refine wpAnyH_done (by kernel_rfl) ?_ _
            go_wp2
            rw [← flat_gs] at hown
            have hMs : Mks w5 wm.heap.size i (gs ++ [wr.heap.size]) := Mks.step (Mks.snoc (W := wr.drew) (unhide HM) hKs2 (by omega) hC hCl) (World.ownsRow.alloc (unhide HO7).drew _) hgrow
            refine ⟨⟨n + 1, a7', c7', gs ++ [wr.heap.size], by simp, by omega, own_setC hown (by simp; omega), by simp [hgl], hMs.set (by simp; omega), BoxC.set7 ((hbX.block _ (by omega)).trans (unhide HX2)) _, Kept.set (hK.up hbX) rfl _⟩, ?_⟩
            simp [intOf]; omega
          refine AllReadyH.cons (by simp only [gA, gZ, gS]; rfl) (fun K hK => ?_) AllReadyH.nil
          go_simp
          refine hK.out _ _ ?_ (fun hHeld2 => ?_)
          · (try dsimp only); exact ⟨by first | (simp (maxDischargeDepth := 9) [go_sem, *]; done) | assumption, by first | (simp (maxDischargeDepth := 9) [go_sem, *]; done) | assumption, by simp <;> omega⟩
          clear hK K hHeld
          have hHeld := hHeld2
          clear hHeld2
          try simp only [Act.put, tA, tZ, tS]
          refine kT 6 ?_ ?_ ?_
          rotate_left
          · (intro w9 hSw; (try dsimp only at hSw); go_simp <;> with_reducible rfl)
          try simp only [Act.put, tA, tZ, tS]
          refine wpAnyH_ready (rs := [2, 7]) (by kernel_rfl) (by simp) ?_
          refine AllReadyH.cons (by simp only [gA, gZ, gS]; rfl) (fun K hK => ?_) ?_
          · go_simp
            refine hK.out _ _ ?_ (fun hHeld2 => ?_)
            · (try dsimp only); exact ⟨by first | (simp (maxDischargeDepth := 9) [go_sem, *]; done) | assumption, by first | (simp (maxDischargeDepth := 9) [go_sem, *]; done) | assumption, by simp <;> omega⟩
            clear hK K hHeld
            have hHeld := hHeld2
            clear hHeld2
            try simp only [Act.put, tA, tZ, tS]
            refine wpAnyH_ready (rs := [7]) (by kernel_rfl) (by simp) ?_
            refine AllReadyH.cons (by simp only [gA, gZ, gS]; rfl) (fun K hK => ?_) AllReadyH.nil
            go_simp
            refine hK.out _ _ ?_ (fun hHeld2 => ?_)
            · (try dsimp only); exact ⟨by first | (simp (maxDischargeDepth := 9) [go_sem, *]; done) | assumption, by first | (simp (maxDischargeDepth := 9) [go_sem, *]; done) | assumption, by simp <;> omega⟩
            clear hK K hHeld
            have hHeld := hHeld2
            clear hHeld2
            try simp only [Act.put, tA, tZ, tS]
            refine wpAnyH_ready (rs := [8]) (by kernel_rfl) (by simp) ?_
            refine AllReadyH.cons (by simp only [gA, gZ, gS]; rfl) (fun K hK => ?_) AllReadyH.nil
            refine step_append_at rfl _ _ 28 rfl wm.heap.size 48 i3 _ 3 56 Try.underlying28 hi3 hz30 hz31 hz32 rfl (by decide) (.slice a7 n c7) n (flatSV (gs.map (mkP i))) rfl (World.ownsRow.alloc (World.ownsRow.alloc (unhide HO7).drew _) _) ⟨wr.heap.size + 1, 0, none⟩ 1 1 (SnV.cells (mkP i wr.heap.size)) rfl rfl (cell_new3 _ (by simp) _ _ _ _) (by simp [SnV.cells, Value.oneCell']) (by unfold maxLen; omega) (by omega) (by simp; omega) ?_
            intro v' w5 hown hgrow _
            obtain ⟨a7', c7', rfl⟩ := sliceC hown
            have hbX : Below wm.heap.size wr w5 := (((((Below.refl _ wr).drew).alloc (by simpa using hKs2) _).alloc (by simp; omega) _).grown hgrow (by simp; omega) (unhide hge))
            have q0 : w5.cell? ⟨w.heap.size, 0, none⟩ = some (.int .i64 i) := (hbX.cell (p := ⟨w.heap.size, 0, none⟩) (by simp; omega)).trans j0
            have q6 : w5.cell? ⟨bx, 6, none⟩ = some (.slice (some ⟨w1.heap.size, 0, none⟩) i i) := (hbX.cell (p := ⟨bx, 6, none⟩) (by simp; omega)).trans x6
            have q7 : w5.cell? ⟨bx, 7, none⟩ = some (.slice a7 n c7) := (hbX.cell (p := ⟨bx, 7, none⟩) (by simp; omega)).trans x7
            have qf : w5.frozen? ⟨bx, 7, none⟩ = false := (hbX.frozen (p := ⟨bx, 7, none⟩) (by simp; omega)).trans xf7
            have qz : wr.heap.size ≤ w5.heap.size := hbX.size
            refine hK.out _ _ ?_ (fun hHeld2 => ?_)
            · (try dsimp only); exact ⟨q0, q6, qz⟩
            clear hK K hHeld
            have hHeld := hHeld2
            clear hHeld2
            try simp only [Act.put, tA, tZ, tS]
            refine kT 9 ?_ ?_ ?_
            rotate_left
            · (intro w9 hSw; (try dsimp only at hSw); go_simp <;> with_reducible rfl)
            try simp only [Act.put, tA, tZ, tS]
            refine kT 10 ?_ ?_ ?_
            rotate_left
            · (intro w9 hSw; (try dsimp only at hSw); go_simp <;> with_reducible rfl)
            try simp only [Act.put, tA, tZ, tS]
            refine wpAnyH_ready (rs := [11]) (by kernel_rfl) (by simp) ?_
            refine AllReadyH.cons (by simp only [gA, gZ, gS]; rfl) (fun K hK => ?_) AllReadyH.nil
            go_simp
            refine hK.out _ _ ?_ (fun hHeld2 => ?_)
            · (try dsimp only); exact ⟨by first | (simp (maxDischargeDepth := 9) [go_sem, *]; done) | assumption, by first | (simp (maxDischargeDepth := 9) [go_sem, *]; done) | assumption, by simp <;> omega⟩
            clear hK K hHeld
            have hHeld := hHeld2
            clear hHeld2
            try simp only [Act.put, tA, tZ, tS]
            refine wpAnyH_done (by kernel_rfl) ?_ _
            go_wp2
            rw [← flat_gs] at hown
            have hMs : Mks w5 wm.heap.size i (gs ++ [wr.heap.size]) := Mks.step (Mks.snoc (W := wr.drew) (unhide HM) hKs2 (by omega) hC hCl) (World.ownsRow.alloc (unhide HO7).drew _) hgrow
            refine ⟨⟨n + 1, a7', c7', gs ++ [wr.heap.size], by simp, by omega, own_setC hown (by simp; omega), by simp [hgl], hMs.set (by simp; omega), BoxC.set7 ((hbX.block _ (by omega)).trans (unhide HX2)) _, Kept.set (hK.up hbX) rfl _⟩, ?_⟩
            simp [intOf]; omega
          refine AllReadyH.cons (by simp only [gA, gZ, gS]; rfl) (fun K hK => ?_) AllReadyH.nil
          go_simp
          refine hK.out _ _ ?_ (fun hHeld2 => ?_)
          · (try dsimp only); exact ⟨by first | (simp (maxDischargeDepth := 9) [go_sem, *]; done) | assumption, by first | (simp (maxDischargeDepth := 9) [go_sem, *]; done) | assumption, by simp <;> omega⟩
          clear hK K hHeld
          have hHeld := hHeld2
          clear hHeld2
          try simp only [Act.put, tA, tZ, tS]
          refine wpAnyH_ready (rs := [2]) (by kernel_rfl) (by simp) ?_
          refine AllReadyH.cons (by simp only [gA, gZ, gS]; rfl) (fun K hK => ?_) AllReadyH.nil
          go_simp
          refine hK.out _ _ ?_ (fun hHeld2 => ?_)
          · (try dsimp only); exact ⟨by first | (simp (maxDischargeDepth := 9) [go_sem, *]; done) | assumption, by first | (simp (maxDischargeDepth := 9) [go_sem, *]; done) | assumption, by simp <;> omega⟩
          clear hK K hHeld
          have hHeld := hHeld2
          clear hHeld2
          try simp only [Act.put, tA, tZ, tS]
          refine wpAnyH_ready (rs := [8]) (by kernel_rfl) (by simp) ?_
          refine AllReadyH.cons (by simp only [gA, gZ, gS]; rfl) (fun K hK => ?_) AllReadyH.nil
          refine step_append_at rfl _ _ 28 rfl wm.heap.size 48 i3 _ 3 56 Try.underlying28 hi3 hz30 hz31 hz32 rfl (by decide) (.slice a7 n c7) n (flatSV (gs.map (mkP i))) rfl (World.ownsRow.alloc (World.ownsRow.alloc (unhide HO7).drew _) _) ⟨wr.heap.size + 1, 0, none⟩ 1 1 (SnV.cells (mkP i wr.heap.size)) rfl rfl (cell_new3 _ (by simp) _ _ _ _) (by simp [SnV.cells, Value.oneCell']) (by unfold maxLen; omega) (by omega) (by simp; omega) ?_
          intro v' w5 hown hgrow _
          obtain ⟨a7', c7', rfl⟩ := sliceC hown
          have hbX : Below wm.heap.size wr w5 := (((((Below.refl _ wr).drew).alloc (by simpa using hKs2) _).alloc (by simp; omega) _).grown hgrow (by simp; omega) (unhide hge))
          have q0 : w5.cell? ⟨w.heap.size, 0, none⟩ = some (.int .i64 i) := (hbX.cell (p := ⟨w.heap.size, 0, none⟩) (by simp; omega)).trans j0
          have q6 : w5.cell? ⟨bx, 6, none⟩ = some (.slice (some ⟨w1.heap.size, 0, none⟩) i i) := (hbX.cell (p := ⟨bx, 6, none⟩) (by simp; omega)).trans x6
          have q7 : w5.cell? ⟨bx, 7, none⟩ = some (.slice a7 n c7) := (hbX.cell (p := ⟨bx, 7, none⟩) (by simp; omega)).trans x7
          have qf : w5.frozen? ⟨bx, 7, none⟩ = false := (hbX.frozen (p := ⟨bx, 7, none⟩) (by simp; omega)).trans xf7
          have qz : wr.heap.size ≤ w5.heap.size := hbX.size
          refine hK.out _ _ ?_ (fun hHeld2 => ?_)
          · (try dsimp only); exact ⟨q0, q6, qz⟩
          clear hK K hHeld
          have hHeld := hHeld2
          clear hHeld2
          try simp only [Act.put, tA, tZ, tS]
          refine kT 9 ?_ ?_ ?_
          rotate_left
          · (intro w9 hSw; (try dsimp only at hSw); go_simp <;> with_reducible rfl)
          try simp only [Act.put, tA, tZ, tS]
          refine kT 10 ?_ ?_ ?_
          rotate_left
          · (intro w9 hSw; (try dsimp only at hSw); go_simp <;> with_reducible rfl)
          try simp only [Act.put, tA, tZ, tS]
          refine wpAnyH_ready (rs := [11]) (by kernel_rfl) (by simp) ?_
          refine AllReadyH.cons (by simp only [gA, gZ, gS]; rfl) (fun K hK => ?_) AllReadyH.nil
          go_simp
          refine hK.out _ _ ?_ (fun hHeld2 => ?_)
          · (try dsimp only); exact ⟨by first | (simp (maxDischargeDepth := 9) [go_sem, *]; done) | assumption, by first | (simp (maxDischargeDepth := 9) [go_sem, *]; done) | assumption, by simp <;> omega⟩
          clear hK K hHeld
          have hHeld := hHeld2
          clear hHeld2
          try simp only [Act.put, tA, tZ, tS]
          refine wpAnyH_done (by kernel_rfl) ?_ _
          go_wp2
          rw [← flat_gs] at hown
          have hMs : Mks w5 wm.heap.size i (gs ++ [wr.heap.size]) := Mks.step (Mks.snoc (W := wr.drew) (unhide HM) hKs2 (by omega) hC hCl) (World.ownsRow.alloc (unhide HO7).drew _) hgrow
          refine ⟨⟨n + 1, a7', c7', gs ++ [wr.heap.size], by simp, by omega, own_setC hown (by simp; omega), by simp [hgl], hMs.set (by simp; omega), BoxC.set7 ((hbX.block _ (by omega)).trans (unhide HX2)) _, Kept.set (hK.up hbX) rfl _⟩, ?_⟩
          simp [intOf]; omega
        · obtain rfl : n = t := by omega
          have k0 : wr.cell? ⟨w.heap.size, 0, none⟩ = some (.int .i64 i) := (kc 0).trans (by simp [go_sem])
          have k1 : wr.cell? ⟨w.heap.size, 1, none⟩ = some (.int .i64 n) := (kc 1).trans (by simp [go_sem])
          have k2 : wr.cell? ⟨w.heap.size, 2, none⟩ = some (.int .i64 k) := (kc 2).trans (by simp [go_sem])
          have k3 : wr.cell? ⟨w.heap.size, 3, none⟩ = some (.int .i64 z) := (kc 3).trans (by simp [go_sem])
          have k4 : wr.cell? ⟨w.heap.size, 4, none⟩ = some (.int .i64 p) := (kc 4).trans (by simp [go_sem])
          have k5 : wr.cell? ⟨w.heap.size, 5, none⟩ = some (.int .i64 l) := (kc 5).trans (by simp [go_sem])
          have k6 : wr.cell? ⟨w.heap.size, 6, none⟩ = some (.int .i64 e) := (kc 6).trans (by simp [go_sem])
          have k7 : wr.cell? ⟨w.heap.size, 7, none⟩ = some (.bool b) := (kc 7).trans (by simp [go_sem])
          have k8 : wr.cell? ⟨w.heap.size, 8, none⟩ = some (.int .i64 v) := (kc 8).trans (by simp [go_sem])
          have k9 : wr.cell? ⟨w.heap.size, 9, none⟩ = some (.int .i64 r) := (kc 9).trans (by simp [go_sem])
          clear kc
          go_wp2_with fail
          refine (rest_any i n k z p l e b v r (some ⟨w1.heap.size, 0, none⟩) a7 i c7 wr hs ht).mono ?_
          rintro e' w3 ⟨v2, v3, v4, rfl, o2, o3, o4, hb3⟩
          simp only [ckV]
          clear k0 k1 k2 k3 k4 k5 k6 k7 k8 k9 x0 x1 x2 x3 x4 x5 x6 x7 xf
          obtain ⟨a2, c2, rfl⟩ := sliceC o2
          obtain ⟨a3, c3, rfl⟩ := sliceC o3
          obtain ⟨a4, c4, rfl⟩ := sliceC o4
          have hR : BoxC w3 (w.heap.size + 1) (.slice none 0 0) (.slice none 0 0) (.slice none 0 0) (.slice none 0 0) (.slice none 0 0) := (hb3.block _ (by omega)).trans ((hK.blk _ (by omega) (show ¬ w.heap.size + 1 = bx by omega)).trans ((hbm.block _ (by omega)).trans ((hb1.block _ (by simp)).trans (blk_new (by simp)))))
          obtain ⟨⟨r0, r1, r2, r3, r4, r5, r6, r7⟩, rf⟩ := hR.cells
          have yz := hb3.size
          have yw : w.heap.size + 1 < w3.heap.size := by omega
          have hL := hide (And.intro o2 (And.intro o3 o4))
          clear o2 o3 o4
          go_wp2
          refine bodyPost_ret (v := ckV (.slice a2 i c2) (.slice a3 n c3) (.slice a4 n c4) (.slice (some ⟨w1.heap.size, 0, none⟩) i i) (.slice a7 n c7)) (by simp (maxDischargeDepth := 9) [results, ckV, Try.results5, go_sem, *]) rfl ?_
          obtain ⟨g2, g3, g4⟩ := unhide hL
          have g6 : w3.ownsRow w1.heap.size 3 1 (.slice (some ⟨w1.heap.size, 0, none⟩) i i) i (List.replicate i (.int .i64 0)) := own_upB (unhide HO) (fun b hb => by
            have h9 := World.ownsRow.lt (unhide HO) b hb
            simp [Value.ownBlock] at hb
            exact (hb3.block b (by omega)).trans (hK.blk b h9.2 (show ¬ b = bx by omega)))
          have g7 : w3.ownsRow wm.heap.size 48 3 (.slice a7 n c7) n (flatSV (gs.map (mkP i))) := own_upB (unhide HO7) (fun b hb => hb3.block b (World.ownsRow.lt (unhide HO7) b hb).2)
          have gM : Mks w3 wm.heap.size i gs := ⟨fun g hg => own_upB ((unhide HM).1 g hg) (fun b hb => hb3.block b (World.ownsRow.lt ((unhide HM).1 g hg) b hb).2), (unhide HM).2⟩
          have l2 := World.ownsRow.lt g2
          have l4 := World.ownsRow.lt g4
          have l6 := World.ownsRow.lt (unhide HO)
          have l7 := World.ownsRow.lt (unhide HO7)
          have hW : Below w.heap.size w w3 := ((hbb.trans ((hb1.mono (by simp <;> omega)).trans (hbm.mono (by omega)))).trans (⟨hK.os, hK.tape, hK.output, hK.size, fun b hb => hK.blk b (by omega) (show ¬ b = bx by omega)⟩)).trans (hb3.mono (by omega))
          refine newc_is (gs := gs) (World.ownsRow.mono (base := wr.heap.size) (by repeat (first | (with_reducible exact g2) | (with_reducible refine own_setC ?_ (by simp; omega)))) (by omega)) (World.ownsRow.mono (base := wr.heap.size) (by repeat (first | (with_reducible exact g3) | (with_reducible refine own_setC ?_ (by simp; omega)))) (by omega)) (World.ownsRow.mono (base := wr.heap.size) (by repeat (first | (with_reducible exact g4) | (with_reducible refine own_setC ?_ (by simp; omega)))) (by omega)) (World.ownsRow.mono (base := w1.heap.size) (by repeat (first | (with_reducible exact g6) | (with_reducible refine own_setC ?_ (by simp; omega)))) (by omega)) (World.ownsRow.mono (base := wm.heap.size) (by repeat (first | (with_reducible exact g7) | (with_reducible refine own_setC ?_ (by simp; omega)))) (by omega)) hgl ?_ (fun b hb hc => ?_) (fun b hb hc => ?_) (fun g hg => ⟨fun hc => ?_, fun hc => ?_⟩) (by omega) (by omega) (belA)
          · refine Mks.mono (B := wm.heap.size) ?_ (by omega)
            repeat (first | (with_reducible exact gM) | (with_reducible refine Mks.set ?_ (by simp; omega)))
          · have := l2 b hb; have := l6 b hc; omega
          · have := l4 b hb; have := l7 b hc; omega
          · have := l2 g hc; have := World.ownsRow.lt ((unhide HM).1 g hg) g rfl; omega
          · have := l6 g hc; have := World.ownsRow.lt ((unhide HM).1 g hg) g rfl; omega

theorem implnewc_any (s t k z p l e : Int) (b : Bool) (v r : Int) (w : World) : Calls Try.prog 5 #[.agg #[.int .i64 s, .int .i64 t, .int .i64 k, .int .i64 z, .int .i64 p, .int .i64 l, .int .i64 e, .bool b, .int .i64 v, .int .i64 r]] w fun e' w' => NewC w (ckOf s t k z p l e v r) e' w' := by
  cases hj : okJob s t k z p l e v r
  · rw [show ckOf s t k z p l e v r = ckZero by unfold ckOf; rw [hj]; rfl]
    exact implnewc_no s t k z p l e b v r w hj
  · obtain ⟨hs, ht⟩ := okJob_st hj
    rw [show ckOf s t k z p l e v r = ckNew s.toNat t.toNat by unfold ckOf; rw [hj]; rfl]
    obtain ⟨S, rfl⟩ := Int.eq_ofNat_of_zero_le (show 0 ≤ s by omega)
    obtain ⟨T, rfl⟩ := Int.eq_ofNat_of_zero_le (show 0 ≤ t by omega)
    exact implnewc_ok S T k z p l e b v r w hj (by omega) (by omega)
end Go.Proofs.Ytabphkmhafflbaa
