/- Laid together: what the claim needs of the texts that were built one by one. -/
import Derived.Test.YtabphkmhafflbaaPkCkpU
import Derived.Deep.RegionHeld3
import Derived.Test.YtabphkmhafflbaaPkBase
namespace Go.Proofs.Ytabphkmhafflbaa
open Go.ChangeShapes Go.WideShapes Go.ChangeAt Go.RowKit Go.Deep
set_option linter.unusedVariables false

theorem own_made {W : World} {B g e size n : Nat} {C : Array Value} {xs : List Value} (hs : C.size = n * size) (hl : C.toList = xs) (hn : n ≤ 1000) (hB : B ≤ W.heap.size) (hg : g = W.heap.size) : (W.alloc (.cells C e)).ownsRow B e size (.slice (some ⟨g, 0, none⟩) n n) n xs := by
  subst hg
  subst hl
  exact World.ownsRow_lit (base := B) (size := size) W C n hB (by unfold maxLen; omega) hs

set_option linter.unusedSimpArgs false in
set_option maxRecDepth 20000 in
set_option maxHeartbeats 16000000 in
theorem rest_any (s t : Nat) (k z p l e : Int) (b : Bool) (v r : Int) (a6 a7 : Option Addr) (c6 c7 : Nat) (w : World) (hs : 1 ≤ s ∧ s ≤ 3) (ht : 1 ≤ t ∧ t ≤ 2) : Calls Try.prog 16 #[.agg #[.int .i64 0, .bool false, .slice none 0 0, .slice none 0 0, .slice none 0 0, .int .i64 0, .slice a6 s c6, .slice a7 t c7], .agg #[.int .i64 s, .int .i64 t, .int .i64 k, .int .i64 z, .int .i64 p, .int .i64 l, .int .i64 e, .bool b, .int .i64 v, .int .i64 r]] w fun e' w' => ∃ v2 v3 v4, e' = .returned (ckV v2 v3 v4 (.slice a6 s c6) (.slice a7 t c7)) ∧ w'.ownsRow w.heap.size 3 1 v2 s (List.replicate s (.int .i64 (-1))) ∧ w'.ownsRow w.heap.size 4 1 v3 t (List.replicate t (.bool false)) ∧ w'.ownsRow w.heap.size 48 3 v4 t (flatSV (List.replicate t noSn)) ∧ Below w.heap.size w w' := by
  obtain ⟨C3, ⟨h3s, h3l⟩, hmk3⟩ := mkBo0 t ht
  obtain ⟨C4, ⟨h4s, h4l⟩, hmk4⟩ := mkSn0 t ht
  have h3s : C3.size = t * 1 := by omega
  have hx0 : BoxC (((w.alloc (.cells #[.int .i64 0, .bool false, .slice none 0 0, .slice none 0 0, .slice none 0 0, .int .i64 0, .slice a6 s c6, .slice a7 t c7] 32)).alloc (.cells #[.int .i64 s, .int .i64 t, .int .i64 k, .int .i64 z, .int .i64 p, .int .i64 l, .int .i64 e, .bool b, .int .i64 v, .int .i64 r] 24)).alloc (.cells #[.int .i64 0, .bool false, .slice none 0 0, .slice none 0 0, .slice none 0 0, .int .i64 0, .slice none 0 0, .slice none 0 0] 32)) w.heap.size (.slice none 0 0) (.slice none 0 0) (.slice none 0 0) (.slice a6 s c6) (.slice a7 t c7) := (Below.heap_alloc _ _ _ (by simp <;> omega)).trans ((Below.heap_alloc _ _ _ (by simp)).trans (heap_alloc_new _ _))
  have hr0 : BoxC (((w.alloc (.cells #[.int .i64 0, .bool false, .slice none 0 0, .slice none 0 0, .slice none 0 0, .int .i64 0, .slice a6 s c6, .slice a7 t c7] 32)).alloc (.cells #[.int .i64 s, .int .i64 t, .int .i64 k, .int .i64 z, .int .i64 p, .int .i64 l, .int .i64 e, .bool b, .int .i64 v, .int .i64 r] 24)).alloc (.cells #[.int .i64 0, .bool false, .slice none 0 0, .slice none 0 0, .slice none 0 0, .int .i64 0, .slice none 0 0, .slice none 0 0] 32)) (w.heap.size + 1 + 1) (.slice none 0 0) (.slice none 0 0) (.slice none 0 0) (.slice none 0 0) (.slice none 0 0) := blk_new (by simp)
  go_enter Try.func16, Try.ntmps16
  go_wp2_with fail
  refine wp_region_held_drew (S := (fun W => W.cell? ⟨w.heap.size + 1, 0, none⟩ = some (.int .i64 s) ∧ W.cell? ⟨w.heap.size + 1, 1, none⟩ = some (.int .i64 t))) (by kernel_rfl) ?_ (fun hHeld => ?_)
  · (try dsimp only); exact ⟨by simp [go_sem], by simp [go_sem]⟩
  refine kT 1 ?_ ?_ ?_
  rotate_left
  · (intro w9 hSw; (try dsimp only at hSw); go_simp <;> with_reducible rfl)
  try simp only [Act.put, tA, tZ, tS]
  refine kT 2 ?_ ?_ ?_
  rotate_left
  · (intro w9 hSw; (try dsimp only at hSw); go_simp <;> with_reducible rfl)
  try simp only [Act.put, tA, tZ, tS]
  refine kT 4 ?_ ?_ ?_
  rotate_left
  · (intro w9 hSw; (try dsimp only at hSw); go_simp <;> with_reducible rfl)
  try simp only [Act.put, tA, tZ, tS]
  refine kT 5 ?_ ?_ ?_
  rotate_left
  · (intro w9 hSw; (try dsimp only at hSw); go_simp <;> with_reducible rfl)
  try simp only [Act.put, tA, tZ, tS]
  refine kT 7 ?_ ?_ ?_
  rotate_left
  · (intro w9 hSw; (try dsimp only at hSw); go_simp <;> with_reducible rfl)
  try simp only [Act.put, tA, tZ, tS]
  refine kT 8 ?_ ?_ ?_
  rotate_left
  · (intro w9 hSw; (try dsimp only at hSw); go_simp <;> with_reducible rfl)
  try simp only [Act.put, tA, tZ, tS]
  refine wpAnyH_ready (rs := [0, 6, 9]) (by kernel_rfl) (by simp) ?_
  refine AllReadyH.cons (by simp only [gA, gZ, gS]; rfl) (fun K hK => ?_) ?_
  · go_simp
    refine hK.out _ _ ?_ (fun hHeld2 => ?_)
    · (try dsimp only); exact ⟨by simp [go_sem], by simp [go_sem]⟩
    clear hK K hHeld
    have hHeld := hHeld2
    clear hHeld2
    try simp only [Act.put, tA, tZ, tS]
    refine wpAnyH_ready (rs := [3, 6, 9]) (by kernel_rfl) (by simp) ?_
    refine AllReadyH.cons (by simp only [gA, gZ, gS]; rfl) (fun K hK => ?_) ?_
    · go_simp
      (go_at_call 30; refine (repeat_any s (w.heap.size + 1 + 1 + 1) hs _ (by simp [go_sem])).mono ?_; rintro e' wc1 ⟨v2, rfl, o21, hb1⟩)
      obtain ⟨a2, c2, rfl⟩ := sliceC o21
      (try go_wp2_with fail)
      have bb1 : Below (w.heap.size + 3) (((w.alloc (.cells #[.int .i64 0, .bool false, .slice none 0 0, .slice none 0 0, .slice none 0 0, .int .i64 0, .slice a6 s c6, .slice a7 t c7] 32)).alloc (.cells #[.int .i64 s, .int .i64 t, .int .i64 k, .int .i64 z, .int .i64 p, .int .i64 l, .int .i64 e, .bool b, .int .i64 v, .int .i64 r] 24)).alloc (.cells #[.int .i64 0, .bool false, .slice none 0 0, .slice none 0 0, .slice none 0 0, .int .i64 0, .slice none 0 0, .slice none 0 0] 32)) wc1 := Below.trans (show Below (w.heap.size + 3) (((w.alloc (.cells #[.int .i64 0, .bool false, .slice none 0 0, .slice none 0 0, .slice none 0 0, .int .i64 0, .slice a6 s c6, .slice a7 t c7] 32)).alloc (.cells #[.int .i64 s, .int .i64 t, .int .i64 k, .int .i64 z, .int .i64 p, .int .i64 l, .int .i64 e, .bool b, .int .i64 v, .int .i64 r] 24)).alloc (.cells #[.int .i64 0, .bool false, .slice none 0 0, .slice none 0 0, .slice none 0 0, .int .i64 0, .slice none 0 0, .slice none 0 0] 32)) ((((w.alloc (.cells #[.int .i64 0, .bool false, .slice none 0 0, .slice none 0 0, .slice none 0 0, .int .i64 0, .slice a6 s c6, .slice a7 t c7] 32)).alloc (.cells #[.int .i64 s, .int .i64 t, .int .i64 k, .int .i64 z, .int .i64 p, .int .i64 l, .int .i64 e, .bool b, .int .i64 v, .int .i64 r] 24)).alloc (.cells #[.int .i64 0, .bool false, .slice none 0 0, .slice none 0 0, .slice none 0 0, .int .i64 0, .slice none 0 0, .slice none 0 0] 32)).drew.alloc (.cells #[.int .i64 (-1)] 3)) from (by repeat (first | (with_reducible exact Below.refl _ _) | (with_reducible refine Below.alloc ?_ (sA) _) | (with_reducible refine Below.drew ?_)))) (hb1.mono (sA))
      have p0 : wc1.cell? ⟨w.heap.size + 1, 0, none⟩ = some (.int .i64 s) := (bb1.cell (p := ⟨w.heap.size + 1, 0, none⟩) (by simp)).trans (by simp [go_sem])
      have p1 : wc1.cell? ⟨w.heap.size + 1, 1, none⟩ = some (.int .i64 t) := (bb1.cell (p := ⟨w.heap.size + 1, 1, none⟩) (by simp)).trans (by simp [go_sem])
      have zc : w.heap.size + 3 ≤ wc1.heap.size := by have h9 := bb1.size; simpa using h9
      have zc0 : w.heap.size < wc1.heap.size := by omega
      have zc1 : w.heap.size + 1 < wc1.heap.size := by omega
      have zc2 : w.heap.size + 1 + 1 < wc1.heap.size := by omega
      have hX : BoxC wc1 w.heap.size (.slice none 0 0) (.slice none 0 0) (.slice none 0 0) (.slice a6 s c6) (.slice a7 t c7) := (bb1.block _ (by omega)).trans hx0
      have hR : BoxC wc1 (w.heap.size + 1 + 1) (.slice none 0 0) (.slice none 0 0) (.slice none 0 0) (.slice none 0 0) (.slice none 0 0) := (bb1.block _ (by omega)).trans hr0
      obtain ⟨⟨x0, x1, x2, x3, x4, x5, x6, x7⟩, xf⟩ := hX.cells
      obtain ⟨⟨r0, r1, r2, r3, r4, r5, r6, r7⟩, rf⟩ := hR.cells
      refine hK.out _ _ ?_ (fun hHeld2 => ?_)
      · (try dsimp only); exact ⟨p0, p1⟩
      clear hK K hHeld
      have hHeld := hHeld2
      clear hHeld2
      try simp only [Act.put, tA, tZ, tS]
      clear hX hR
      refine kT 10 ?_ ?_ ?_
      rotate_left
      · (intro w9 hSw; (try dsimp only at hSw); go_simp <;> with_reducible rfl)
      try simp only [Act.put, tA, tZ, tS]
      refine wpAnyH_ready (rs := [6, 9, 11]) (by kernel_rfl) (by simp) ?_
      refine AllReadyH.cons (by simp only [gA, gZ, gS]; rfl) (fun K hK => ?_) ?_
      · go_simp
        refine hK.out _ _ ?_ (fun hHeld2 => ?_)
        · (try dsimp only); exact ⟨by simp [go_sem, p0, zc0, zc1], by simp [go_sem, p1, zc0, zc1]⟩
        clear hK K hHeld
        have hHeld := hHeld2
        clear hHeld2
        try simp only [Act.put, tA, tZ, tS]
        refine wpAnyH_ready (rs := [9, 11]) (by kernel_rfl) (by simp) ?_
        refine AllReadyH.cons (by simp only [gA, gZ, gS]; rfl) (fun K hK => ?_) ?_
        · go_simp
          refine hK.out _ _ ?_ (fun hHeld2 => ?_)
          · (try dsimp only); exact ⟨by simp [go_sem, p0, zc0, zc1], by simp [go_sem, p1, zc0, zc1]⟩
          clear hK K hHeld
          have hHeld := hHeld2
          clear hHeld2
          try simp only [Act.put, tA, tZ, tS]
          refine wpAnyH_ready (rs := [11]) (by kernel_rfl) (by simp) ?_
          refine AllReadyH.cons (by simp only [gA, gZ, gS]; rfl) (fun K hK => ?_) AllReadyH.nil
          go_simp
          refine hK.out _ _ ?_ (fun hHeld2 => ?_)
          · (try dsimp only); exact ⟨by simp [go_sem, p0, zc0, zc1], by simp [go_sem, p1, zc0, zc1]⟩
          clear hK K hHeld
          have hHeld := hHeld2
          clear hHeld2
          try simp only [Act.put, tA, tZ, tS]
          refine kT 12 ?_ ?_ ?_
          rotate_left
          · (intro w9 hSw; (try dsimp only at hSw); go_simp <;> with_reducible rfl)
          try simp only [Act.put, tA, tZ, tS]
          refine wpAnyH_ready (rs := [13]) (by kernel_rfl) (by simp) ?_
          refine AllReadyH.cons (by simp only [gA, gZ, gS]; rfl) (fun K hK => ?_) AllReadyH.nil
          go_simp
          refine hK.out _ _ ?_ (fun hHeld2 => ?_)
          · (try dsimp only); exact ⟨by simp [go_sem, p0, zc0, zc1], by simp [go_sem, p1, zc0, zc1]⟩
          clear hK K hHeld
          have hHeld := hHeld2
          clear hHeld2
          try simp only [Act.put, tA, tZ, tS]
          refine kT 14 ?_ ?_ ?_
          rotate_left
          · (intro w9 hSw; (try dsimp only at hSw); go_simp <;> with_reducible rfl)
          try simp only [Act.put, tA, tZ, tS]
          refine wpAnyH_ready (rs := [15]) (by kernel_rfl) (by simp) ?_
          refine AllReadyH.cons (by simp only [gA, gZ, gS]; rfl) (fun K hK => ?_) AllReadyH.nil
          go_simp
          refine hK.out _ _ ?_ (fun hHeld2 => ?_)
          · (try dsimp only); exact ⟨by simp [go_sem, p0, zc0, zc1], by simp [go_sem, p1, zc0, zc1]⟩
          clear hK K hHeld
          have hHeld := hHeld2
          clear hHeld2
          try simp only [Act.put, tA, tZ, tS]
          refine wpAnyH_done (by kernel_rfl) ?_ _
          go_wp2
          refine bodyPost_ret (v := ckV (.slice a2 s c2) (.slice (some ⟨wc1.heap.size, 0, none⟩) t t) (.slice (some ⟨wc1.heap.size + 1, 0, none⟩) t t) (.slice a6 s c6) (.slice a7 t c7)) (by simp (maxDischargeDepth := 9) [results, ckV, Try.results16, go_sem, r0, r1, r2, r3, r4, r5, r6, r7, rf, zc0, zc1, zc2]) rfl ?_
          exact ⟨_, _, _, rfl, (World.ownsRow.mono (base := (w.heap.size + 3)) (by repeat (first | (with_reducible exact (World.ownsRow.mono (base' := (w.heap.size + 3)) o21 (sA))) | (with_reducible refine World.ownsRow.alloc ?_ _) | (with_reducible refine own_setC ?_ (sA)))) (by omega)), (World.ownsRow.mono (base := (w.heap.size + 3)) (by repeat (first | (with_reducible refine own_made (B := (w.heap.size + 3)) (e := 4) h3s h3l (by omega) (sB) (by first | rfl | (simp; done))) | (with_reducible refine World.ownsRow.alloc ?_ _) | (with_reducible refine own_setC ?_ (sA)))) (by omega)), (World.ownsRow.mono (base := (w.heap.size + 3)) (by repeat (first | (with_reducible refine own_made (B := (w.heap.size + 3)) (e := 48) h4s h4l (by omega) (sB) (by first | rfl | (simp; done))) | (with_reducible refine World.ownsRow.alloc ?_ _) | (with_reducible refine own_setC ?_ (sA)))) (by omega)), (belA)⟩
        refine AllReadyH.cons (by simp only [gA, gZ, gS]; rfl) (fun K hK => ?_) AllReadyH.nil
        go_simp
        refine hK.out _ _ ?_ (fun hHeld2 => ?_)
        · (try dsimp only); exact ⟨by simp [go_sem, p0, zc0, zc1], by simp [go_sem, p1, zc0, zc1]⟩
        clear hK K hHeld
        have hHeld := hHeld2
        clear hHeld2
        try simp only [Act.put, tA, tZ, tS]
        refine kT 12 ?_ ?_ ?_
        rotate_left
        · (intro w9 hSw; (try dsimp only at hSw); go_simp <;> with_reducible rfl)
        try simp only [Act.put, tA, tZ, tS]
        refine wpAnyH_ready (rs := [9, 13]) (by kernel_rfl) (by simp) ?_
        refine AllReadyH.cons (by simp only [gA, gZ, gS]; rfl) (fun K hK => ?_) ?_
        · go_simp
          refine hK.out _ _ ?_ (fun hHeld2 => ?_)
          · (try dsimp only); exact ⟨by simp [go_sem, p0, zc0, zc1], by simp [go_sem, p1, zc0, zc1]⟩
          clear hK K hHeld
          have hHeld := hHeld2
          clear hHeld2
          try simp only [Act.put, tA, tZ, tS]
          refine wpAnyH_ready (rs := [13]) (by kernel_rfl) (by simp) ?_
          refine AllReadyH.cons (by simp only [gA, gZ, gS]; rfl) (fun K hK => ?_) AllReadyH.nil
          go_simp
          refine hK.out _ _ ?_ (fun hHeld2 => ?_)
          · (try dsimp only); exact ⟨by simp [go_sem, p0, zc0, zc1], by simp [go_sem, p1, zc0, zc1]⟩
          clear hK K hHeld
          have hHeld := hHeld2
          clear hHeld2
          try simp only [Act.put, tA, tZ, tS]
          refine kT 14 ?_ ?_ ?_
          rotate_left
          · (intro w9 hSw; (try dsimp only at hSw); go_simp <;> with_reducible rfl)
          try simp only [Act.put, tA, tZ, tS]
          refine wpAnyH_ready (rs := [15]) (by kernel_rfl) (by simp) ?_
          refine AllReadyH.cons (by simp only [gA, gZ, gS]; rfl) (fun K hK => ?_) AllReadyH.nil
          go_simp
          refine hK.out _ _ ?_ (fun hHeld2 => ?_)
          · (try dsimp only); exact ⟨by simp [go_sem, p0, zc0, zc1], by simp [go_sem, p1, zc0, zc1]⟩
          clear hK K hHeld
          have hHeld := hHeld2
          clear hHeld2
          try simp only [Act.put, tA, tZ, tS]
          refine wpAnyH_done (by kernel_rfl) ?_ _
          go_wp2
          refine bodyPost_ret (v := ckV (.slice a2 s c2) (.slice (some ⟨wc1.heap.size, 0, none⟩) t t) (.slice (some ⟨wc1.heap.size + 1, 0, none⟩) t t) (.slice a6 s c6) (.slice a7 t c7)) (by simp (maxDischargeDepth := 9) [results, ckV, Try.results16, go_sem, r0, r1, r2, r3, r4, r5, r6, r7, rf, zc0, zc1, zc2]) rfl ?_
          exact ⟨_, _, _, rfl, (World.ownsRow.mono (base := (w.heap.size + 3)) (by repeat (first | (with_reducible exact (World.ownsRow.mono (base' := (w.heap.size + 3)) o21 (sA))) | (with_reducible refine World.ownsRow.alloc ?_ _) | (with_reducible refine own_setC ?_ (sA)))) (by omega)), (World.ownsRow.mono (base := (w.heap.size + 3)) (by repeat (first | (with_reducible refine own_made (B := (w.heap.size + 3)) (e := 4) h3s h3l (by omega) (sB) (by first | rfl | (simp; done))) | (with_reducible refine World.ownsRow.alloc ?_ _) | (with_reducible refine own_setC ?_ (sA)))) (by omega)), (World.ownsRow.mono (base := (w.heap.size + 3)) (by repeat (first | (with_reducible refine own_made (B := (w.heap.size + 3)) (e := 48) h4s h4l (by omega) (sB) (by first | rfl | (simp; done))) | (with_reducible refine World.ownsRow.alloc ?_ _) | (with_reducible refine own_setC ?_ (sA)))) (by omega)), (belA)⟩
        refine AllReadyH.cons (by simp only [gA, gZ, gS]; rfl) (fun K hK => ?_) AllReadyH.nil
        go_simp
        refine hK.out _ _ ?_ (fun hHeld2 => ?_)
        · (try dsimp only); exact ⟨by simp [go_sem, p0, zc0, zc1], by simp [go_sem, p1, zc0, zc1]⟩
        clear hK K hHeld
        have hHeld := hHeld2
        clear hHeld2
        try simp only [Act.put, tA, tZ, tS]
        refine wpAnyH_ready (rs := [9]) (by kernel_rfl) (by simp) ?_
        refine AllReadyH.cons (by simp only [gA, gZ, gS]; rfl) (fun K hK => ?_) AllReadyH.nil
        go_simp
        refine hK.out _ _ ?_ (fun hHeld2 => ?_)
        · (try dsimp only); exact ⟨by simp [go_sem, p0, zc0, zc1], by simp [go_sem, p1, zc0, zc1]⟩
        clear hK K hHeld
        have hHeld := hHeld2
        clear hHeld2
        try simp only [Act.put, tA, tZ, tS]
        refine kT 14 ?_ ?_ ?_
        rotate_left
        · (intro w9 hSw; (try dsimp only at hSw); go_simp <;> with_reducible rfl)
        try simp only [Act.put, tA, tZ, tS]
        refine wpAnyH_ready (rs := [15]) (by kernel_rfl) (by simp) ?_
        refine AllReadyH.cons (by simp only [gA, gZ, gS]; rfl) (fun K hK => ?_) AllReadyH.nil
        go_simp
        refine hK.out _ _ ?_ (fun hHeld2 => ?_)
        · (try dsimp only); exact ⟨by simp [go_sem, p0, zc0, zc1], by simp [go_sem, p1, zc0, zc1]⟩
        clear hK K hHeld
        have hHeld := hHeld2
        clear hHeld2
        try simp only [Act.put, tA, tZ, tS]
        refine wpAnyH_done (by kernel_rfl) ?_ _
        go_wp2
        refine bodyPost_ret (v := ckV (.slice a2 s c2) (.slice (some ⟨wc1.heap.size, 0, none⟩) t t) (.slice (some ⟨wc1.heap.size + 1, 0, none⟩) t t) (.slice a6 s c6) (.slice a7 t c7)) (by simp (maxDischargeDepth := 9) [results, ckV, Try.results16, go_sem, r0, r1, r2, r3, r4, r5, r6, r7, rf, zc0, zc1, zc2]) rfl ?_
        exact ⟨_, _, _, rfl, (World.ownsRow.mono (base := (w.heap.size + 3)) (by repeat (first | (with_reducible exact (World.ownsRow.mono (base' := (w.heap.size + 3)) o21 (sA))) | (with_reducible refine World.ownsRow.alloc ?_ _) | (with_reducible refine own_setC ?_ (sA)))) (by omega)), (World.ownsRow.mono (base := (w.heap.size + 3)) (by repeat (first | (with_reducible refine own_made (B := (w.heap.size + 3)) (e := 4) h3s h3l (by omega) (sB) (by first | rfl | (simp; done))) | (with_reducible refine World.ownsRow.alloc ?_ _) | (with_reducible refine own_setC ?_ (sA)))) (by omega)), (World.ownsRow.mono (base := (w.heap.size + 3)) (by repeat (first | (with_reducible refine own_made (B := (w.heap.size + 3)) (e := 48) h4s h4l (by omega) (sB) (by first | rfl | (simp; done))) | (with_reducible refine World.ownsRow.alloc ?_ _) | (with_reducible refine own_setC ?_ (sA)))) (by omega)), (belA)⟩
      refine AllReadyH.cons (by simp only [gA, gZ, gS]; rfl) (fun K hK => ?_) ?_
      · go_simp
        refine hK.out _ _ ?_ (fun hHeld2 => ?_)
        · (try dsimp only); exact ⟨by simp [go_sem, p0, zc0, zc1], by simp [go_sem, p1, zc0, zc1]⟩
        clear hK K hHeld
        have hHeld := hHeld2
        clear hHeld2
        try simp only [Act.put, tA, tZ, tS]
        refine wpAnyH_ready (rs := [6, 11]) (by kernel_rfl) (by simp) ?_
        refine AllReadyH.cons (by simp only [gA, gZ, gS]; rfl) (fun K hK => ?_) ?_
        · go_simp
          refine hK.out _ _ ?_ (fun hHeld2 => ?_)
          · (try dsimp only); exact ⟨by simp [go_sem, p0, zc0, zc1], by simp [go_sem, p1, zc0, zc1]⟩
          clear hK K hHeld
          have hHeld := hHeld2
          clear hHeld2
          try simp only [Act.put, tA, tZ, tS]
          refine wpAnyH_ready (rs := [11]) (by kernel_rfl) (by simp) ?_
          refine AllReadyH.cons (by simp only [gA, gZ, gS]; rfl) (fun K hK => ?_) AllReadyH.nil
          go_simp
          refine hK.out _ _ ?_ (fun hHeld2 => ?_)
          · (try dsimp only); exact ⟨by simp [go_sem, p0, zc0, zc1], by simp [go_sem, p1, zc0, zc1]⟩
          clear hK K hHeld
          have hHeld := hHeld2
          clear hHeld2
          try simp only [Act.put, tA, tZ, tS]
          refine kT 12 ?_ ?_ ?_
          rotate_left
          · (intro w9 hSw; (try dsimp only at hSw); go_simp <;> with_reducible rfl)
          try simp only [Act.put, tA, tZ, tS]
          refine wpAnyH_ready (rs := [13]) (by kernel_rfl) (by simp) ?_
          refine AllReadyH.cons (by simp only [gA, gZ, gS]; rfl) (fun K hK => ?_) AllReadyH.nil
          go_simp
          refine hK.out _ _ ?_ (fun hHeld2 => ?_)
          · (try dsimp only); exact ⟨by simp [go_sem, p0, zc0, zc1], by simp [go_sem, p1, zc0, zc1]⟩
          clear hK K hHeld
          have hHeld := hHeld2
          clear hHeld2
          try simp only [Act.put, tA, tZ, tS]
          refine kT 14 ?_ ?_ ?_
          rotate_left
          · (intro w9 hSw; (try dsimp only at hSw); go_simp <;> with_reducible rfl)
          try simp only [Act.put, tA, tZ, tS]
          refine wpAnyH_ready (rs := [15]) (by kernel_rfl) (by simp) ?_
          refine AllReadyH.cons (by simp only [gA, gZ, gS]; rfl) (fun K hK => ?_) AllReadyH.nil
          go_simp
          refine hK.out _ _ ?_ (fun hHeld2 => ?_)
          · (try dsimp only); exact ⟨by simp [go_sem, p0, zc0, zc1], by simp [go_sem, p1, zc0, zc1]⟩
          clear hK K hHeld
          have hHeld := hHeld2
          clear hHeld2
          try simp only [Act.put, tA, tZ, tS]
          refine wpAnyH_done (by kernel_rfl) ?_ _
          go_wp2
          refine bodyPost_ret (v := ckV (.slice a2 s c2) (.slice (some ⟨wc1.heap.size + 1, 0, none⟩) t t) (.slice (some ⟨wc1.heap.size, 0, none⟩) t t) (.slice a6 s c6) (.slice a7 t c7)) (by simp (maxDischargeDepth := 9) [results, ckV, Try.results16, go_sem, r0, r1, r2, r3, r4, r5, r6, r7, rf, zc0, zc1, zc2]) rfl ?_
          exact ⟨_, _, _, rfl, (World.ownsRow.mono (base := (w.heap.size + 3)) (by repeat (first | (with_reducible exact (World.ownsRow.mono (base' := (w.heap.size + 3)) o21 (sA))) | (with_reducible refine World.ownsRow.alloc ?_ _) | (with_reducible refine own_setC ?_ (sA)))) (by omega)), (World.ownsRow.mono (base := (w.heap.size + 3)) (by repeat (first | (with_reducible refine own_made (B := (w.heap.size + 3)) (e := 4) h3s h3l (by omega) (sB) (by first | rfl | (simp; done))) | (with_reducible refine World.ownsRow.alloc ?_ _) | (with_reducible refine own_setC ?_ (sA)))) (by omega)), (World.ownsRow.mono (base := (w.heap.size + 3)) (by repeat (first | (with_reducible refine own_made (B := (w.heap.size + 3)) (e := 48) h4s h4l (by omega) (sB) (by first | rfl | (simp; done))) | (with_reducible refine World.ownsRow.alloc ?_ _) | (with_reducible refine own_setC ?_ (sA)))) (by omega)), (belA)⟩
        refine AllReadyH.cons (by simp only [gA, gZ, gS]; rfl) (fun K hK => ?_) AllReadyH.nil
        go_simp
        refine hK.out _ _ ?_ (fun hHeld2 => ?_)
        · (try dsimp only); exact ⟨by simp [go_sem, p0, zc0, zc1], by simp [go_sem, p1, zc0, zc1]⟩
        clear hK K hHeld
        have hHeld := hHeld2
        clear hHeld2
        try simp only [Act.put, tA, tZ, tS]
        refine wpAnyH_ready (rs := [6]) (by kernel_rfl) (by simp) ?_
        refine AllReadyH.cons (by simp only [gA, gZ, gS]; rfl) (fun K hK => ?_) AllReadyH.nil
        go_simp
        refine hK.out _ _ ?_ (fun hHeld2 => ?_)
        · (try dsimp only); exact ⟨by simp [go_sem, p0, zc0, zc1], by simp [go_sem, p1, zc0, zc1]⟩
        clear hK K hHeld
        have hHeld := hHeld2
        clear hHeld2
        try simp only [Act.put, tA, tZ, tS]
        refine kT 12 ?_ ?_ ?_
        rotate_left
        · (intro w9 hSw; (try dsimp only at hSw); go_simp <;> with_reducible rfl)
        try simp only [Act.put, tA, tZ, tS]
        refine wpAnyH_ready (rs := [13]) (by kernel_rfl) (by simp) ?_
        refine AllReadyH.cons (by simp only [gA, gZ, gS]; rfl) (fun K hK => ?_) AllReadyH.nil
        go_simp
        refine hK.out _ _ ?_ (fun hHeld2 => ?_)
        · (try dsimp only); exact ⟨by simp [go_sem, p0, zc0, zc1], by simp [go_sem, p1, zc0, zc1]⟩
        clear hK K hHeld
        have hHeld := hHeld2
        clear hHeld2
        try simp only [Act.put, tA, tZ, tS]
        refine kT 14 ?_ ?_ ?_
        rotate_left
        · (intro w9 hSw; (try dsimp only at hSw); go_simp <;> with_reducible rfl)
        try simp only [Act.put, tA, tZ, tS]
        refine wpAnyH_ready (rs := [15]) (by kernel_rfl) (by simp) ?_
        refine AllReadyH.cons (by simp only [gA, gZ, gS]; rfl) (fun K hK => ?_) AllReadyH.nil
        go_simp
        refine hK.out _ _ ?_ (fun hHeld2 => ?_)
        · (try dsimp only); exact ⟨by simp [go_sem, p0, zc0, zc1], by simp [go_sem, p1, zc0, zc1]⟩
        clear hK K hHeld
        have hHeld := hHeld2
        clear hHeld2
        try simp only [Act.put, tA, tZ, tS]
        refine wpAnyH_done (by kernel_rfl) ?_ _
        go_wp2
        refine bodyPost_ret (v := ckV (.slice a2 s c2) (.slice (some ⟨wc1.heap.size + 1, 0, none⟩) t t) (.slice (some ⟨wc1.heap.size, 0, none⟩) t t) (.slice a6 s c6) (.slice a7 t c7)) (by simp (maxDischargeDepth := 9) [results, ckV, Try.results16, go_sem, r0, r1, r2, r3, r4, r5, r6, r7, rf, zc0, zc1, zc2]) rfl ?_
        exact ⟨_, _, _, rfl, (World.ownsRow.mono (base := (w.heap.size + 3)) (by repeat (first | (with_reducible exact (World.ownsRow.mono (base' := (w.heap.size + 3)) o21 (sA))) | (with_reducible refine World.ownsRow.alloc ?_ _) | (with_reducible refine own_setC ?_ (sA)))) (by omega)), (World.ownsRow.mono (base := (w.heap.size + 3)) (by repeat (first | (with_reducible refine own_made (B := (w.heap.size + 3)) (e := 4) h3s h3l (by omega) (sB) (by first | rfl | (simp; done))) | (with_reducible refine World.ownsRow.alloc ?_ _) | (with_reducible refine own_setC ?_ (sA)))) (by omega)), (World.ownsRow.mono (base := (w.heap.size + 3)) (by repeat (first | (with_reducible refine own_made (B := (w.heap.size + 3)) (e := 48) h4s h4l (by omega) (sB) (by first | rfl | (simp; done))) | (with_reducible refine World.ownsRow.alloc ?_ _) | (with_reducible refine own_setC ?_ (sA)))) (by omega)), (belA)⟩
      refine AllReadyH.cons (by simp only [gA, gZ, gS]; rfl) (fun K hK => ?_) AllReadyH.nil
      go_simp
      refine hK.out _ _ ?_ (fun hHeld2 => ?_)
      · (try dsimp only); exact ⟨by simp [go_sem, p0, zc0, zc1], by simp [go_sem, p1, zc0, zc1]⟩
      clear hK K hHeld
      have hHeld := hHeld2
      clear hHeld2
      try simp only [Act.put, tA, tZ, tS]
      refine wpAnyH_ready (rs := [6, 9]) (by kernel_rfl) (by simp) ?_
      refine AllReadyH.cons (by simp only [gA, gZ, gS]; rfl) (fun K hK => ?_) ?_
      · go_simp
        refine hK.out _ _ ?_ (fun hHeld2 => ?_)
        · (try dsimp only); exact ⟨by simp [go_sem, p0, zc0, zc1], by simp [go_sem, p1, zc0, zc1]⟩
        clear hK K hHeld
        have hHeld := hHeld2
        clear hHeld2
        try simp only [Act.put, tA, tZ, tS]
        refine kT 12 ?_ ?_ ?_
        rotate_left
        · (intro w9 hSw; (try dsimp only at hSw); go_simp <;> with_reducible rfl)
        try simp only [Act.put, tA, tZ, tS]
        refine wpAnyH_ready (rs := [9, 13]) (by kernel_rfl) (by simp) ?_
        refine AllReadyH.cons (by simp only [gA, gZ, gS]; rfl) (fun K hK => ?_) ?_
        · go_simp
          refine hK.out _ _ ?_ (fun hHeld2 => ?_)
          · (try dsimp only); exact ⟨by simp [go_sem, p0, zc0, zc1], by simp [go_sem, p1, zc0, zc1]⟩
          clear hK K hHeld
          have hHeld := hHeld2
          clear hHeld2
          try simp only [Act.put, tA, tZ, tS]
          refine wpAnyH_ready (rs := [13]) (by kernel_rfl) (by simp) ?_
          refine AllReadyH.cons (by simp only [gA, gZ, gS]; rfl) (fun K hK => ?_) AllReadyH.nil
          go_simp
          refine hK.out _ _ ?_ (fun hHeld2 => ?_)
          · (try dsimp only); exact ⟨by simp [go_sem, p0, zc0, zc1], by simp [go_sem, p1, zc0, zc1]⟩
          clear hK K hHeld
          have hHeld := hHeld2
          clear hHeld2
          try simp only [Act.put, tA, tZ, tS]
          refine kT 14 ?_ ?_ ?_
          rotate_left
          · (intro w9 hSw; (try dsimp only at hSw); go_simp <;> with_reducible rfl)
          try simp only [Act.put, tA, tZ, tS]
          refine wpAnyH_ready (rs := [15]) (by kernel_rfl) (by simp) ?_
          refine AllReadyH.cons (by simp only [gA, gZ, gS]; rfl) (fun K hK => ?_) AllReadyH.nil
          go_simp
          refine hK.out _ _ ?_ (fun hHeld2 => ?_)
          · (try dsimp only); exact ⟨by simp [go_sem, p0, zc0, zc1], by simp [go_sem, p1, zc0, zc1]⟩
          clear hK K hHeld
          have hHeld := hHeld2
          clear hHeld2
          try simp only [Act.put, tA, tZ, tS]
          refine wpAnyH_done (by kernel_rfl) ?_ _
          go_wp2
          refine bodyPost_ret (v := ckV (.slice a2 s c2) (.slice (some ⟨wc1.heap.size, 0, none⟩) t t) (.slice (some ⟨wc1.heap.size + 1, 0, none⟩) t t) (.slice a6 s c6) (.slice a7 t c7)) (by simp (maxDischargeDepth := 9) [results, ckV, Try.results16, go_sem, r0, r1, r2, r3, r4, r5, r6, r7, rf, zc0, zc1, zc2]) rfl ?_
          exact ⟨_, _, _, rfl, (World.ownsRow.mono (base := (w.heap.size + 3)) (by repeat (first | (with_reducible exact (World.ownsRow.mono (base' := (w.heap.size + 3)) o21 (sA))) | (with_reducible refine World.ownsRow.alloc ?_ _) | (with_reducible refine own_setC ?_ (sA)))) (by omega)), (World.ownsRow.mono (base := (w.heap.size + 3)) (by repeat (first | (with_reducible refine own_made (B := (w.heap.size + 3)) (e := 4) h3s h3l (by omega) (sB) (by first | rfl | (simp; done))) | (with_reducible refine World.ownsRow.alloc ?_ _) | (with_reducible refine own_setC ?_ (sA)))) (by omega)), (World.ownsRow.mono (base := (w.heap.size + 3)) (by repeat (first | (with_reducible refine own_made (B := (w.heap.size + 3)) (e := 48) h4s h4l (by omega) (sB) (by first | rfl | (simp; done))) | (with_reducible refine World.ownsRow.alloc ?_ _) | (with_reducible refine own_setC ?_ (sA)))) (by omega)), (belA)⟩
        refine AllReadyH.cons (by simp only [gA, gZ, gS]; rfl) (fun K hK => ?_) AllReadyH.nil
        go_simp
        refine hK.out _ _ ?_ (fun hHeld2 => ?_)
        · (try dsimp only); exact ⟨by simp [go_sem, p0, zc0, zc1], by simp [go_sem, p1, zc0, zc1]⟩
        clear hK K hHeld
        have hHeld := hHeld2
        clear hHeld2
        try simp only [Act.put, tA, tZ, tS]
        refine wpAnyH_ready (rs := [9]) (by kernel_rfl) (by simp) ?_
        refine AllReadyH.cons (by simp only [gA, gZ, gS]; rfl) (fun K hK => ?_) AllReadyH.nil
        go_simp
        refine hK.out _ _ ?_ (fun hHeld2 => ?_)
        · (try dsimp only); exact ⟨by simp [go_sem, p0, zc0, zc1], by simp [go_sem, p1, zc0, zc1]⟩
        clear hK K hHeld
        have hHeld := hHeld2
        clear hHeld2
        try simp only [Act.put, tA, tZ, tS]
        refine kT 14 ?_ ?_ ?_
        rotate_left
        · (intro w9 hSw; (try dsimp only at hSw); go_simp <;> with_reducible rfl)
        try simp only [Act.put, tA, tZ, tS]
        refine wpAnyH_ready (rs := [15]) (by kernel_rfl) (by simp) ?_
        refine AllReadyH.cons (by simp only [gA, gZ, gS]; rfl) (fun K hK => ?_) AllReadyH.nil
        go_simp
        refine hK.out _ _ ?_ (fun hHeld2 => ?_)
        · (try dsimp only); exact ⟨by simp [go_sem, p0, zc0, zc1], by simp [go_sem, p1, zc0, zc1]⟩
        clear hK K hHeld
        have hHeld := hHeld2
        clear hHeld2
        try simp only [Act.put, tA, tZ, tS]
        refine wpAnyH_done (by kernel_rfl) ?_ _
        go_wp2
        refine bodyPost_ret (v := ckV (.slice a2 s c2) (.slice (some ⟨wc1.heap.size, 0, none⟩) t t) (.slice (some ⟨wc1.heap.size + 1, 0, none⟩) t t) (.slice a6 s c6) (.slice a7 t c7)) (by simp (maxDischargeDepth := 9) [results, ckV, Try.results16, go_sem, r0, r1, r2, r3, r4, r5, r6, r7, rf, zc0, zc1, zc2]) rfl ?_
        exact ⟨_, _, _, rfl, (World.ownsRow.mono (base := (w.heap.size + 3)) (by repeat (first | (with_reducible exact (World.ownsRow.mono (base' := (w.heap.size + 3)) o21 (sA))) | (with_reducible refine World.ownsRow.alloc ?_ _) | (with_reducible refine own_setC ?_ (sA)))) (by omega)), (World.ownsRow.mono (base := (w.heap.size + 3)) (by repeat (first | (with_reducible refine own_made (B := (w.heap.size + 3)) (e := 4) h3s h3l (by omega) (sB) (by first | rfl | (simp; done))) | (with_reducible refine World.ownsRow.alloc ?_ _) | (with_reducible refine own_setC ?_ (sA)))) (by omega)), (World.ownsRow.mono (base := (w.heap.size + 3)) (by repeat (first | (with_reducible refine own_made (B := (w.heap.size + 3)) (e := 48) h4s h4l (by omega) (sB) (by first | rfl | (simp; done))) | (with_reducible refine World.ownsRow.alloc ?_ _) | (with_reducible refine own_setC ?_ (sA)))) (by omega)), (belA)⟩
      refine AllReadyH.cons (by simp only [gA, gZ, gS]; rfl) (fun K hK => ?_) AllReadyH.nil
      go_simp
      refine hK.out _ _ ?_ (fun hHeld2 => ?_)
      · (try dsimp only); exact ⟨by simp [go_sem, p0, zc0, zc1], by simp [go_sem, p1, zc0, zc1]⟩
      clear hK K hHeld
      have hHeld := hHeld2
      clear hHeld2
      try simp only [Act.put, tA, tZ, tS]
      refine wpAnyH_ready (rs := [6]) (by kernel_rfl) (by simp) ?_
      refine AllReadyH.cons (by simp only [gA, gZ, gS]; rfl) (fun K hK => ?_) AllReadyH.nil
      go_simp
      refine hK.out _ _ ?_ (fun hHeld2 => ?_)
      · (try dsimp only); exact ⟨by simp [go_sem, p0, zc0, zc1], by simp [go_sem, p1, zc0, zc1]⟩
      clear hK K hHeld
      have hHeld := hHeld2
      clear hHeld2
      try simp only [Act.put, tA, tZ, tS]
      refine kT 12 ?_ ?_ ?_
      rotate_left
      · (intro w9 hSw; (try dsimp only at hSw); go_simp <;> with_reducible rfl)
      try simp only [Act.put, tA, tZ, tS]
      refine wpAnyH_ready (rs := [13]) (by kernel_rfl) (by simp) ?_
      refine AllReadyH.cons (by simp only [gA, gZ, gS]; rfl) (fun K hK => ?_) AllReadyH.nil
      go_simp
      refine hK.out _ _ ?_ (fun hHeld2 => ?_)
      · (try dsimp only); exact ⟨by simp [go_sem, p0, zc0, zc1], by simp [go_sem, p1, zc0, zc1]⟩
      clear hK K hHeld
      have hHeld := hHeld2
      clear hHeld2
      try simp only [Act.put, tA, tZ, tS]
      refine kT 14 ?_ ?_ ?_
      rotate_left
      · (intro w9 hSw; (try dsimp only at hSw); go_simp <;> with_reducible rfl)
      try simp only [Act.put, tA, tZ, tS]
      refine wpAnyH_ready (rs := [15]) (by kernel_rfl) (by simp) ?_
      refine AllReadyH.cons (by simp only [gA, gZ, gS]; rfl) (fun K hK => ?_) AllReadyH.nil
      go_simp
      refine hK.out _ _ ?_ (fun hHeld2 => ?_)
      · (try dsimp only); exact ⟨by simp [go_sem, p0, zc0, zc1], by simp [go_sem, p1, zc0, zc1]⟩
      clear hK K hHeld
      have hHeld := hHeld2
      clear hHeld2
      try simp only [Act.put, tA, tZ, tS]
      refine wpAnyH_done (by kernel_rfl) ?_ _
      go_wp2
      refine bodyPost_ret (v := ckV (.slice a2 s c2) (.slice (some ⟨wc1.heap.size + 1, 0, none⟩) t t) (.slice (some ⟨wc1.heap.size, 0, none⟩) t t) (.slice a6 s c6) (.slice a7 t c7)) (by simp (maxDischargeDepth := 9) [results, ckV, Try.results16, go_sem, r0, r1, r2, r3, r4, r5, r6, r7, rf, zc0, zc1, zc2]) rfl ?_
      exact ⟨_, _, _, rfl, (World.ownsRow.mono (base := (w.heap.size + 3)) (by repeat (first | (with_reducible exact (World.ownsRow.mono (base' := (w.heap.size + 3)) o21 (sA))) | (with_reducible refine World.ownsRow.alloc ?_ _) | (with_reducible refine own_setC ?_ (sA)))) (by omega)), (World.ownsRow.mono (base := (w.heap.size + 3)) (by repeat (first | (with_reducible refine own_made (B := (w.heap.size + 3)) (e := 4) h3s h3l (by omega) (sB) (by first | rfl | (simp; done))) | (with_reducible refine World.ownsRow.alloc ?_ _) | (with_reducible refine own_setC ?_ (sA)))) (by omega)), (World.ownsRow.mono (base := (w.heap.size + 3)) (by repeat (first | (with_reducible refine own_made (B := (w.heap.size + 3)) (e := 48) h4s h4l (by omega) (sB) (by first | rfl | (simp; done))) | (with_reducible refine World.ownsRow.alloc ?_ _) | (with_reducible refine own_setC ?_ (sA)))) (by omega)), (belA)⟩
    refine AllReadyH.cons (by simp only [gA, gZ, gS]; rfl) (fun K hK => ?_) ?_
    · go_simp
      refine hK.out _ _ ?_ (fun hHeld2 => ?_)
      · (try dsimp only); exact ⟨by simp [go_sem], by simp [go_sem]⟩
      clear hK K hHeld
      have hHeld := hHeld2
      clear hHeld2
      try simp only [Act.put, tA, tZ, tS]
      refine wpAnyH_ready (rs := [3, 9]) (by kernel_rfl) (by simp) ?_
      refine AllReadyH.cons (by simp only [gA, gZ, gS]; rfl) (fun K hK => ?_) ?_
      · go_simp
        (go_at_call 30; refine (repeat_any s (w.heap.size + 1 + 1 + 1) hs _ (by simp [go_sem])).mono ?_; rintro e' wc36 ⟨v2, rfl, o236, hb36⟩)
        obtain ⟨a2, c2, rfl⟩ := sliceC o236
        (try go_wp2_with fail)
        have bb36 : Below (w.heap.size + 3) (((w.alloc (.cells #[.int .i64 0, .bool false, .slice none 0 0, .slice none 0 0, .slice none 0 0, .int .i64 0, .slice a6 s c6, .slice a7 t c7] 32)).alloc (.cells #[.int .i64 s, .int .i64 t, .int .i64 k, .int .i64 z, .int .i64 p, .int .i64 l, .int .i64 e, .bool b, .int .i64 v, .int .i64 r] 24)).alloc (.cells #[.int .i64 0, .bool false, .slice none 0 0, .slice none 0 0, .slice none 0 0, .int .i64 0, .slice none 0 0, .slice none 0 0] 32)) wc36 := Below.trans (show Below (w.heap.size + 3) (((w.alloc (.cells #[.int .i64 0, .bool false, .slice none 0 0, .slice none 0 0, .slice none 0 0, .int .i64 0, .slice a6 s c6, .slice a7 t c7] 32)).alloc (.cells #[.int .i64 s, .int .i64 t, .int .i64 k, .int .i64 z, .int .i64 p, .int .i64 l, .int .i64 e, .bool b, .int .i64 v, .int .i64 r] 24)).alloc (.cells #[.int .i64 0, .bool false, .slice none 0 0, .slice none 0 0, .slice none 0 0, .int .i64 0, .slice none 0 0, .slice none 0 0] 32)) (((((w.alloc (.cells #[.int .i64 0, .bool false, .slice none 0 0, .slice none 0 0, .slice none 0 0, .int .i64 0, .slice a6 s c6, .slice a7 t c7] 32)).alloc (.cells #[.int .i64 s, .int .i64 t, .int .i64 k, .int .i64 z, .int .i64 p, .int .i64 l, .int .i64 e, .bool b, .int .i64 v, .int .i64 r] 24)).alloc (.cells #[.int .i64 0, .bool false, .slice none 0 0, .slice none 0 0, .slice none 0 0, .int .i64 0, .slice none 0 0, .slice none 0 0] 32)).drew.alloc (.cells #[.int .i64 (-1)] 3)).alloc (.cells C3 4)) from (by repeat (first | (with_reducible exact Below.refl _ _) | (with_reducible refine Below.alloc ?_ (sA) _) | (with_reducible refine Below.drew ?_)))) (hb36.mono (sA))
        have p0 : wc36.cell? ⟨w.heap.size + 1, 0, none⟩ = some (.int .i64 s) := (bb36.cell (p := ⟨w.heap.size + 1, 0, none⟩) (by simp)).trans (by simp [go_sem])
        have p1 : wc36.cell? ⟨w.heap.size + 1, 1, none⟩ = some (.int .i64 t) := (bb36.cell (p := ⟨w.heap.size + 1, 1, none⟩) (by simp)).trans (by simp [go_sem])
        have zc : w.heap.size + 3 ≤ wc36.heap.size := by have h9 := bb36.size; simpa using h9
        have zc0 : w.heap.size < wc36.heap.size := by omega
        have zc1 : w.heap.size + 1 < wc36.heap.size := by omega
        have zc2 : w.heap.size + 1 + 1 < wc36.heap.size := by omega
        have hX : BoxC wc36 w.heap.size (.slice none 0 0) (.slice none 0 0) (.slice none 0 0) (.slice a6 s c6) (.slice a7 t c7) := (bb36.block _ (by omega)).trans hx0
        have hR : BoxC wc36 (w.heap.size + 1 + 1) (.slice none 0 0) (.slice none 0 0) (.slice none 0 0) (.slice none 0 0) (.slice none 0 0) := (bb36.block _ (by omega)).trans hr0
        obtain ⟨⟨x0, x1, x2, x3, x4, x5, x6, x7⟩, xf⟩ := hX.cells
        obtain ⟨⟨r0, r1, r2, r3, r4, r5, r6, r7⟩, rf⟩ := hR.cells
        refine hK.out _ _ ?_ (fun hHeld2 => ?_)
        · (try dsimp only); exact ⟨p0, p1⟩
        clear hK K hHeld
        have hHeld := hHeld2
        clear hHeld2
        try simp only [Act.put, tA, tZ, tS]
        clear hX hR
        have O3_36 := own_bel (own_made (W := ((((w.alloc (.cells #[.int .i64 0, .bool false, .slice none 0 0, .slice none 0 0, .slice none 0 0, .int .i64 0, .slice a6 s c6, .slice a7 t c7] 32)).alloc (.cells #[.int .i64 s, .int .i64 t, .int .i64 k, .int .i64 z, .int .i64 p, .int .i64 l, .int .i64 e, .bool b, .int .i64 v, .int .i64 r] 24)).alloc (.cells #[.int .i64 0, .bool false, .slice none 0 0, .slice none 0 0, .slice none 0 0, .int .i64 0, .slice none 0 0, .slice none 0 0] 32)).drew.alloc (.cells #[.int .i64 (-1)] 3))) (B := (w.heap.size + 3)) (e := 4) (g := w.heap.size + 1 + 1 + 1 + 1) h3s h3l (by omega) (sB) (by first | rfl | (simp; done))) hb36
        refine kT 10 ?_ ?_ ?_
        rotate_left
        · (intro w9 hSw; (try dsimp only at hSw); go_simp <;> with_reducible rfl)
        try simp only [Act.put, tA, tZ, tS]
        refine wpAnyH_ready (rs := [9, 11]) (by kernel_rfl) (by simp) ?_
        refine AllReadyH.cons (by simp only [gA, gZ, gS]; rfl) (fun K hK => ?_) ?_
        · go_simp
          refine hK.out _ _ ?_ (fun hHeld2 => ?_)
          · (try dsimp only); exact ⟨by simp [go_sem, p0, zc0, zc1], by simp [go_sem, p1, zc0, zc1]⟩
          clear hK K hHeld
          have hHeld := hHeld2
          clear hHeld2
          try simp only [Act.put, tA, tZ, tS]
          refine wpAnyH_ready (rs := [11]) (by kernel_rfl) (by simp) ?_
          refine AllReadyH.cons (by simp only [gA, gZ, gS]; rfl) (fun K hK => ?_) AllReadyH.nil
          go_simp
          refine hK.out _ _ ?_ (fun hHeld2 => ?_)
          · (try dsimp only); exact ⟨by simp [go_sem, p0, zc0, zc1], by simp [go_sem, p1, zc0, zc1]⟩
          clear hK K hHeld
          have hHeld := hHeld2
          clear hHeld2
          try simp only [Act.put, tA, tZ, tS]
          refine kT 12 ?_ ?_ ?_
          rotate_left
          · (intro w9 hSw; (try dsimp only at hSw); go_simp <;> with_reducible rfl)
          try simp only [Act.put, tA, tZ, tS]
          refine wpAnyH_ready (rs := [13]) (by kernel_rfl) (by simp) ?_
          refine AllReadyH.cons (by simp only [gA, gZ, gS]; rfl) (fun K hK => ?_) AllReadyH.nil
          go_simp
          refine hK.out _ _ ?_ (fun hHeld2 => ?_)
          · (try dsimp only); exact ⟨by simp [go_sem, p0, zc0, zc1], by simp [go_sem, p1, zc0, zc1]⟩
          clear hK K hHeld
          have hHeld := hHeld2
          clear hHeld2
          try simp only [Act.put, tA, tZ, tS]
          refine kT 14 ?_ ?_ ?_
          rotate_left
          · (intro w9 hSw; (try dsimp only at hSw); go_simp <;> with_reducible rfl)
          try simp only [Act.put, tA, tZ, tS]
          refine wpAnyH_ready (rs := [15]) (by kernel_rfl) (by simp) ?_
          refine AllReadyH.cons (by simp only [gA, gZ, gS]; rfl) (fun K hK => ?_) AllReadyH.nil
          go_simp
          refine hK.out _ _ ?_ (fun hHeld2 => ?_)
          · (try dsimp only); exact ⟨by simp [go_sem, p0, zc0, zc1], by simp [go_sem, p1, zc0, zc1]⟩
          clear hK K hHeld
          have hHeld := hHeld2
          clear hHeld2
          try simp only [Act.put, tA, tZ, tS]
          refine wpAnyH_done (by kernel_rfl) ?_ _
          go_wp2
          refine bodyPost_ret (v := ckV (.slice a2 s c2) (.slice (some ⟨w.heap.size + 1 + 1 + 1 + 1, 0, none⟩) t t) (.slice (some ⟨wc36.heap.size, 0, none⟩) t t) (.slice a6 s c6) (.slice a7 t c7)) (by simp (maxDischargeDepth := 9) [results, ckV, Try.results16, go_sem, r0, r1, r2, r3, r4, r5, r6, r7, rf, zc0, zc1, zc2]) rfl ?_
          exact ⟨_, _, _, rfl, (World.ownsRow.mono (base := (w.heap.size + 3)) (by repeat (first | (with_reducible exact (World.ownsRow.mono (base' := (w.heap.size + 3)) o236 (sA))) | (with_reducible refine World.ownsRow.alloc ?_ _) | (with_reducible refine own_setC ?_ (sA)))) (by omega)), (World.ownsRow.mono (base := (w.heap.size + 3)) (by repeat (first | (with_reducible exact O3_36) | (with_reducible refine World.ownsRow.alloc ?_ _) | (with_reducible refine own_setC ?_ (sA)))) (by omega)), (World.ownsRow.mono (base := (w.heap.size + 3)) (by repeat (first | (with_reducible refine own_made (B := (w.heap.size + 3)) (e := 48) h4s h4l (by omega) (sB) (by first | rfl | (simp; done))) | (with_reducible refine World.ownsRow.alloc ?_ _) | (with_reducible refine own_setC ?_ (sA)))) (by omega)), (belA)⟩
        refine AllReadyH.cons (by simp only [gA, gZ, gS]; rfl) (fun K hK => ?_) AllReadyH.nil
        go_simp
        refine hK.out _ _ ?_ (fun hHeld2 => ?_)
        · (try dsimp only); exact ⟨by simp [go_sem, p0, zc0, zc1], by simp [go_sem, p1, zc0, zc1]⟩
        clear hK K hHeld
        have hHeld := hHeld2
        clear hHeld2
        try simp only [Act.put, tA, tZ, tS]
        refine kT 12 ?_ ?_ ?_
        rotate_left
        · (intro w9 hSw; (try dsimp only at hSw); go_simp <;> with_reducible rfl)
        try simp only [Act.put, tA, tZ, tS]
        refine wpAnyH_ready (rs := [9, 13]) (by kernel_rfl) (by simp) ?_
        refine AllReadyH.cons (by simp only [gA, gZ, gS]; rfl) (fun K hK => ?_) ?_
        · go_simp
          refine hK.out _ _ ?_ (fun hHeld2 => ?_)
          · (try dsimp only); exact ⟨by simp [go_sem, p0, zc0, zc1], by simp [go_sem, p1, zc0, zc1]⟩
          clear hK K hHeld
          have hHeld := hHeld2
          clear hHeld2
          try simp only [Act.put, tA, tZ, tS]
          refine wpAnyH_ready (rs := [13]) (by kernel_rfl) (by simp) ?_
          refine AllReadyH.cons (by simp only [gA, gZ, gS]; rfl) (fun K hK => ?_) AllReadyH.nil
          go_simp
          refine hK.out _ _ ?_ (fun hHeld2 => ?_)
          · (try dsimp only); exact ⟨by simp [go_sem, p0, zc0, zc1], by simp [go_sem, p1, zc0, zc1]⟩
          clear hK K hHeld
          have hHeld := hHeld2
          clear hHeld2
          try simp only [Act.put, tA, tZ, tS]
          refine kT 14 ?_ ?_ ?_
          rotate_left
          · (intro w9 hSw; (try dsimp only at hSw); go_simp <;> with_reducible rfl)
          try simp only [Act.put, tA, tZ, tS]
          refine wpAnyH_ready (rs := [15]) (by kernel_rfl) (by simp) ?_
          refine AllReadyH.cons (by simp only [gA, gZ, gS]; rfl) (fun K hK => ?_) AllReadyH.nil
          go_simp
          refine hK.out _ _ ?_ (fun hHeld2 => ?_)
          · (try dsimp only); exact ⟨by simp [go_sem, p0, zc0, zc1], by simp [go_sem, p1, zc0, zc1]⟩
          clear hK K hHeld
          have hHeld := hHeld2
          clear hHeld2
          try simp only [Act.put, tA, tZ, tS]
          refine wpAnyH_done (by kernel_rfl) ?_ _
          go_wp2
          refine bodyPost_ret (v := ckV (.slice a2 s c2) (.slice (some ⟨w.heap.size + 1 + 1 + 1 + 1, 0, none⟩) t t) (.slice (some ⟨wc36.heap.size, 0, none⟩) t t) (.slice a6 s c6) (.slice a7 t c7)) (by simp (maxDischargeDepth := 9) [results, ckV, Try.results16, go_sem, r0, r1, r2, r3, r4, r5, r6, r7, rf, zc0, zc1, zc2]) rfl ?_
          exact ⟨_, _, _, rfl, (World.ownsRow.mono (base := (w.heap.size + 3)) (by repeat (first | (with_reducible exact (World.ownsRow.mono (base' := (w.heap.size + 3)) o236 (sA))) | (with_reducible refine World.ownsRow.alloc ?_ _) | (with_reducible refine own_setC ?_ (sA)))) (by omega)), (World.ownsRow.mono (base := (w.heap.size + 3)) (by repeat (first | (with_reducible exact O3_36) | (with_reducible refine World.ownsRow.alloc ?_ _) | (with_reducible refine own_setC ?_ (sA)))) (by omega)), (World.ownsRow.mono (base := (w.heap.size + 3)) (by repeat (first | (with_reducible refine own_made (B := (w.heap.size + 3)) (e := 48) h4s h4l (by omega) (sB) (by first | rfl | (simp; done))) | (with_reducible refine World.ownsRow.alloc ?_ _) | (with_reducible refine own_setC ?_ (sA)))) (by omega)), (belA)⟩
        refine AllReadyH.cons (by simp only [gA, gZ, gS]; rfl) (fun K hK => ?_) AllReadyH.nil
        go_simp
        refine hK.out _ _ ?_ (fun hHeld2 => ?_)
        · (try dsimp only); exact ⟨by simp [go_sem, p0, zc0, zc1], by simp [go_sem, p1, zc0, zc1]⟩
        clear hK K hHeld
        have hHeld := hHeld2
        clear hHeld2
        try simp only [Act.put, tA, tZ, tS]
        refine wpAnyH_ready (rs := [9]) (by kernel_rfl) (by simp) ?_
        refine AllReadyH.cons (by simp only [gA, gZ, gS]; rfl) (fun K hK => ?_) AllReadyH.nil
        go_simp
        refine hK.out _ _ ?_ (fun hHeld2 => ?_)
        · (try dsimp only); exact ⟨by simp [go_sem, p0, zc0, zc1], by simp [go_sem, p1, zc0, zc1]⟩
        clear hK K hHeld
        have hHeld := hHeld2
        clear hHeld2
        try simp only [Act.put, tA, tZ, tS]
        refine kT 14 ?_ ?_ ?_
        rotate_left
        · (intro w9 hSw; (try dsimp only at hSw); go_simp <;> with_reducible rfl)
        try simp only [Act.put, tA, tZ, tS]
        refine wpAnyH_ready (rs := [15]) (by kernel_rfl) (by simp) ?_
        refine AllReadyH.cons (by simp only [gA, gZ, gS]; rfl) (fun K hK => ?_) AllReadyH.nil
        go_simp
        refine hK.out _ _ ?_ (fun hHeld2 => ?_)
        · (try dsimp only); exact ⟨by simp [go_sem, p0, zc0, zc1], by simp [go_sem, p1, zc0, zc1]⟩
        clear hK K hHeld
        have hHeld := hHeld2
        clear hHeld2
        try simp only [Act.put, tA, tZ, tS]
        refine wpAnyH_done (by kernel_rfl) ?_ _
        go_wp2
        refine bodyPost_ret (v := ckV (.slice a2 s c2) (.slice (some ⟨w.heap.size + 1 + 1 + 1 + 1, 0, none⟩) t t) (.slice (some ⟨wc36.heap.size, 0, none⟩) t t) (.slice a6 s c6) (.slice a7 t c7)) (by simp (maxDischargeDepth := 9) [results, ckV, Try.results16, go_sem, r0, r1, r2, r3, r4, r5, r6, r7, rf, zc0, zc1, zc2]) rfl ?_
        exact ⟨_, _, _, rfl, (World.ownsRow.mono (base := (w.heap.size + 3)) (by repeat (first | (with_reducible exact (World.ownsRow.mono (base' := (w.heap.size + 3)) o236 (sA))) | (with_reducible refine World.ownsRow.alloc ?_ _) | (with_reducible refine own_setC ?_ (sA)))) (by omega)), (World.ownsRow.mono (base := (w.heap.size + 3)) (by repeat (first | (with_reducible exact O3_36) | (with_reducible refine World.ownsRow.alloc ?_ _) | (with_reducible refine own_setC ?_ (sA)))) (by omega)), (World.ownsRow.mono (base := (w.heap.size + 3)) (by repeat (first | (with_reducible refine own_made (B := (w.heap.size + 3)) (e := 48) h4s h4l (by omega) (sB) (by first | rfl | (simp; done))) | (with_reducible refine World.ownsRow.alloc ?_ _) | (with_reducible refine own_setC ?_ (sA)))) (by omega)), (belA)⟩
      refine AllReadyH.cons (by simp only [gA, gZ, gS]; rfl) (fun K hK => ?_) AllReadyH.nil
      go_simp
      refine hK.out _ _ ?_ (fun hHeld2 => ?_)
      · (try dsimp only); exact ⟨by simp [go_sem], by simp [go_sem]⟩
      clear hK K hHeld
      have hHeld := hHeld2
      clear hHeld2
      try simp only [Act.put, tA, tZ, tS]
      refine wpAnyH_ready (rs := [3]) (by kernel_rfl) (by simp) ?_
      refine AllReadyH.cons (by simp only [gA, gZ, gS]; rfl) (fun K hK => ?_) AllReadyH.nil
      go_simp
      (go_at_call 30; refine (repeat_any s (w.heap.size + 1 + 1 + 1) hs _ (by simp [go_sem])).mono ?_; rintro e' wc49 ⟨v2, rfl, o249, hb49⟩)
      obtain ⟨a2, c2, rfl⟩ := sliceC o249
      (try go_wp2_with fail)
      have bb49 : Below (w.heap.size + 3) (((w.alloc (.cells #[.int .i64 0, .bool false, .slice none 0 0, .slice none 0 0, .slice none 0 0, .int .i64 0, .slice a6 s c6, .slice a7 t c7] 32)).alloc (.cells #[.int .i64 s, .int .i64 t, .int .i64 k, .int .i64 z, .int .i64 p, .int .i64 l, .int .i64 e, .bool b, .int .i64 v, .int .i64 r] 24)).alloc (.cells #[.int .i64 0, .bool false, .slice none 0 0, .slice none 0 0, .slice none 0 0, .int .i64 0, .slice none 0 0, .slice none 0 0] 32)) wc49 := Below.trans (show Below (w.heap.size + 3) (((w.alloc (.cells #[.int .i64 0, .bool false, .slice none 0 0, .slice none 0 0, .slice none 0 0, .int .i64 0, .slice a6 s c6, .slice a7 t c7] 32)).alloc (.cells #[.int .i64 s, .int .i64 t, .int .i64 k, .int .i64 z, .int .i64 p, .int .i64 l, .int .i64 e, .bool b, .int .i64 v, .int .i64 r] 24)).alloc (.cells #[.int .i64 0, .bool false, .slice none 0 0, .slice none 0 0, .slice none 0 0, .int .i64 0, .slice none 0 0, .slice none 0 0] 32)) ((((((w.alloc (.cells #[.int .i64 0, .bool false, .slice none 0 0, .slice none 0 0, .slice none 0 0, .int .i64 0, .slice a6 s c6, .slice a7 t c7] 32)).alloc (.cells #[.int .i64 s, .int .i64 t, .int .i64 k, .int .i64 z, .int .i64 p, .int .i64 l, .int .i64 e, .bool b, .int .i64 v, .int .i64 r] 24)).alloc (.cells #[.int .i64 0, .bool false, .slice none 0 0, .slice none 0 0, .slice none 0 0, .int .i64 0, .slice none 0 0, .slice none 0 0] 32)).drew.alloc (.cells #[.int .i64 (-1)] 3)).alloc (.cells C3 4)).alloc (.cells C4 48)) from (by repeat (first | (with_reducible exact Below.refl _ _) | (with_reducible refine Below.alloc ?_ (sA) _) | (with_reducible refine Below.drew ?_)))) (hb49.mono (sA))
      have p0 : wc49.cell? ⟨w.heap.size + 1, 0, none⟩ = some (.int .i64 s) := (bb49.cell (p := ⟨w.heap.size + 1, 0, none⟩) (by simp)).trans (by simp [go_sem])
      have p1 : wc49.cell? ⟨w.heap.size + 1, 1, none⟩ = some (.int .i64 t) := (bb49.cell (p := ⟨w.heap.size + 1, 1, none⟩) (by simp)).trans (by simp [go_sem])
      have zc : w.heap.size + 3 ≤ wc49.heap.size := by have h9 := bb49.size; simpa using h9
      have zc0 : w.heap.size < wc49.heap.size := by omega
      have zc1 : w.heap.size + 1 < wc49.heap.size := by omega
      have zc2 : w.heap.size + 1 + 1 < wc49.heap.size := by omega
      have hX : BoxC wc49 w.heap.size (.slice none 0 0) (.slice none 0 0) (.slice none 0 0) (.slice a6 s c6) (.slice a7 t c7) := (bb49.block _ (by omega)).trans hx0
      have hR : BoxC wc49 (w.heap.size + 1 + 1) (.slice none 0 0) (.slice none 0 0) (.slice none 0 0) (.slice none 0 0) (.slice none 0 0) := (bb49.block _ (by omega)).trans hr0
      obtain ⟨⟨x0, x1, x2, x3, x4, x5, x6, x7⟩, xf⟩ := hX.cells
      obtain ⟨⟨r0, r1, r2, r3, r4, r5, r6, r7⟩, rf⟩ := hR.cells
      refine hK.out _ _ ?_ (fun hHeld2 => ?_)
      · (try dsimp only); exact ⟨p0, p1⟩
      clear hK K hHeld
      have hHeld := hHeld2
      clear hHeld2
      try simp only [Act.put, tA, tZ, tS]
      clear hX hR
      have O3_49 := own_bel (World.ownsRow.alloc (own_made (W := ((((w.alloc (.cells #[.int .i64 0, .bool false, .slice none 0 0, .slice none 0 0, .slice none 0 0, .int .i64 0, .slice a6 s c6, .slice a7 t c7] 32)).alloc (.cells #[.int .i64 s, .int .i64 t, .int .i64 k, .int .i64 z, .int .i64 p, .int .i64 l, .int .i64 e, .bool b, .int .i64 v, .int .i64 r] 24)).alloc (.cells #[.int .i64 0, .bool false, .slice none 0 0, .slice none 0 0, .slice none 0 0, .int .i64 0, .slice none 0 0, .slice none 0 0] 32)).drew.alloc (.cells #[.int .i64 (-1)] 3))) (B := (w.heap.size + 3)) (e := 4) (g := w.heap.size + 1 + 1 + 1 + 1) h3s h3l (by omega) (sB) (by first | rfl | (simp; done))) (.cells C4 48)) hb49
      have O4_49 := own_bel (own_made (W := (((((w.alloc (.cells #[.int .i64 0, .bool false, .slice none 0 0, .slice none 0 0, .slice none 0 0, .int .i64 0, .slice a6 s c6, .slice a7 t c7] 32)).alloc (.cells #[.int .i64 s, .int .i64 t, .int .i64 k, .int .i64 z, .int .i64 p, .int .i64 l, .int .i64 e, .bool b, .int .i64 v, .int .i64 r] 24)).alloc (.cells #[.int .i64 0, .bool false, .slice none 0 0, .slice none 0 0, .slice none 0 0, .int .i64 0, .slice none 0 0, .slice none 0 0] 32)).drew.alloc (.cells #[.int .i64 (-1)] 3)).alloc (.cells C3 4))) (B := (w.heap.size + 3)) (e := 48) (g := w.heap.size + 1 + 1 + 1 + 1 + 1) h4s h4l (by omega) (sB) (by first | rfl | (simp; done))) hb49
      refine kT 10 ?_ ?_ ?_
      rotate_left
      · (intro w9 hSw; (try dsimp only at hSw); go_simp <;> with_reducible rfl)
      try simp only [Act.put, tA, tZ, tS]
      refine wpAnyH_ready (rs := [11]) (by kernel_rfl) (by simp) ?_
      refine AllReadyH.cons (by simp only [gA, gZ, gS]; rfl) (fun K hK => ?_) AllReadyH.nil
      go_simp
      refine hK.out _ _ ?_ (fun hHeld2 => ?_)
      · (try dsimp only); exact ⟨by simp [go_sem, p0, zc0, zc1], by simp [go_sem, p1, zc0, zc1]⟩
      clear hK K hHeld
      have hHeld := hHeld2
      clear hHeld2
      try simp only [Act.put, tA, tZ, tS]
      refine kT 12 ?_ ?_ ?_
      rotate_left
      · (intro w9 hSw; (try dsimp only at hSw); go_simp <;> with_reducible rfl)
      try simp only [Act.put, tA, tZ, tS]
      refine wpAnyH_ready (rs := [13]) (by kernel_rfl) (by simp) ?_
      refine AllReadyH.cons (by simp only [gA, gZ, gS]; rfl) (fun K hK => ?_) AllReadyH.nil
      go_simp
      refine hK.out _ _ ?_ (fun hHeld2 => ?_)
      · (try dsimp only); exact ⟨by simp [go_sem, p0, zc0, zc1], by simp [go_sem, p1, zc0, zc1]⟩
      clear hK K hHeld
      have hHeld := hHeld2
      clear hHeld2
      try simp only [Act.put, tA, tZ, tS]
      refine kT 14 ?_ ?_ ?_
      rotate_left
      · (intro w9 hSw; (try dsimp only at hSw); go_simp <;> with_reducible rfl)
      try simp only [Act.put, tA, tZ, tS]
      refine wpAnyH_ready (rs := [15]) (by kernel_rfl) (by simp) ?_
      refine AllReadyH.cons (by simp only [gA, gZ, gS]; rfl) (fun K hK => ?_) AllReadyH.nil
      go_simp
      refine hK.out _ _ ?_ (fun hHeld2 => ?_)
      · (try dsimp only); exact ⟨by simp [go_sem, p0, zc0, zc1], by simp [go_sem, p1, zc0, zc1]⟩
      clear hK K hHeld
      have hHeld := hHeld2
      clear hHeld2
      try simp only [Act.put, tA, tZ, tS]
      refine wpAnyH_done (by kernel_rfl) ?_ _
      go_wp2
      refine bodyPost_ret (v := ckV (.slice a2 s c2) (.slice (some ⟨w.heap.size + 1 + 1 + 1 + 1, 0, none⟩) t t) (.slice (some ⟨w.heap.size + 1 + 1 + 1 + 1 + 1, 0, none⟩) t t) (.slice a6 s c6) (.slice a7 t c7)) (by simp (maxDischargeDepth := 9) [results, ckV, Try.results16, go_sem, r0, r1, r2, r3, r4, r5, r6, r7, rf, zc0, zc1, zc2]) rfl ?_
      exact ⟨_, _, _, rfl, (World.ownsRow.mono (base := (w.heap.size + 3)) (by repeat (first | (with_reducible exact (World.ownsRow.mono (base' := (w.heap.size + 3)) o249 (sA))) | (with_reducible refine World.ownsRow.alloc ?_ _) | (with_reducible refine own_setC ?_ (sA)))) (by omega)), (World.ownsRow.mono (base := (w.heap.size + 3)) (by repeat (first | (with_reducible exact O3_49) | (with_reducible refine World.ownsRow.alloc ?_ _) | (with_reducible refine own_setC ?_ (sA)))) (by omega)), (World.ownsRow.mono (base := (w.heap.size + 3)) (by repeat (first | (with_reducible exact O4_49) | (with_reducible refine World.ownsRow.alloc ?_ _) | (with_reducible refine own_setC ?_ (sA)))) (by omega)), (belA)⟩
    refine AllReadyH.cons (by simp only [gA, gZ, gS]; rfl) (fun K hK => ?_) AllReadyH.nil
    go_simp
    refine hK.out _ _ ?_ (fun hHeld2 => ?_)
    · (try dsimp only); exact ⟨by simp [go_sem], by simp [go_sem]⟩
    clear hK K hHeld
    have hHeld := hHeld2
    clear hHeld2
    try simp only [Act.put, tA, tZ, tS]
    refine wpAnyH_ready (rs := [3, 6]) (by kernel_rfl) (by simp) ?_
    refine AllReadyH.cons (by simp only [gA, gZ, gS]; rfl) (fun K hK => ?_) ?_
    · go_simp
      (go_at_call 30; refine (repeat_any s (w.heap.size + 1 + 1 + 1) hs _ (by simp [go_sem])).mono ?_; rintro e' wc54 ⟨v2, rfl, o254, hb54⟩)
      obtain ⟨a2, c2, rfl⟩ := sliceC o254
      (try go_wp2_with fail)
      have bb54 : Below (w.heap.size + 3) (((w.alloc (.cells #[.int .i64 0, .bool false, .slice none 0 0, .slice none 0 0, .slice none 0 0, .int .i64 0, .slice a6 s c6, .slice a7 t c7] 32)).alloc (.cells #[.int .i64 s, .int .i64 t, .int .i64 k, .int .i64 z, .int .i64 p, .int .i64 l, .int .i64 e, .bool b, .int .i64 v, .int .i64 r] 24)).alloc (.cells #[.int .i64 0, .bool false, .slice none 0 0, .slice none 0 0, .slice none 0 0, .int .i64 0, .slice none 0 0, .slice none 0 0] 32)) wc54 := Below.trans (show Below (w.heap.size + 3) (((w.alloc (.cells #[.int .i64 0, .bool false, .slice none 0 0, .slice none 0 0, .slice none 0 0, .int .i64 0, .slice a6 s c6, .slice a7 t c7] 32)).alloc (.cells #[.int .i64 s, .int .i64 t, .int .i64 k, .int .i64 z, .int .i64 p, .int .i64 l, .int .i64 e, .bool b, .int .i64 v, .int .i64 r] 24)).alloc (.cells #[.int .i64 0, .bool false, .slice none 0 0, .slice none 0 0, .slice none 0 0, .int .i64 0, .slice none 0 0, .slice none 0 0] 32)) (((((w.alloc (.cells #[.int .i64 0, .bool false, .slice none 0 0, .slice none 0 0, .slice none 0 0, .int .i64 0, .slice a6 s c6, .slice a7 t c7] 32)).alloc (.cells #[.int .i64 s, .int .i64 t, .int .i64 k, .int .i64 z, .int .i64 p, .int .i64 l, .int .i64 e, .bool b, .int .i64 v, .int .i64 r] 24)).alloc (.cells #[.int .i64 0, .bool false, .slice none 0 0, .slice none 0 0, .slice none 0 0, .int .i64 0, .slice none 0 0, .slice none 0 0] 32)).drew.alloc (.cells #[.int .i64 (-1)] 3)).alloc (.cells C4 48)) from (by repeat (first | (with_reducible exact Below.refl _ _) | (with_reducible refine Below.alloc ?_ (sA) _) | (with_reducible refine Below.drew ?_)))) (hb54.mono (sA))
      have p0 : wc54.cell? ⟨w.heap.size + 1, 0, none⟩ = some (.int .i64 s) := (bb54.cell (p := ⟨w.heap.size + 1, 0, none⟩) (by simp)).trans (by simp [go_sem])
      have p1 : wc54.cell? ⟨w.heap.size + 1, 1, none⟩ = some (.int .i64 t) := (bb54.cell (p := ⟨w.heap.size + 1, 1, none⟩) (by simp)).trans (by simp [go_sem])
      have zc : w.heap.size + 3 ≤ wc54.heap.size := by have h9 := bb54.size; simpa using h9
      have zc0 : w.heap.size < wc54.heap.size := by omega
      have zc1 : w.heap.size + 1 < wc54.heap.size := by omega
      have zc2 : w.heap.size + 1 + 1 < wc54.heap.size := by omega
      have hX : BoxC wc54 w.heap.size (.slice none 0 0) (.slice none 0 0) (.slice none 0 0) (.slice a6 s c6) (.slice a7 t c7) := (bb54.block _ (by omega)).trans hx0
      have hR : BoxC wc54 (w.heap.size + 1 + 1) (.slice none 0 0) (.slice none 0 0) (.slice none 0 0) (.slice none 0 0) (.slice none 0 0) := (bb54.block _ (by omega)).trans hr0
      obtain ⟨⟨x0, x1, x2, x3, x4, x5, x6, x7⟩, xf⟩ := hX.cells
      obtain ⟨⟨r0, r1, r2, r3, r4, r5, r6, r7⟩, rf⟩ := hR.cells
      refine hK.out _ _ ?_ (fun hHeld2 => ?_)
      · (try dsimp only); exact ⟨p0, p1⟩
      clear hK K hHeld
      have hHeld := hHeld2
      clear hHeld2
      try simp only [Act.put, tA, tZ, tS]
      clear hX hR
      have O4_54 := own_bel (own_made (W := ((((w.alloc (.cells #[.int .i64 0, .bool false, .slice none 0 0, .slice none 0 0, .slice none 0 0, .int .i64 0, .slice a6 s c6, .slice a7 t c7] 32)).alloc (.cells #[.int .i64 s, .int .i64 t, .int .i64 k, .int .i64 z, .int .i64 p, .int .i64 l, .int .i64 e, .bool b, .int .i64 v, .int .i64 r] 24)).alloc (.cells #[.int .i64 0, .bool false, .slice none 0 0, .slice none 0 0, .slice none 0 0, .int .i64 0, .slice none 0 0, .slice none 0 0] 32)).drew.alloc (.cells #[.int .i64 (-1)] 3))) (B := (w.heap.size + 3)) (e := 48) (g := w.heap.size + 1 + 1 + 1 + 1) h4s h4l (by omega) (sB) (by first | rfl | (simp; done))) hb54
      refine kT 10 ?_ ?_ ?_
      rotate_left
      · (intro w9 hSw; (try dsimp only at hSw); go_simp <;> with_reducible rfl)
      try simp only [Act.put, tA, tZ, tS]
      refine wpAnyH_ready (rs := [6, 11]) (by kernel_rfl) (by simp) ?_
      refine AllReadyH.cons (by simp only [gA, gZ, gS]; rfl) (fun K hK => ?_) ?_
      · go_simp
        refine hK.out _ _ ?_ (fun hHeld2 => ?_)
        · (try dsimp only); exact ⟨by simp [go_sem, p0, zc0, zc1], by simp [go_sem, p1, zc0, zc1]⟩
        clear hK K hHeld
        have hHeld := hHeld2
        clear hHeld2
        try simp only [Act.put, tA, tZ, tS]
        refine wpAnyH_ready (rs := [11]) (by kernel_rfl) (by simp) ?_
        refine AllReadyH.cons (by simp only [gA, gZ, gS]; rfl) (fun K hK => ?_) AllReadyH.nil
        go_simp
        refine hK.out _ _ ?_ (fun hHeld2 => ?_)
        · (try dsimp only); exact ⟨by simp [go_sem, p0, zc0, zc1], by simp [go_sem, p1, zc0, zc1]⟩
        clear hK K hHeld
        have hHeld := hHeld2
        clear hHeld2
        try simp only [Act.put, tA, tZ, tS]
        refine kT 12 ?_ ?_ ?_
        rotate_left
        · (intro w9 hSw; (try dsimp only at hSw); go_simp <;> with_reducible rfl)
        try simp only [Act.put, tA, tZ, tS]
        refine wpAnyH_ready (rs := [13]) (by kernel_rfl) (by simp) ?_
        refine AllReadyH.cons (by simp only [gA, gZ, gS]; rfl) (fun K hK => ?_) AllReadyH.nil
        go_simp
        refine hK.out _ _ ?_ (fun hHeld2 => ?_)
        · (try dsimp only); exact ⟨by simp [go_sem, p0, zc0, zc1], by simp [go_sem, p1, zc0, zc1]⟩
        clear hK K hHeld
        have hHeld := hHeld2
        clear hHeld2
        try simp only [Act.put, tA, tZ, tS]
        refine kT 14 ?_ ?_ ?_
        rotate_left
        · (intro w9 hSw; (try dsimp only at hSw); go_simp <;> with_reducible rfl)
        try simp only [Act.put, tA, tZ, tS]
        refine wpAnyH_ready (rs := [15]) (by kernel_rfl) (by simp) ?_
        refine AllReadyH.cons (by simp only [gA, gZ, gS]; rfl) (fun K hK => ?_) AllReadyH.nil
        go_simp
        refine hK.out _ _ ?_ (fun hHeld2 => ?_)
        · (try dsimp only); exact ⟨by simp [go_sem, p0, zc0, zc1], by simp [go_sem, p1, zc0, zc1]⟩
        clear hK K hHeld
        have hHeld := hHeld2
        clear hHeld2
        try simp only [Act.put, tA, tZ, tS]
        refine wpAnyH_done (by kernel_rfl) ?_ _
        go_wp2
        refine bodyPost_ret (v := ckV (.slice a2 s c2) (.slice (some ⟨wc54.heap.size, 0, none⟩) t t) (.slice (some ⟨w.heap.size + 1 + 1 + 1 + 1, 0, none⟩) t t) (.slice a6 s c6) (.slice a7 t c7)) (by simp (maxDischargeDepth := 9) [results, ckV, Try.results16, go_sem, r0, r1, r2, r3, r4, r5, r6, r7, rf, zc0, zc1, zc2]) rfl ?_
        exact ⟨_, _, _, rfl, (World.ownsRow.mono (base := (w.heap.size + 3)) (by repeat (first | (with_reducible exact (World.ownsRow.mono (base' := (w.heap.size + 3)) o254 (sA))) | (with_reducible refine World.ownsRow.alloc ?_ _) | (with_reducible refine own_setC ?_ (sA)))) (by omega)), (World.ownsRow.mono (base := (w.heap.size + 3)) (by repeat (first | (with_reducible refine own_made (B := (w.heap.size + 3)) (e := 4) h3s h3l (by omega) (sB) (by first | rfl | (simp; done))) | (with_reducible refine World.ownsRow.alloc ?_ _) | (with_reducible refine own_setC ?_ (sA)))) (by omega)), (World.ownsRow.mono (base := (w.heap.size + 3)) (by repeat (first | (with_reducible exact O4_54) | (with_reducible refine World.ownsRow.alloc ?_ _) | (with_reducible refine own_setC ?_ (sA)))) (by omega)), (belA)⟩
      refine AllReadyH.cons (by simp only [gA, gZ, gS]; rfl) (fun K hK => ?_) AllReadyH.nil
      go_simp
      refine hK.out _ _ ?_ (fun hHeld2 => ?_)
      · (try dsimp only); exact ⟨by simp [go_sem, p0, zc0, zc1], by simp [go_sem, p1, zc0, zc1]⟩
      clear hK K hHeld
      have hHeld := hHeld2
      clear hHeld2
      try simp only [Act.put, tA, tZ, tS]
      refine wpAnyH_ready (rs := [6]) (by kernel_rfl) (by simp) ?_
      refine AllReadyH.cons (by simp only [gA, gZ, gS]; rfl) (fun K hK => ?_) AllReadyH.nil
      go_simp
      refine hK.out _ _ ?_ (fun hHeld2 => ?_)
      · (try dsimp only); exact ⟨by simp [go_sem, p0, zc0, zc1], by simp [go_sem, p1, zc0, zc1]⟩
      clear hK K hHeld
      have hHeld := hHeld2
      clear hHeld2
      try simp only [Act.put, tA, tZ, tS]
      refine kT 12 ?_ ?_ ?_
      rotate_left
      · (intro w9 hSw; (try dsimp only at hSw); go_simp <;> with_reducible rfl)
      try simp only [Act.put, tA, tZ, tS]
      refine wpAnyH_ready (rs := [13]) (by kernel_rfl) (by simp) ?_
      refine AllReadyH.cons (by simp only [gA, gZ, gS]; rfl) (fun K hK => ?_) AllReadyH.nil
      go_simp
      refine hK.out _ _ ?_ (fun hHeld2 => ?_)
      · (try dsimp only); exact ⟨by simp [go_sem, p0, zc0, zc1], by simp [go_sem, p1, zc0, zc1]⟩
      clear hK K hHeld
      have hHeld := hHeld2
      clear hHeld2
      try simp only [Act.put, tA, tZ, tS]
      refine kT 14 ?_ ?_ ?_
      rotate_left
      · (intro w9 hSw; (try dsimp only at hSw); go_simp <;> with_reducible rfl)
      try simp only [Act.put, tA, tZ, tS]
      refine wpAnyH_ready (rs := [15]) (by kernel_rfl) (by simp) ?_
      refine AllReadyH.cons (by simp only [gA, gZ, gS]; rfl) (fun K hK => ?_) AllReadyH.nil
      go_simp
      refine hK.out _ _ ?_ (fun hHeld2 => ?_)
      · (try dsimp only); exact ⟨by simp [go_sem, p0, zc0, zc1], by simp [go_sem, p1, zc0, zc1]⟩
      clear hK K hHeld
      have hHeld := hHeld2
      clear hHeld2
      try simp only [Act.put, tA, tZ, tS]
      refine wpAnyH_done (by kernel_rfl) ?_ _
      go_wp2
      refine bodyPost_ret (v := ckV (.slice a2 s c2) (.slice (some ⟨wc54.heap.size, 0, none⟩) t t) (.slice (some ⟨w.heap.size + 1 + 1 + 1 + 1, 0, none⟩) t t) (.slice a6 s c6) (.slice a7 t c7)) (by simp (maxDischargeDepth := 9) [results, ckV, Try.results16, go_sem, r0, r1, r2, r3, r4, r5, r6, r7, rf, zc0, zc1, zc2]) rfl ?_
      exact ⟨_, _, _, rfl, (World.ownsRow.mono (base := (w.heap.size + 3)) (by repeat (first | (with_reducible exact (World.ownsRow.mono (base' := (w.heap.size + 3)) o254 (sA))) | (with_reducible refine World.ownsRow.alloc ?_ _) | (with_reducible refine own_setC ?_ (sA)))) (by omega)), (World.ownsRow.mono (base := (w.heap.size + 3)) (by repeat (first | (with_reducible refine own_made (B := (w.heap.size + 3)) (e := 4) h3s h3l (by omega) (sB) (by first | rfl | (simp; done))) | (with_reducible refine World.ownsRow.alloc ?_ _) | (with_reducible refine own_setC ?_ (sA)))) (by omega)), (World.ownsRow.mono (base := (w.heap.size + 3)) (by repeat (first | (with_reducible exact O4_54) | (with_reducible refine World.ownsRow.alloc ?_ _) | (with_reducible refine own_setC ?_ (sA)))) (by omega)), (belA)⟩
    refine AllReadyH.cons (by simp only [gA, gZ, gS]; rfl) (fun K hK => ?_) AllReadyH.nil
    go_simp
    refine hK.out _ _ ?_ (fun hHeld2 => ?_)
    · (try dsimp only); exact ⟨by simp [go_sem], by simp [go_sem]⟩
    clear hK K hHeld
    have hHeld := hHeld2
    clear hHeld2
    try simp only [Act.put, tA, tZ, tS]
    refine wpAnyH_ready (rs := [3]) (by kernel_rfl) (by simp) ?_
    refine AllReadyH.cons (by simp only [gA, gZ, gS]; rfl) (fun K hK => ?_) AllReadyH.nil
    go_simp
    (go_at_call 30; refine (repeat_any s (w.heap.size + 1 + 1 + 1) hs _ (by simp [go_sem])).mono ?_; rintro e' wc64 ⟨v2, rfl, o264, hb64⟩)
    obtain ⟨a2, c2, rfl⟩ := sliceC o264
    (try go_wp2_with fail)
    have bb64 : Below (w.heap.size + 3) (((w.alloc (.cells #[.int .i64 0, .bool false, .slice none 0 0, .slice none 0 0, .slice none 0 0, .int .i64 0, .slice a6 s c6, .slice a7 t c7] 32)).alloc (.cells #[.int .i64 s, .int .i64 t, .int .i64 k, .int .i64 z, .int .i64 p, .int .i64 l, .int .i64 e, .bool b, .int .i64 v, .int .i64 r] 24)).alloc (.cells #[.int .i64 0, .bool false, .slice none 0 0, .slice none 0 0, .slice none 0 0, .int .i64 0, .slice none 0 0, .slice none 0 0] 32)) wc64 := Below.trans (show Below (w.heap.size + 3) (((w.alloc (.cells #[.int .i64 0, .bool false, .slice none 0 0, .slice none 0 0, .slice none 0 0, .int .i64 0, .slice a6 s c6, .slice a7 t c7] 32)).alloc (.cells #[.int .i64 s, .int .i64 t, .int .i64 k, .int .i64 z, .int .i64 p, .int .i64 l, .int .i64 e, .bool b, .int .i64 v, .int .i64 r] 24)).alloc (.cells #[.int .i64 0, .bool false, .slice none 0 0, .slice none 0 0, .slice none 0 0, .int .i64 0, .slice none 0 0, .slice none 0 0] 32)) ((((((w.alloc (.cells #[.int .i64 0, .bool false, .slice none 0 0, .slice none 0 0, .slice none 0 0, .int .i64 0, .slice a6 s c6, .slice a7 t c7] 32)).alloc (.cells #[.int .i64 s, .int .i64 t, .int .i64 k, .int .i64 z, .int .i64 p, .int .i64 l, .int .i64 e, .bool b, .int .i64 v, .int .i64 r] 24)).alloc (.cells #[.int .i64 0, .bool false, .slice none 0 0, .slice none 0 0, .slice none 0 0, .int .i64 0, .slice none 0 0, .slice none 0 0] 32)).drew.alloc (.cells #[.int .i64 (-1)] 3)).alloc (.cells C4 48)).alloc (.cells C3 4)) from (by repeat (first | (with_reducible exact Below.refl _ _) | (with_reducible refine Below.alloc ?_ (sA) _) | (with_reducible refine Below.drew ?_)))) (hb64.mono (sA))
    have p0 : wc64.cell? ⟨w.heap.size + 1, 0, none⟩ = some (.int .i64 s) := (bb64.cell (p := ⟨w.heap.size + 1, 0, none⟩) (by simp)).trans (by simp [go_sem])
    have p1 : wc64.cell? ⟨w.heap.size + 1, 1, none⟩ = some (.int .i64 t) := (bb64.cell (p := ⟨w.heap.size + 1, 1, none⟩) (by simp)).trans (by simp [go_sem])
    have zc : w.heap.size + 3 ≤ wc64.heap.size := by have h9 := bb64.size; simpa using h9
    have zc0 : w.heap.size < wc64.heap.size := by omega
    have zc1 : w.heap.size + 1 < wc64.heap.size := by omega
    have zc2 : w.heap.size + 1 + 1 < wc64.heap.size := by omega
    have hX : BoxC wc64 w.heap.size (.slice none 0 0) (.slice none 0 0) (.slice none 0 0) (.slice a6 s c6) (.slice a7 t c7) := (bb64.block _ (by omega)).trans hx0
    have hR : BoxC wc64 (w.heap.size + 1 + 1) (.slice none 0 0) (.slice none 0 0) (.slice none 0 0) (.slice none 0 0) (.slice none 0 0) := (bb64.block _ (by omega)).trans hr0
    obtain ⟨⟨x0, x1, x2, x3, x4, x5, x6, x7⟩, xf⟩ := hX.cells
    obtain ⟨⟨r0, r1, r2, r3, r4, r5, r6, r7⟩, rf⟩ := hR.cells
    refine hK.out _ _ ?_ (fun hHeld2 => ?_)
    · (try dsimp only); exact ⟨p0, p1⟩
    clear hK K hHeld
    have hHeld := hHeld2
    clear hHeld2
    try simp only [Act.put, tA, tZ, tS]
    clear hX hR
    have O4_64 := own_bel (World.ownsRow.alloc (own_made (W := ((((w.alloc (.cells #[.int .i64 0, .bool false, .slice none 0 0, .slice none 0 0, .slice none 0 0, .int .i64 0, .slice a6 s c6, .slice a7 t c7] 32)).alloc (.cells #[.int .i64 s, .int .i64 t, .int .i64 k, .int .i64 z, .int .i64 p, .int .i64 l, .int .i64 e, .bool b, .int .i64 v, .int .i64 r] 24)).alloc (.cells #[.int .i64 0, .bool false, .slice none 0 0, .slice none 0 0, .slice none 0 0, .int .i64 0, .slice none 0 0, .slice none 0 0] 32)).drew.alloc (.cells #[.int .i64 (-1)] 3))) (B := (w.heap.size + 3)) (e := 48) (g := w.heap.size + 1 + 1 + 1 + 1) h4s h4l (by omega) (sB) (by first | rfl | (simp; done))) (.cells C3 4)) hb64
    have O3_64 := own_bel (own_made (W := (((((w.alloc (.cells #[.int .i64 0, .bool false, .slice none 0 0, .slice none 0 0, .slice none 0 0, .int .i64 0, .slice a6 s c6, .slice a7 t c7] 32)).alloc (.cells #[.int .i64 s, .int .i64 t, .int .i64 k, .int .i64 z, .int .i64 p, .int .i64 l, .int .i64 e, .bool b, .int .i64 v, .int .i64 r] 24)).alloc (.cells #[.int .i64 0, .bool false, .slice none 0 0, .slice none 0 0, .slice none 0 0, .int .i64 0, .slice none 0 0, .slice none 0 0] 32)).drew.alloc (.cells #[.int .i64 (-1)] 3)).alloc (.cells C4 48))) (B := (w.heap.size + 3)) (e := 4) (g := w.heap.size + 1 + 1 + 1 + 1 + 1) h3s h3l (by omega) (sB) (by first | rfl | (simp; done))) hb64
    refine kT 10 ?_ ?_ ?_
    rotate_left
    · (intro w9 hSw; (try dsimp only at hSw); go_simp <;> with_reducible rfl)
    try simp only [Act.put, tA, tZ, tS]
    refine wpAnyH_ready (rs := [11]) (by kernel_rfl) (by simp) ?_
    refine AllReadyH.cons (by simp only [gA, gZ, gS]; rfl) (fun K hK => ?_) AllReadyH.nil
    go_simp
    refine hK.out _ _ ?_ (fun hHeld2 => ?_)
    · (try dsimp only); exact ⟨by simp [go_sem, p0, zc0, zc1], by simp [go_sem, p1, zc0, zc1]⟩
    clear hK K hHeld
    have hHeld := hHeld2
    clear hHeld2
    try simp only [Act.put, tA, tZ, tS]
    refine kT 12 ?_ ?_ ?_
    rotate_left
    · (intro w9 hSw; (try dsimp only at hSw); go_simp <;> with_reducible rfl)
    try simp only [Act.put, tA, tZ, tS]
    refine wpAnyH_ready (rs := [13]) (by kernel_rfl) (by simp) ?_
    refine AllReadyH.cons (by simp only [gA, gZ, gS]; rfl) (fun K hK => ?_) AllReadyH.nil
    go_simp
    refine hK.out _ _ ?_ (fun hHeld2 => ?_)
    · (try dsimp only); exact ⟨by simp [go_sem, p0, zc0, zc1], by simp [go_sem, p1, zc0, zc1]⟩
    clear hK K hHeld
    have hHeld := hHeld2
    clear hHeld2
    try simp only [Act.put, tA, tZ, tS]
    refine kT 14 ?_ ?_ ?_
    rotate_left
    · (intro w9 hSw; (try dsimp only at hSw); go_simp <;> with_reducible rfl)
    try simp only [Act.put, tA, tZ, tS]
    refine wpAnyH_ready (rs := [15]) (by kernel_rfl) (by simp) ?_
    refine AllReadyH.cons (by simp only [gA, gZ, gS]; rfl) (fun K hK => ?_) AllReadyH.nil
    go_simp
    refine hK.out _ _ ?_ (fun hHeld2 => ?_)
    · (try dsimp only); exact ⟨by simp [go_sem, p0, zc0, zc1], by simp [go_sem, p1, zc0, zc1]⟩
    clear hK K hHeld
    have hHeld := hHeld2
    clear hHeld2
    try simp only [Act.put, tA, tZ, tS]
    refine wpAnyH_done (by kernel_rfl) ?_ _
    go_wp2
    refine bodyPost_ret (v := ckV (.slice a2 s c2) (.slice (some ⟨w.heap.size + 1 + 1 + 1 + 1 + 1, 0, none⟩) t t) (.slice (some ⟨w.heap.size + 1 + 1 + 1 + 1, 0, none⟩) t t) (.slice a6 s c6) (.slice a7 t c7)) (by simp (maxDischargeDepth := 9) [results, ckV, Try.results16, go_sem, r0, r1, r2, r3, r4, r5, r6, r7, rf, zc0, zc1, zc2]) rfl ?_
    exact ⟨_, _, _, rfl, (World.ownsRow.mono (base := (w.heap.size + 3)) (by repeat (first | (with_reducible exact (World.ownsRow.mono (base' := (w.heap.size + 3)) o264 (sA))) | (with_reducible refine World.ownsRow.alloc ?_ _) | (with_reducible refine own_setC ?_ (sA)))) (by omega)), (World.ownsRow.mono (base := (w.heap.size + 3)) (by repeat (first | (with_reducible exact O3_64) | (with_reducible refine World.ownsRow.alloc ?_ _) | (with_reducible refine own_setC ?_ (sA)))) (by omega)), (World.ownsRow.mono (base := (w.heap.size + 3)) (by repeat (first | (with_reducible exact O4_64) | (with_reducible refine World.ownsRow.alloc ?_ _) | (with_reducible refine own_setC ?_ (sA)))) (by omega)), (belA)⟩
  refine AllReadyH.cons (by simp only [gA, gZ, gS]; rfl) (fun K hK => ?_) ?_
  · go_simp
    refine hK.out _ _ ?_ (fun hHeld2 => ?_)
    · (try dsimp only); exact ⟨by simp [go_sem], by simp [go_sem]⟩
    clear hK K hHeld
    have hHeld := hHeld2
    clear hHeld2
    try simp only [Act.put, tA, tZ, tS]
    refine wpAnyH_ready (rs := [0, 9]) (by kernel_rfl) (by simp) ?_
    refine AllReadyH.cons (by simp only [gA, gZ, gS]; rfl) (fun K hK => ?_) ?_
    · go_simp
      refine hK.out _ _ ?_ (fun hHeld2 => ?_)
      · (try dsimp only); exact ⟨by simp [go_sem], by simp [go_sem]⟩
      clear hK K hHeld
      have hHeld := hHeld2
      clear hHeld2
      try simp only [Act.put, tA, tZ, tS]
      refine wpAnyH_ready (rs := [3, 9]) (by kernel_rfl) (by simp) ?_
      refine AllReadyH.cons (by simp only [gA, gZ, gS]; rfl) (fun K hK => ?_) ?_
      · go_simp
        (go_at_call 30; refine (repeat_any s (w.heap.size + 1 + 1 + 1 + 1) hs _ (by simp [go_sem])).mono ?_; rintro e' wc70 ⟨v2, rfl, o270, hb70⟩)
        obtain ⟨a2, c2, rfl⟩ := sliceC o270
        (try go_wp2_with fail)
        have bb70 : Below (w.heap.size + 3) (((w.alloc (.cells #[.int .i64 0, .bool false, .slice none 0 0, .slice none 0 0, .slice none 0 0, .int .i64 0, .slice a6 s c6, .slice a7 t c7] 32)).alloc (.cells #[.int .i64 s, .int .i64 t, .int .i64 k, .int .i64 z, .int .i64 p, .int .i64 l, .int .i64 e, .bool b, .int .i64 v, .int .i64 r] 24)).alloc (.cells #[.int .i64 0, .bool false, .slice none 0 0, .slice none 0 0, .slice none 0 0, .int .i64 0, .slice none 0 0, .slice none 0 0] 32)) wc70 := Below.trans (show Below (w.heap.size + 3) (((w.alloc (.cells #[.int .i64 0, .bool false, .slice none 0 0, .slice none 0 0, .slice none 0 0, .int .i64 0, .slice a6 s c6, .slice a7 t c7] 32)).alloc (.cells #[.int .i64 s, .int .i64 t, .int .i64 k, .int .i64 z, .int .i64 p, .int .i64 l, .int .i64 e, .bool b, .int .i64 v, .int .i64 r] 24)).alloc (.cells #[.int .i64 0, .bool false, .slice none 0 0, .slice none 0 0, .slice none 0 0, .int .i64 0, .slice none 0 0, .slice none 0 0] 32)) (((((w.alloc (.cells #[.int .i64 0, .bool false, .slice none 0 0, .slice none 0 0, .slice none 0 0, .int .i64 0, .slice a6 s c6, .slice a7 t c7] 32)).alloc (.cells #[.int .i64 s, .int .i64 t, .int .i64 k, .int .i64 z, .int .i64 p, .int .i64 l, .int .i64 e, .bool b, .int .i64 v, .int .i64 r] 24)).alloc (.cells #[.int .i64 0, .bool false, .slice none 0 0, .slice none 0 0, .slice none 0 0, .int .i64 0, .slice none 0 0, .slice none 0 0] 32)).drew.alloc (.cells C3 4)).alloc (.cells #[.int .i64 (-1)] 3)) from (by repeat (first | (with_reducible exact Below.refl _ _) | (with_reducible refine Below.alloc ?_ (sA) _) | (with_reducible refine Below.drew ?_)))) (hb70.mono (sA))
        have p0 : wc70.cell? ⟨w.heap.size + 1, 0, none⟩ = some (.int .i64 s) := (bb70.cell (p := ⟨w.heap.size + 1, 0, none⟩) (by simp)).trans (by simp [go_sem])
        have p1 : wc70.cell? ⟨w.heap.size + 1, 1, none⟩ = some (.int .i64 t) := (bb70.cell (p := ⟨w.heap.size + 1, 1, none⟩) (by simp)).trans (by simp [go_sem])
        have zc : w.heap.size + 3 ≤ wc70.heap.size := by have h9 := bb70.size; simpa using h9
        have zc0 : w.heap.size < wc70.heap.size := by omega
        have zc1 : w.heap.size + 1 < wc70.heap.size := by omega
        have zc2 : w.heap.size + 1 + 1 < wc70.heap.size := by omega
        have hX : BoxC wc70 w.heap.size (.slice none 0 0) (.slice none 0 0) (.slice none 0 0) (.slice a6 s c6) (.slice a7 t c7) := (bb70.block _ (by omega)).trans hx0
        have hR : BoxC wc70 (w.heap.size + 1 + 1) (.slice none 0 0) (.slice none 0 0) (.slice none 0 0) (.slice none 0 0) (.slice none 0 0) := (bb70.block _ (by omega)).trans hr0
        obtain ⟨⟨x0, x1, x2, x3, x4, x5, x6, x7⟩, xf⟩ := hX.cells
        obtain ⟨⟨r0, r1, r2, r3, r4, r5, r6, r7⟩, rf⟩ := hR.cells
        refine hK.out _ _ ?_ (fun hHeld2 => ?_)
        · (try dsimp only); exact ⟨p0, p1⟩
        clear hK K hHeld
        have hHeld := hHeld2
        clear hHeld2
        try simp only [Act.put, tA, tZ, tS]
        clear hX hR
        have O3_70 := own_bel (World.ownsRow.alloc (own_made (W := (((w.alloc (.cells #[.int .i64 0, .bool false, .slice none 0 0, .slice none 0 0, .slice none 0 0, .int .i64 0, .slice a6 s c6, .slice a7 t c7] 32)).alloc (.cells #[.int .i64 s, .int .i64 t, .int .i64 k, .int .i64 z, .int .i64 p, .int .i64 l, .int .i64 e, .bool b, .int .i64 v, .int .i64 r] 24)).alloc (.cells #[.int .i64 0, .bool false, .slice none 0 0, .slice none 0 0, .slice none 0 0, .int .i64 0, .slice none 0 0, .slice none 0 0] 32)).drew) (B := (w.heap.size + 3)) (e := 4) (g := w.heap.size + 1 + 1 + 1) h3s h3l (by omega) (sB) (by first | rfl | (simp; done))) (.cells #[.int .i64 (-1)] 3)) hb70
        refine kT 10 ?_ ?_ ?_
        rotate_left
        · (intro w9 hSw; (try dsimp only at hSw); go_simp <;> with_reducible rfl)
        try simp only [Act.put, tA, tZ, tS]
        refine wpAnyH_ready (rs := [9, 11]) (by kernel_rfl) (by simp) ?_
        refine AllReadyH.cons (by simp only [gA, gZ, gS]; rfl) (fun K hK => ?_) ?_
        · go_simp
          refine hK.out _ _ ?_ (fun hHeld2 => ?_)
          · (try dsimp only); exact ⟨by simp [go_sem, p0, zc0, zc1], by simp [go_sem, p1, zc0, zc1]⟩
          clear hK K hHeld
          have hHeld := hHeld2
          clear hHeld2
          try simp only [Act.put, tA, tZ, tS]
          refine wpAnyH_ready (rs := [11]) (by kernel_rfl) (by simp) ?_
          refine AllReadyH.cons (by simp only [gA, gZ, gS]; rfl) (fun K hK => ?_) AllReadyH.nil
          go_simp
          refine hK.out _ _ ?_ (fun hHeld2 => ?_)
          · (try dsimp only); exact ⟨by simp [go_sem, p0, zc0, zc1], by simp [go_sem, p1, zc0, zc1]⟩
          clear hK K hHeld
          have hHeld := hHeld2
          clear hHeld2
          try simp only [Act.put, tA, tZ, tS]
          refine kT 12 ?_ ?_ ?_
          rotate_left
          · (intro w9 hSw; (try dsimp only at hSw); go_simp <;> with_reducible rfl)
          try simp only [Act.put, tA, tZ, tS]
          refine wpAnyH_ready (rs := [13]) (by kernel_rfl) (by simp) ?_
          refine AllReadyH.cons (by simp only [gA, gZ, gS]; rfl) (fun K hK => ?_) AllReadyH.nil
          go_simp
          refine hK.out _ _ ?_ (fun hHeld2 => ?_)
          · (try dsimp only); exact ⟨by simp [go_sem, p0, zc0, zc1], by simp [go_sem, p1, zc0, zc1]⟩
          clear hK K hHeld
          have hHeld := hHeld2
          clear hHeld2
          try simp only [Act.put, tA, tZ, tS]
          refine kT 14 ?_ ?_ ?_
          rotate_left
          · (intro w9 hSw; (try dsimp only at hSw); go_simp <;> with_reducible rfl)
          try simp only [Act.put, tA, tZ, tS]
          refine wpAnyH_ready (rs := [15]) (by kernel_rfl) (by simp) ?_
          refine AllReadyH.cons (by simp only [gA, gZ, gS]; rfl) (fun K hK => ?_) AllReadyH.nil
          go_simp
          refine hK.out _ _ ?_ (fun hHeld2 => ?_)
          · (try dsimp only); exact ⟨by simp [go_sem, p0, zc0, zc1], by simp [go_sem, p1, zc0, zc1]⟩
          clear hK K hHeld
          have hHeld := hHeld2
          clear hHeld2
          try simp only [Act.put, tA, tZ, tS]
          refine wpAnyH_done (by kernel_rfl) ?_ _
          go_wp2
          refine bodyPost_ret (v := ckV (.slice a2 s c2) (.slice (some ⟨w.heap.size + 1 + 1 + 1, 0, none⟩) t t) (.slice (some ⟨wc70.heap.size, 0, none⟩) t t) (.slice a6 s c6) (.slice a7 t c7)) (by simp (maxDischargeDepth := 9) [results, ckV, Try.results16, go_sem, r0, r1, r2, r3, r4, r5, r6, r7, rf, zc0, zc1, zc2]) rfl ?_
          exact ⟨_, _, _, rfl, (World.ownsRow.mono (base := (w.heap.size + 3)) (by repeat (first | (with_reducible exact (World.ownsRow.mono (base' := (w.heap.size + 3)) o270 (sA))) | (with_reducible refine World.ownsRow.alloc ?_ _) | (with_reducible refine own_setC ?_ (sA)))) (by omega)), (World.ownsRow.mono (base := (w.heap.size + 3)) (by repeat (first | (with_reducible exact O3_70) | (with_reducible refine World.ownsRow.alloc ?_ _) | (with_reducible refine own_setC ?_ (sA)))) (by omega)), (World.ownsRow.mono (base := (w.heap.size + 3)) (by repeat (first | (with_reducible refine own_made (B := (w.heap.size + 3)) (e := 48) h4s h4l (by omega) (sB) (by first | rfl | (simp; done))) | (with_reducible refine World.ownsRow.alloc ?_ _) | (with_reducible refine own_setC ?_ (sA)))) (by omega)), (belA)⟩
        refine AllReadyH.cons (by simp only [gA, gZ, gS]; rfl) (fun K hK => ?_) AllReadyH.nil
        go_simp
        refine hK.out _ _ ?_ (fun hHeld2 => ?_)
        · (try dsimp only); exact ⟨by simp [go_sem, p0, zc0, zc1], by simp [go_sem, p1, zc0, zc1]⟩
        clear hK K hHeld
        have hHeld := hHeld2
        clear hHeld2
        try simp only [Act.put, tA, tZ, tS]
        refine kT 12 ?_ ?_ ?_
        rotate_left
        · (intro w9 hSw; (try dsimp only at hSw); go_simp <;> with_reducible rfl)
        try simp only [Act.put, tA, tZ, tS]
        refine wpAnyH_ready (rs := [9, 13]) (by kernel_rfl) (by simp) ?_
        refine AllReadyH.cons (by simp only [gA, gZ, gS]; rfl) (fun K hK => ?_) ?_
        · go_simp
          refine hK.out _ _ ?_ (fun hHeld2 => ?_)
          · (try dsimp only); exact ⟨by simp [go_sem, p0, zc0, zc1], by simp [go_sem, p1, zc0, zc1]⟩
          clear hK K hHeld
          have hHeld := hHeld2
          clear hHeld2
          try simp only [Act.put, tA, tZ, tS]
          refine wpAnyH_ready (rs := [13]) (by kernel_rfl) (by simp) ?_
          refine AllReadyH.cons (by simp only [gA, gZ, gS]; rfl) (fun K hK => ?_) AllReadyH.nil
          go_simp
          refine hK.out _ _ ?_ (fun hHeld2 => ?_)
          · (try dsimp only); exact ⟨by simp [go_sem, p0, zc0, zc1], by simp [go_sem, p1, zc0, zc1]⟩
          clear hK K hHeld
          have hHeld := hHeld2
          clear hHeld2
          try simp only [Act.put, tA, tZ, tS]
          refine kT 14 ?_ ?_ ?_
          rotate_left
          · (intro w9 hSw; (try dsimp only at hSw); go_simp <;> with_reducible rfl)
          try simp only [Act.put, tA, tZ, tS]
          refine wpAnyH_ready (rs := [15]) (by kernel_rfl) (by simp) ?_
          refine AllReadyH.cons (by simp only [gA, gZ, gS]; rfl) (fun K hK => ?_) AllReadyH.nil
          go_simp
          refine hK.out _ _ ?_ (fun hHeld2 => ?_)
          · (try dsimp only); exact ⟨by simp [go_sem, p0, zc0, zc1], by simp [go_sem, p1, zc0, zc1]⟩
          clear hK K hHeld
          have hHeld := hHeld2
          clear hHeld2
          try simp only [Act.put, tA, tZ, tS]
          refine wpAnyH_done (by kernel_rfl) ?_ _
          go_wp2
          refine bodyPost_ret (v := ckV (.slice a2 s c2) (.slice (some ⟨w.heap.size + 1 + 1 + 1, 0, none⟩) t t) (.slice (some ⟨wc70.heap.size, 0, none⟩) t t) (.slice a6 s c6) (.slice a7 t c7)) (by simp (maxDischargeDepth := 9) [results, ckV, Try.results16, go_sem, r0, r1, r2, r3, r4, r5, r6, r7, rf, zc0, zc1, zc2]) rfl ?_
          exact ⟨_, _, _, rfl, (World.ownsRow.mono (base := (w.heap.size + 3)) (by repeat (first | (with_reducible exact (World.ownsRow.mono (base' := (w.heap.size + 3)) o270 (sA))) | (with_reducible refine World.ownsRow.alloc ?_ _) | (with_reducible refine own_setC ?_ (sA)))) (by omega)), (World.ownsRow.mono (base := (w.heap.size + 3)) (by repeat (first | (with_reducible exact O3_70) | (with_reducible refine World.ownsRow.alloc ?_ _) | (with_reducible refine own_setC ?_ (sA)))) (by omega)), (World.ownsRow.mono (base := (w.heap.size + 3)) (by repeat (first | (with_reducible refine own_made (B := (w.heap.size + 3)) (e := 48) h4s h4l (by omega) (sB) (by first | rfl | (simp; done))) | (with_reducible refine World.ownsRow.alloc ?_ _) | (with_reducible refine own_setC ?_ (sA)))) (by omega)), (belA)⟩
        refine AllReadyH.cons (by simp only [gA, gZ, gS]; rfl) (fun K hK => ?_) AllReadyH.nil
        go_simp
        refine hK.out _ _ ?_ (fun hHeld2 => ?_)
        · (try dsimp only); exact ⟨by simp [go_sem, p0, zc0, zc1], by simp [go_sem, p1, zc0, zc1]⟩
        clear hK K hHeld
        have hHeld := hHeld2
        clear hHeld2
        try simp only [Act.put, tA, tZ, tS]
        refine wpAnyH_ready (rs := [9]) (by kernel_rfl) (by simp) ?_
        refine AllReadyH.cons (by simp only [gA, gZ, gS]; rfl) (fun K hK => ?_) AllReadyH.nil
        go_simp
        refine hK.out _ _ ?_ (fun hHeld2 => ?_)
        · (try dsimp only); exact ⟨by simp [go_sem, p0, zc0, zc1], by simp [go_sem, p1, zc0, zc1]⟩
        clear hK K hHeld
        have hHeld := hHeld2
        clear hHeld2
        try simp only [Act.put, tA, tZ, tS]
        refine kT 14 ?_ ?_ ?_
        rotate_left
        · (intro w9 hSw; (try dsimp only at hSw); go_simp <;> with_reducible rfl)
        try simp only [Act.put, tA, tZ, tS]
        refine wpAnyH_ready (rs := [15]) (by kernel_rfl) (by simp) ?_
        refine AllReadyH.cons (by simp only [gA, gZ, gS]; rfl) (fun K hK => ?_) AllReadyH.nil
        go_simp
        refine hK.out _ _ ?_ (fun hHeld2 => ?_)
        · (try dsimp only); exact ⟨by simp [go_sem, p0, zc0, zc1], by simp [go_sem, p1, zc0, zc1]⟩
        clear hK K hHeld
        have hHeld := hHeld2
        clear hHeld2
        try simp only [Act.put, tA, tZ, tS]
        refine wpAnyH_done (by kernel_rfl) ?_ _
        go_wp2
        refine bodyPost_ret (v := ckV (.slice a2 s c2) (.slice (some ⟨w.heap.size + 1 + 1 + 1, 0, none⟩) t t) (.slice (some ⟨wc70.heap.size, 0, none⟩) t t) (.slice a6 s c6) (.slice a7 t c7)) (by simp (maxDischargeDepth := 9) [results, ckV, Try.results16, go_sem, r0, r1, r2, r3, r4, r5, r6, r7, rf, zc0, zc1, zc2]) rfl ?_
        exact ⟨_, _, _, rfl, (World.ownsRow.mono (base := (w.heap.size + 3)) (by repeat (first | (with_reducible exact (World.ownsRow.mono (base' := (w.heap.size + 3)) o270 (sA))) | (with_reducible refine World.ownsRow.alloc ?_ _) | (with_reducible refine own_setC ?_ (sA)))) (by omega)), (World.ownsRow.mono (base := (w.heap.size + 3)) (by repeat (first | (with_reducible exact O3_70) | (with_reducible refine World.ownsRow.alloc ?_ _) | (with_reducible refine own_setC ?_ (sA)))) (by omega)), (World.ownsRow.mono (base := (w.heap.size + 3)) (by repeat (first | (with_reducible refine own_made (B := (w.heap.size + 3)) (e := 48) h4s h4l (by omega) (sB) (by first | rfl | (simp; done))) | (with_reducible refine World.ownsRow.alloc ?_ _) | (with_reducible refine own_setC ?_ (sA)))) (by omega)), (belA)⟩
      refine AllReadyH.cons (by simp only [gA, gZ, gS]; rfl) (fun K hK => ?_) AllReadyH.nil
      go_simp
      refine hK.out _ _ ?_ (fun hHeld2 => ?_)
      · (try dsimp only); exact ⟨by simp [go_sem], by simp [go_sem]⟩
      clear hK K hHeld
      have hHeld := hHeld2
      clear hHeld2
      try simp only [Act.put, tA, tZ, tS]
      refine wpAnyH_ready (rs := [3]) (by kernel_rfl) (by simp) ?_
      refine AllReadyH.cons (by simp only [gA, gZ, gS]; rfl) (fun K hK => ?_) AllReadyH.nil
      go_simp
      (go_at_call 30; refine (repeat_any s (w.heap.size + 1 + 1 + 1 + 1) hs _ (by simp [go_sem])).mono ?_; rintro e' wc83 ⟨v2, rfl, o283, hb83⟩)
      obtain ⟨a2, c2, rfl⟩ := sliceC o283
      (try go_wp2_with fail)
      have bb83 : Below (w.heap.size + 3) (((w.alloc (.cells #[.int .i64 0, .bool false, .slice none 0 0, .slice none 0 0, .slice none 0 0, .int .i64 0, .slice a6 s c6, .slice a7 t c7] 32)).alloc (.cells #[.int .i64 s, .int .i64 t, .int .i64 k, .int .i64 z, .int .i64 p, .int .i64 l, .int .i64 e, .bool b, .int .i64 v, .int .i64 r] 24)).alloc (.cells #[.int .i64 0, .bool false, .slice none 0 0, .slice none 0 0, .slice none 0 0, .int .i64 0, .slice none 0 0, .slice none 0 0] 32)) wc83 := Below.trans (show Below (w.heap.size + 3) (((w.alloc (.cells #[.int .i64 0, .bool false, .slice none 0 0, .slice none 0 0, .slice none 0 0, .int .i64 0, .slice a6 s c6, .slice a7 t c7] 32)).alloc (.cells #[.int .i64 s, .int .i64 t, .int .i64 k, .int .i64 z, .int .i64 p, .int .i64 l, .int .i64 e, .bool b, .int .i64 v, .int .i64 r] 24)).alloc (.cells #[.int .i64 0, .bool false, .slice none 0 0, .slice none 0 0, .slice none 0 0, .int .i64 0, .slice none 0 0, .slice none 0 0] 32)) ((((((w.alloc (.cells #[.int .i64 0, .bool false, .slice none 0 0, .slice none 0 0, .slice none 0 0, .int .i64 0, .slice a6 s c6, .slice a7 t c7] 32)).alloc (.cells #[.int .i64 s, .int .i64 t, .int .i64 k, .int .i64 z, .int .i64 p, .int .i64 l, .int .i64 e, .bool b, .int .i64 v, .int .i64 r] 24)).alloc (.cells #[.int .i64 0, .bool false, .slice none 0 0, .slice none 0 0, .slice none 0 0, .int .i64 0, .slice none 0 0, .slice none 0 0] 32)).drew.alloc (.cells C3 4)).alloc (.cells #[.int .i64 (-1)] 3)).alloc (.cells C4 48)) from (by repeat (first | (with_reducible exact Below.refl _ _) | (with_reducible refine Below.alloc ?_ (sA) _) | (with_reducible refine Below.drew ?_)))) (hb83.mono (sA))
      have p0 : wc83.cell? ⟨w.heap.size + 1, 0, none⟩ = some (.int .i64 s) := (bb83.cell (p := ⟨w.heap.size + 1, 0, none⟩) (by simp)).trans (by simp [go_sem])
      have p1 : wc83.cell? ⟨w.heap.size + 1, 1, none⟩ = some (.int .i64 t) := (bb83.cell (p := ⟨w.heap.size + 1, 1, none⟩) (by simp)).trans (by simp [go_sem])
      have zc : w.heap.size + 3 ≤ wc83.heap.size := by have h9 := bb83.size; simpa using h9
      have zc0 : w.heap.size < wc83.heap.size := by omega
      have zc1 : w.heap.size + 1 < wc83.heap.size := by omega
      have zc2 : w.heap.size + 1 + 1 < wc83.heap.size := by omega
      have hX : BoxC wc83 w.heap.size (.slice none 0 0) (.slice none 0 0) (.slice none 0 0) (.slice a6 s c6) (.slice a7 t c7) := (bb83.block _ (by omega)).trans hx0
      have hR : BoxC wc83 (w.heap.size + 1 + 1) (.slice none 0 0) (.slice none 0 0) (.slice none 0 0) (.slice none 0 0) (.slice none 0 0) := (bb83.block _ (by omega)).trans hr0
      obtain ⟨⟨x0, x1, x2, x3, x4, x5, x6, x7⟩, xf⟩ := hX.cells
      obtain ⟨⟨r0, r1, r2, r3, r4, r5, r6, r7⟩, rf⟩ := hR.cells
      refine hK.out _ _ ?_ (fun hHeld2 => ?_)
      · (try dsimp only); exact ⟨p0, p1⟩
      clear hK K hHeld
      have hHeld := hHeld2
      clear hHeld2
      try simp only [Act.put, tA, tZ, tS]
      clear hX hR
      have O3_83 := own_bel (World.ownsRow.alloc (World.ownsRow.alloc (own_made (W := (((w.alloc (.cells #[.int .i64 0, .bool false, .slice none 0 0, .slice none 0 0, .slice none 0 0, .int .i64 0, .slice a6 s c6, .slice a7 t c7] 32)).alloc (.cells #[.int .i64 s, .int .i64 t, .int .i64 k, .int .i64 z, .int .i64 p, .int .i64 l, .int .i64 e, .bool b, .int .i64 v, .int .i64 r] 24)).alloc (.cells #[.int .i64 0, .bool false, .slice none 0 0, .slice none 0 0, .slice none 0 0, .int .i64 0, .slice none 0 0, .slice none 0 0] 32)).drew) (B := (w.heap.size + 3)) (e := 4) (g := w.heap.size + 1 + 1 + 1) h3s h3l (by omega) (sB) (by first | rfl | (simp; done))) (.cells #[.int .i64 (-1)] 3)) (.cells C4 48)) hb83
      have O4_83 := own_bel (own_made (W := (((((w.alloc (.cells #[.int .i64 0, .bool false, .slice none 0 0, .slice none 0 0, .slice none 0 0, .int .i64 0, .slice a6 s c6, .slice a7 t c7] 32)).alloc (.cells #[.int .i64 s, .int .i64 t, .int .i64 k, .int .i64 z, .int .i64 p, .int .i64 l, .int .i64 e, .bool b, .int .i64 v, .int .i64 r] 24)).alloc (.cells #[.int .i64 0, .bool false, .slice none 0 0, .slice none 0 0, .slice none 0 0, .int .i64 0, .slice none 0 0, .slice none 0 0] 32)).drew.alloc (.cells C3 4)).alloc (.cells #[.int .i64 (-1)] 3))) (B := (w.heap.size + 3)) (e := 48) (g := w.heap.size + 1 + 1 + 1 + 1 + 1) h4s h4l (by omega) (sB) (by first | rfl | (simp; done))) hb83
      refine kT 10 ?_ ?_ ?_
      rotate_left
      · (intro w9 hSw; (try dsimp only at hSw); go_simp <;> with_reducible rfl)
      try simp only [Act.put, tA, tZ, tS]
      refine wpAnyH_ready (rs := [11]) (by kernel_rfl) (by simp) ?_
      refine AllReadyH.cons (by simp only [gA, gZ, gS]; rfl) (fun K hK => ?_) AllReadyH.nil
      go_simp
      refine hK.out _ _ ?_ (fun hHeld2 => ?_)
      · (try dsimp only); exact ⟨by simp [go_sem, p0, zc0, zc1], by simp [go_sem, p1, zc0, zc1]⟩
      clear hK K hHeld
      have hHeld := hHeld2
      clear hHeld2
      try simp only [Act.put, tA, tZ, tS]
      refine kT 12 ?_ ?_ ?_
      rotate_left
      · (intro w9 hSw; (try dsimp only at hSw); go_simp <;> with_reducible rfl)
      try simp only [Act.put, tA, tZ, tS]
      refine wpAnyH_ready (rs := [13]) (by kernel_rfl) (by simp) ?_
      refine AllReadyH.cons (by simp only [gA, gZ, gS]; rfl) (fun K hK => ?_) AllReadyH.nil
      go_simp
      refine hK.out _ _ ?_ (fun hHeld2 => ?_)
      · (try dsimp only); exact ⟨by simp [go_sem, p0, zc0, zc1], by simp [go_sem, p1, zc0, zc1]⟩
      clear hK K hHeld
      have hHeld := hHeld2
      clear hHeld2
      try simp only [Act.put, tA, tZ, tS]
      refine kT 14 ?_ ?_ ?_
      rotate_left
      · (intro w9 hSw; (try dsimp only at hSw); go_simp <;> with_reducible rfl)
      try simp only [Act.put, tA, tZ, tS]
      refine wpAnyH_ready (rs := [15]) (by kernel_rfl) (by simp) ?_
      refine AllReadyH.cons (by simp only [gA, gZ, gS]; rfl) (fun K hK => ?_) AllReadyH.nil
      go_simp
      refine hK.out _ _ ?_ (fun hHeld2 => ?_)
      · (try dsimp only); exact ⟨by simp [go_sem, p0, zc0, zc1], by simp [go_sem, p1, zc0, zc1]⟩
      clear hK K hHeld
      have hHeld := hHeld2
      clear hHeld2
      try simp only [Act.put, tA, tZ, tS]
      refine wpAnyH_done (by kernel_rfl) ?_ _
      go_wp2
      refine bodyPost_ret (v := ckV (.slice a2 s c2) (.slice (some ⟨w.heap.size + 1 + 1 + 1, 0, none⟩) t t) (.slice (some ⟨w.heap.size + 1 + 1 + 1 + 1 + 1, 0, none⟩) t t) (.slice a6 s c6) (.slice a7 t c7)) (by simp (maxDischargeDepth := 9) [results, ckV, Try.results16, go_sem, r0, r1, r2, r3, r4, r5, r6, r7, rf, zc0, zc1, zc2]) rfl ?_
      exact ⟨_, _, _, rfl, (World.ownsRow.mono (base := (w.heap.size + 3)) (by repeat (first | (with_reducible exact (World.ownsRow.mono (base' := (w.heap.size + 3)) o283 (sA))) | (with_reducible refine World.ownsRow.alloc ?_ _) | (with_reducible refine own_setC ?_ (sA)))) (by omega)), (World.ownsRow.mono (base := (w.heap.size + 3)) (by repeat (first | (with_reducible exact O3_83) | (with_reducible refine World.ownsRow.alloc ?_ _) | (with_reducible refine own_setC ?_ (sA)))) (by omega)), (World.ownsRow.mono (base := (w.heap.size + 3)) (by repeat (first | (with_reducible exact O4_83) | (with_reducible refine World.ownsRow.alloc ?_ _) | (with_reducible refine own_setC ?_ (sA)))) (by omega)), (belA)⟩
    refine AllReadyH.cons (by simp only [gA, gZ, gS]; rfl) (fun K hK => ?_) AllReadyH.nil
    go_simp
    refine hK.out _ _ ?_ (fun hHeld2 => ?_)
    · (try dsimp only); exact ⟨by simp [go_sem], by simp [go_sem]⟩
    clear hK K hHeld
    have hHeld := hHeld2
    clear hHeld2
    try simp only [Act.put, tA, tZ, tS]
    refine wpAnyH_ready (rs := [0]) (by kernel_rfl) (by simp) ?_
    refine AllReadyH.cons (by simp only [gA, gZ, gS]; rfl) (fun K hK => ?_) AllReadyH.nil
    go_simp
    refine hK.out _ _ ?_ (fun hHeld2 => ?_)
    · (try dsimp only); exact ⟨by simp [go_sem], by simp [go_sem]⟩
    clear hK K hHeld
    have hHeld := hHeld2
    clear hHeld2
    try simp only [Act.put, tA, tZ, tS]
    refine wpAnyH_ready (rs := [3]) (by kernel_rfl) (by simp) ?_
    refine AllReadyH.cons (by simp only [gA, gZ, gS]; rfl) (fun K hK => ?_) AllReadyH.nil
    go_simp
    (go_at_call 30; refine (repeat_any s (w.heap.size + 1 + 1 + 1 + 1 + 1) hs _ (by simp [go_sem])).mono ?_; rintro e' wc89 ⟨v2, rfl, o289, hb89⟩)
    obtain ⟨a2, c2, rfl⟩ := sliceC o289
    (try go_wp2_with fail)
    have bb89 : Below (w.heap.size + 3) (((w.alloc (.cells #[.int .i64 0, .bool false, .slice none 0 0, .slice none 0 0, .slice none 0 0, .int .i64 0, .slice a6 s c6, .slice a7 t c7] 32)).alloc (.cells #[.int .i64 s, .int .i64 t, .int .i64 k, .int .i64 z, .int .i64 p, .int .i64 l, .int .i64 e, .bool b, .int .i64 v, .int .i64 r] 24)).alloc (.cells #[.int .i64 0, .bool false, .slice none 0 0, .slice none 0 0, .slice none 0 0, .int .i64 0, .slice none 0 0, .slice none 0 0] 32)) wc89 := Below.trans (show Below (w.heap.size + 3) (((w.alloc (.cells #[.int .i64 0, .bool false, .slice none 0 0, .slice none 0 0, .slice none 0 0, .int .i64 0, .slice a6 s c6, .slice a7 t c7] 32)).alloc (.cells #[.int .i64 s, .int .i64 t, .int .i64 k, .int .i64 z, .int .i64 p, .int .i64 l, .int .i64 e, .bool b, .int .i64 v, .int .i64 r] 24)).alloc (.cells #[.int .i64 0, .bool false, .slice none 0 0, .slice none 0 0, .slice none 0 0, .int .i64 0, .slice none 0 0, .slice none 0 0] 32)) ((((((w.alloc (.cells #[.int .i64 0, .bool false, .slice none 0 0, .slice none 0 0, .slice none 0 0, .int .i64 0, .slice a6 s c6, .slice a7 t c7] 32)).alloc (.cells #[.int .i64 s, .int .i64 t, .int .i64 k, .int .i64 z, .int .i64 p, .int .i64 l, .int .i64 e, .bool b, .int .i64 v, .int .i64 r] 24)).alloc (.cells #[.int .i64 0, .bool false, .slice none 0 0, .slice none 0 0, .slice none 0 0, .int .i64 0, .slice none 0 0, .slice none 0 0] 32)).drew.alloc (.cells C3 4)).alloc (.cells C4 48)).alloc (.cells #[.int .i64 (-1)] 3)) from (by repeat (first | (with_reducible exact Below.refl _ _) | (with_reducible refine Below.alloc ?_ (sA) _) | (with_reducible refine Below.drew ?_)))) (hb89.mono (sA))
    have p0 : wc89.cell? ⟨w.heap.size + 1, 0, none⟩ = some (.int .i64 s) := (bb89.cell (p := ⟨w.heap.size + 1, 0, none⟩) (by simp)).trans (by simp [go_sem])
    have p1 : wc89.cell? ⟨w.heap.size + 1, 1, none⟩ = some (.int .i64 t) := (bb89.cell (p := ⟨w.heap.size + 1, 1, none⟩) (by simp)).trans (by simp [go_sem])
    have zc : w.heap.size + 3 ≤ wc89.heap.size := by have h9 := bb89.size; simpa using h9
    have zc0 : w.heap.size < wc89.heap.size := by omega
    have zc1 : w.heap.size + 1 < wc89.heap.size := by omega
    have zc2 : w.heap.size + 1 + 1 < wc89.heap.size := by omega
    have hX : BoxC wc89 w.heap.size (.slice none 0 0) (.slice none 0 0) (.slice none 0 0) (.slice a6 s c6) (.slice a7 t c7) := (bb89.block _ (by omega)).trans hx0
    have hR : BoxC wc89 (w.heap.size + 1 + 1) (.slice none 0 0) (.slice none 0 0) (.slice none 0 0) (.slice none 0 0) (.slice none 0 0) := (bb89.block _ (by omega)).trans hr0
    obtain ⟨⟨x0, x1, x2, x3, x4, x5, x6, x7⟩, xf⟩ := hX.cells
    obtain ⟨⟨r0, r1, r2, r3, r4, r5, r6, r7⟩, rf⟩ := hR.cells
    refine hK.out _ _ ?_ (fun hHeld2 => ?_)
    · (try dsimp only); exact ⟨p0, p1⟩
    clear hK K hHeld
    have hHeld := hHeld2
    clear hHeld2
    try simp only [Act.put, tA, tZ, tS]
    clear hX hR
    have O3_89 := own_bel (World.ownsRow.alloc (World.ownsRow.alloc (own_made (W := (((w.alloc (.cells #[.int .i64 0, .bool false, .slice none 0 0, .slice none 0 0, .slice none 0 0, .int .i64 0, .slice a6 s c6, .slice a7 t c7] 32)).alloc (.cells #[.int .i64 s, .int .i64 t, .int .i64 k, .int .i64 z, .int .i64 p, .int .i64 l, .int .i64 e, .bool b, .int .i64 v, .int .i64 r] 24)).alloc (.cells #[.int .i64 0, .bool false, .slice none 0 0, .slice none 0 0, .slice none 0 0, .int .i64 0, .slice none 0 0, .slice none 0 0] 32)).drew) (B := (w.heap.size + 3)) (e := 4) (g := w.heap.size + 1 + 1 + 1) h3s h3l (by omega) (sB) (by first | rfl | (simp; done))) (.cells C4 48)) (.cells #[.int .i64 (-1)] 3)) hb89
    have O4_89 := own_bel (World.ownsRow.alloc (own_made (W := ((((w.alloc (.cells #[.int .i64 0, .bool false, .slice none 0 0, .slice none 0 0, .slice none 0 0, .int .i64 0, .slice a6 s c6, .slice a7 t c7] 32)).alloc (.cells #[.int .i64 s, .int .i64 t, .int .i64 k, .int .i64 z, .int .i64 p, .int .i64 l, .int .i64 e, .bool b, .int .i64 v, .int .i64 r] 24)).alloc (.cells #[.int .i64 0, .bool false, .slice none 0 0, .slice none 0 0, .slice none 0 0, .int .i64 0, .slice none 0 0, .slice none 0 0] 32)).drew.alloc (.cells C3 4))) (B := (w.heap.size + 3)) (e := 48) (g := w.heap.size + 1 + 1 + 1 + 1) h4s h4l (by omega) (sB) (by first | rfl | (simp; done))) (.cells #[.int .i64 (-1)] 3)) hb89
    refine kT 10 ?_ ?_ ?_
    rotate_left
    · (intro w9 hSw; (try dsimp only at hSw); go_simp <;> with_reducible rfl)
    try simp only [Act.put, tA, tZ, tS]
    refine wpAnyH_ready (rs := [11]) (by kernel_rfl) (by simp) ?_
    refine AllReadyH.cons (by simp only [gA, gZ, gS]; rfl) (fun K hK => ?_) AllReadyH.nil
    go_simp
    refine hK.out _ _ ?_ (fun hHeld2 => ?_)
    · (try dsimp only); exact ⟨by simp [go_sem, p0, zc0, zc1], by simp [go_sem, p1, zc0, zc1]⟩
    clear hK K hHeld
    have hHeld := hHeld2
    clear hHeld2
    try simp only [Act.put, tA, tZ, tS]
    refine kT 12 ?_ ?_ ?_
    rotate_left
    · (intro w9 hSw; (try dsimp only at hSw); go_simp <;> with_reducible rfl)
    try simp only [Act.put, tA, tZ, tS]
    refine wpAnyH_ready (rs := [13]) (by kernel_rfl) (by simp) ?_
    refine AllReadyH.cons (by simp only [gA, gZ, gS]; rfl) (fun K hK => ?_) AllReadyH.nil
    go_simp
    refine hK.out _ _ ?_ (fun hHeld2 => ?_)
    · (try dsimp only); exact ⟨by simp [go_sem, p0, zc0, zc1], by simp [go_sem, p1, zc0, zc1]⟩
    clear hK K hHeld
    have hHeld := hHeld2
    clear hHeld2
    try simp only [Act.put, tA, tZ, tS]
    refine kT 14 ?_ ?_ ?_
    rotate_left
    · (intro w9 hSw; (try dsimp only at hSw); go_simp <;> with_reducible rfl)
    try simp only [Act.put, tA, tZ, tS]
    refine wpAnyH_ready (rs := [15]) (by kernel_rfl) (by simp) ?_
    refine AllReadyH.cons (by simp only [gA, gZ, gS]; rfl) (fun K hK => ?_) AllReadyH.nil
    go_simp
    refine hK.out _ _ ?_ (fun hHeld2 => ?_)
    · (try dsimp only); exact ⟨by simp [go_sem, p0, zc0, zc1], by simp [go_sem, p1, zc0, zc1]⟩
    clear hK K hHeld
    have hHeld := hHeld2
    clear hHeld2
    try simp only [Act.put, tA, tZ, tS]
    refine wpAnyH_done (by kernel_rfl) ?_ _
    go_wp2
    refine bodyPost_ret (v := ckV (.slice a2 s c2) (.slice (some ⟨w.heap.size + 1 + 1 + 1, 0, none⟩) t t) (.slice (some ⟨w.heap.size + 1 + 1 + 1 + 1, 0, none⟩) t t) (.slice a6 s c6) (.slice a7 t c7)) (by simp (maxDischargeDepth := 9) [results, ckV, Try.results16, go_sem, r0, r1, r2, r3, r4, r5, r6, r7, rf, zc0, zc1, zc2]) rfl ?_
    exact ⟨_, _, _, rfl, (World.ownsRow.mono (base := (w.heap.size + 3)) (by repeat (first | (with_reducible exact (World.ownsRow.mono (base' := (w.heap.size + 3)) o289 (sA))) | (with_reducible refine World.ownsRow.alloc ?_ _) | (with_reducible refine own_setC ?_ (sA)))) (by omega)), (World.ownsRow.mono (base := (w.heap.size + 3)) (by repeat (first | (with_reducible exact O3_89) | (with_reducible refine World.ownsRow.alloc ?_ _) | (with_reducible refine own_setC ?_ (sA)))) (by omega)), (World.ownsRow.mono (base := (w.heap.size + 3)) (by repeat (first | (with_reducible exact O4_89) | (with_reducible refine World.ownsRow.alloc ?_ _) | (with_reducible refine own_setC ?_ (sA)))) (by omega)), (belA)⟩
  refine AllReadyH.cons (by simp only [gA, gZ, gS]; rfl) (fun K hK => ?_) AllReadyH.nil
  go_simp
  refine hK.out _ _ ?_ (fun hHeld2 => ?_)
  · (try dsimp only); exact ⟨by simp [go_sem], by simp [go_sem]⟩
  clear hK K hHeld
  have hHeld := hHeld2
  clear hHeld2
  try simp only [Act.put, tA, tZ, tS]
  refine wpAnyH_ready (rs := [0, 6]) (by kernel_rfl) (by simp) ?_
  refine AllReadyH.cons (by simp only [gA, gZ, gS]; rfl) (fun K hK => ?_) ?_
  · go_simp
    refine hK.out _ _ ?_ (fun hHeld2 => ?_)
    · (try dsimp only); exact ⟨by simp [go_sem], by simp [go_sem]⟩
    clear hK K hHeld
    have hHeld := hHeld2
    clear hHeld2
    try simp only [Act.put, tA, tZ, tS]
    refine wpAnyH_ready (rs := [3, 6]) (by kernel_rfl) (by simp) ?_
    refine AllReadyH.cons (by simp only [gA, gZ, gS]; rfl) (fun K hK => ?_) ?_
    · go_simp
      (go_at_call 30; refine (repeat_any s (w.heap.size + 1 + 1 + 1 + 1) hs _ (by simp [go_sem])).mono ?_; rintro e' wc95 ⟨v2, rfl, o295, hb95⟩)
      obtain ⟨a2, c2, rfl⟩ := sliceC o295
      (try go_wp2_with fail)
      have bb95 : Below (w.heap.size + 3) (((w.alloc (.cells #[.int .i64 0, .bool false, .slice none 0 0, .slice none 0 0, .slice none 0 0, .int .i64 0, .slice a6 s c6, .slice a7 t c7] 32)).alloc (.cells #[.int .i64 s, .int .i64 t, .int .i64 k, .int .i64 z, .int .i64 p, .int .i64 l, .int .i64 e, .bool b, .int .i64 v, .int .i64 r] 24)).alloc (.cells #[.int .i64 0, .bool false, .slice none 0 0, .slice none 0 0, .slice none 0 0, .int .i64 0, .slice none 0 0, .slice none 0 0] 32)) wc95 := Below.trans (show Below (w.heap.size + 3) (((w.alloc (.cells #[.int .i64 0, .bool false, .slice none 0 0, .slice none 0 0, .slice none 0 0, .int .i64 0, .slice a6 s c6, .slice a7 t c7] 32)).alloc (.cells #[.int .i64 s, .int .i64 t, .int .i64 k, .int .i64 z, .int .i64 p, .int .i64 l, .int .i64 e, .bool b, .int .i64 v, .int .i64 r] 24)).alloc (.cells #[.int .i64 0, .bool false, .slice none 0 0, .slice none 0 0, .slice none 0 0, .int .i64 0, .slice none 0 0, .slice none 0 0] 32)) (((((w.alloc (.cells #[.int .i64 0, .bool false, .slice none 0 0, .slice none 0 0, .slice none 0 0, .int .i64 0, .slice a6 s c6, .slice a7 t c7] 32)).alloc (.cells #[.int .i64 s, .int .i64 t, .int .i64 k, .int .i64 z, .int .i64 p, .int .i64 l, .int .i64 e, .bool b, .int .i64 v, .int .i64 r] 24)).alloc (.cells #[.int .i64 0, .bool false, .slice none 0 0, .slice none 0 0, .slice none 0 0, .int .i64 0, .slice none 0 0, .slice none 0 0] 32)).drew.alloc (.cells C4 48)).alloc (.cells #[.int .i64 (-1)] 3)) from (by repeat (first | (with_reducible exact Below.refl _ _) | (with_reducible refine Below.alloc ?_ (sA) _) | (with_reducible refine Below.drew ?_)))) (hb95.mono (sA))
      have p0 : wc95.cell? ⟨w.heap.size + 1, 0, none⟩ = some (.int .i64 s) := (bb95.cell (p := ⟨w.heap.size + 1, 0, none⟩) (by simp)).trans (by simp [go_sem])
      have p1 : wc95.cell? ⟨w.heap.size + 1, 1, none⟩ = some (.int .i64 t) := (bb95.cell (p := ⟨w.heap.size + 1, 1, none⟩) (by simp)).trans (by simp [go_sem])
      have zc : w.heap.size + 3 ≤ wc95.heap.size := by have h9 := bb95.size; simpa using h9
      have zc0 : w.heap.size < wc95.heap.size := by omega
      have zc1 : w.heap.size + 1 < wc95.heap.size := by omega
      have zc2 : w.heap.size + 1 + 1 < wc95.heap.size := by omega
      have hX : BoxC wc95 w.heap.size (.slice none 0 0) (.slice none 0 0) (.slice none 0 0) (.slice a6 s c6) (.slice a7 t c7) := (bb95.block _ (by omega)).trans hx0
      have hR : BoxC wc95 (w.heap.size + 1 + 1) (.slice none 0 0) (.slice none 0 0) (.slice none 0 0) (.slice none 0 0) (.slice none 0 0) := (bb95.block _ (by omega)).trans hr0
      obtain ⟨⟨x0, x1, x2, x3, x4, x5, x6, x7⟩, xf⟩ := hX.cells
      obtain ⟨⟨r0, r1, r2, r3, r4, r5, r6, r7⟩, rf⟩ := hR.cells
      refine hK.out _ _ ?_ (fun hHeld2 => ?_)
      · (try dsimp only); exact ⟨p0, p1⟩
      clear hK K hHeld
      have hHeld := hHeld2
      clear hHeld2
      try simp only [Act.put, tA, tZ, tS]
      clear hX hR
      have O4_95 := own_bel (World.ownsRow.alloc (own_made (W := (((w.alloc (.cells #[.int .i64 0, .bool false, .slice none 0 0, .slice none 0 0, .slice none 0 0, .int .i64 0, .slice a6 s c6, .slice a7 t c7] 32)).alloc (.cells #[.int .i64 s, .int .i64 t, .int .i64 k, .int .i64 z, .int .i64 p, .int .i64 l, .int .i64 e, .bool b, .int .i64 v, .int .i64 r] 24)).alloc (.cells #[.int .i64 0, .bool false, .slice none 0 0, .slice none 0 0, .slice none 0 0, .int .i64 0, .slice none 0 0, .slice none 0 0] 32)).drew) (B := (w.heap.size + 3)) (e := 48) (g := w.heap.size + 1 + 1 + 1) h4s h4l (by omega) (sB) (by first | rfl | (simp; done))) (.cells #[.int .i64 (-1)] 3)) hb95
      refine kT 10 ?_ ?_ ?_
      rotate_left
      · (intro w9 hSw; (try dsimp only at hSw); go_simp <;> with_reducible rfl)
      try simp only [Act.put, tA, tZ, tS]
      refine wpAnyH_ready (rs := [6, 11]) (by kernel_rfl) (by simp) ?_
      refine AllReadyH.cons (by simp only [gA, gZ, gS]; rfl) (fun K hK => ?_) ?_
      · go_simp
        refine hK.out _ _ ?_ (fun hHeld2 => ?_)
        · (try dsimp only); exact ⟨by simp [go_sem, p0, zc0, zc1], by simp [go_sem, p1, zc0, zc1]⟩
        clear hK K hHeld
        have hHeld := hHeld2
        clear hHeld2
        try simp only [Act.put, tA, tZ, tS]
        refine wpAnyH_ready (rs := [11]) (by kernel_rfl) (by simp) ?_
        refine AllReadyH.cons (by simp only [gA, gZ, gS]; rfl) (fun K hK => ?_) AllReadyH.nil
        go_simp
        refine hK.out _ _ ?_ (fun hHeld2 => ?_)
        · (try dsimp only); exact ⟨by simp [go_sem, p0, zc0, zc1], by simp [go_sem, p1, zc0, zc1]⟩
        clear hK K hHeld
        have hHeld := hHeld2
        clear hHeld2
        try simp only [Act.put, tA, tZ, tS]
        refine kT 12 ?_ ?_ ?_
        rotate_left
        · (intro w9 hSw; (try dsimp only at hSw); go_simp <;> with_reducible rfl)
        try simp only [Act.put, tA, tZ, tS]
        refine wpAnyH_ready (rs := [13]) (by kernel_rfl) (by simp) ?_
        refine AllReadyH.cons (by simp only [gA, gZ, gS]; rfl) (fun K hK => ?_) AllReadyH.nil
        go_simp
        refine hK.out _ _ ?_ (fun hHeld2 => ?_)
        · (try dsimp only); exact ⟨by simp [go_sem, p0, zc0, zc1], by simp [go_sem, p1, zc0, zc1]⟩
        clear hK K hHeld
        have hHeld := hHeld2
        clear hHeld2
        try simp only [Act.put, tA, tZ, tS]
        refine kT 14 ?_ ?_ ?_
        rotate_left
        · (intro w9 hSw; (try dsimp only at hSw); go_simp <;> with_reducible rfl)
        try simp only [Act.put, tA, tZ, tS]
        refine wpAnyH_ready (rs := [15]) (by kernel_rfl) (by simp) ?_
        refine AllReadyH.cons (by simp only [gA, gZ, gS]; rfl) (fun K hK => ?_) AllReadyH.nil
        go_simp
        refine hK.out _ _ ?_ (fun hHeld2 => ?_)
        · (try dsimp only); exact ⟨by simp [go_sem, p0, zc0, zc1], by simp [go_sem, p1, zc0, zc1]⟩
        clear hK K hHeld
        have hHeld := hHeld2
        clear hHeld2
        try simp only [Act.put, tA, tZ, tS]
        refine wpAnyH_done (by kernel_rfl) ?_ _
        go_wp2
        refine bodyPost_ret (v := ckV (.slice a2 s c2) (.slice (some ⟨wc95.heap.size, 0, none⟩) t t) (.slice (some ⟨w.heap.size + 1 + 1 + 1, 0, none⟩) t t) (.slice a6 s c6) (.slice a7 t c7)) (by simp (maxDischargeDepth := 9) [results, ckV, Try.results16, go_sem, r0, r1, r2, r3, r4, r5, r6, r7, rf, zc0, zc1, zc2]) rfl ?_
        exact ⟨_, _, _, rfl, (World.ownsRow.mono (base := (w.heap.size + 3)) (by repeat (first | (with_reducible exact (World.ownsRow.mono (base' := (w.heap.size + 3)) o295 (sA))) | (with_reducible refine World.ownsRow.alloc ?_ _) | (with_reducible refine own_setC ?_ (sA)))) (by omega)), (World.ownsRow.mono (base := (w.heap.size + 3)) (by repeat (first | (with_reducible refine own_made (B := (w.heap.size + 3)) (e := 4) h3s h3l (by omega) (sB) (by first | rfl | (simp; done))) | (with_reducible refine World.ownsRow.alloc ?_ _) | (with_reducible refine own_setC ?_ (sA)))) (by omega)), (World.ownsRow.mono (base := (w.heap.size + 3)) (by repeat (first | (with_reducible exact O4_95) | (with_reducible refine World.ownsRow.alloc ?_ _) | (with_reducible refine own_setC ?_ (sA)))) (by omega)), (belA)⟩
      refine AllReadyH.cons (by simp only [gA, gZ, gS]; rfl) (fun K hK => ?_) AllReadyH.nil
      go_simp
      refine hK.out _ _ ?_ (fun hHeld2 => ?_)
      · (try dsimp only); exact ⟨by simp [go_sem, p0, zc0, zc1], by simp [go_sem, p1, zc0, zc1]⟩
      clear hK K hHeld
      have hHeld := hHeld2
      clear hHeld2
      try simp only [Act.put, tA, tZ, tS]
      refine wpAnyH_ready (rs := [6]) (by kernel_rfl) (by simp) ?_
      refine AllReadyH.cons (by simp only [gA, gZ, gS]; rfl) (fun K hK => ?_) AllReadyH.nil
      go_simp
      refine hK.out _ _ ?_ (fun hHeld2 => ?_)
      · (try dsimp only); exact ⟨by simp [go_sem, p0, zc0, zc1], by simp [go_sem, p1, zc0, zc1]⟩
      clear hK K hHeld
      have hHeld := hHeld2
      clear hHeld2
      try simp only [Act.put, tA, tZ, tS]
      refine kT 12 ?_ ?_ ?_
      rotate_left
      · (intro w9 hSw; (try dsimp only at hSw); go_simp <;> with_reducible rfl)
      try simp only [Act.put, tA, tZ, tS]
      refine wpAnyH_ready (rs := [13]) (by kernel_rfl) (by simp) ?_
      refine AllReadyH.cons (by simp only [gA, gZ, gS]; rfl) (fun K hK => ?_) AllReadyH.nil
      go_simp
      refine hK.out _ _ ?_ (fun hHeld2 => ?_)
      · (try dsimp only); exact ⟨by simp [go_sem, p0, zc0, zc1], by simp [go_sem, p1, zc0, zc1]⟩
      clear hK K hHeld
      have hHeld := hHeld2
      clear hHeld2
      try simp only [Act.put, tA, tZ, tS]
      refine kT 14 ?_ ?_ ?_
      rotate_left
      · (intro w9 hSw; (try dsimp only at hSw); go_simp <;> with_reducible rfl)
      try simp only [Act.put, tA, tZ, tS]
      refine wpAnyH_ready (rs := [15]) (by kernel_rfl) (by simp) ?_
      refine AllReadyH.cons (by simp only [gA, gZ, gS]; rfl) (fun K hK => ?_) AllReadyH.nil
      go_simp
      refine hK.out _ _ ?_ (fun hHeld2 => ?_)
      · (try dsimp only); exact ⟨by simp [go_sem, p0, zc0, zc1], by simp [go_sem, p1, zc0, zc1]⟩
      clear hK K hHeld
      have hHeld := hHeld2
      clear hHeld2
      try simp only [Act.put, tA, tZ, tS]
      refine wpAnyH_done (by kernel_rfl) ?_ _
      go_wp2
      refine bodyPost_ret (v := ckV (.slice a2 s c2) (.slice (some ⟨wc95.heap.size, 0, none⟩) t t) (.slice (some ⟨w.heap.size + 1 + 1 + 1, 0, none⟩) t t) (.slice a6 s c6) (.slice a7 t c7)) (by simp (maxDischargeDepth := 9) [results, ckV, Try.results16, go_sem, r0, r1, r2, r3, r4, r5, r6, r7, rf, zc0, zc1, zc2]) rfl ?_
      exact ⟨_, _, _, rfl, (World.ownsRow.mono (base := (w.heap.size + 3)) (by repeat (first | (with_reducible exact (World.ownsRow.mono (base' := (w.heap.size + 3)) o295 (sA))) | (with_reducible refine World.ownsRow.alloc ?_ _) | (with_reducible refine own_setC ?_ (sA)))) (by omega)), (World.ownsRow.mono (base := (w.heap.size + 3)) (by repeat (first | (with_reducible refine own_made (B := (w.heap.size + 3)) (e := 4) h3s h3l (by omega) (sB) (by first | rfl | (simp; done))) | (with_reducible refine World.ownsRow.alloc ?_ _) | (with_reducible refine own_setC ?_ (sA)))) (by omega)), (World.ownsRow.mono (base := (w.heap.size + 3)) (by repeat (first | (with_reducible exact O4_95) | (with_reducible refine World.ownsRow.alloc ?_ _) | (with_reducible refine own_setC ?_ (sA)))) (by omega)), (belA)⟩
    refine AllReadyH.cons (by simp only [gA, gZ, gS]; rfl) (fun K hK => ?_) AllReadyH.nil
    go_simp
    refine hK.out _ _ ?_ (fun hHeld2 => ?_)
    · (try dsimp only); exact ⟨by simp [go_sem], by simp [go_sem]⟩
    clear hK K hHeld
    have hHeld := hHeld2
    clear hHeld2
    try simp only [Act.put, tA, tZ, tS]
    refine wpAnyH_ready (rs := [3]) (by kernel_rfl) (by simp) ?_
    refine AllReadyH.cons (by simp only [gA, gZ, gS]; rfl) (fun K hK => ?_) AllReadyH.nil
    go_simp
    (go_at_call 30; refine (repeat_any s (w.heap.size + 1 + 1 + 1 + 1) hs _ (by simp [go_sem])).mono ?_; rintro e' wc105 ⟨v2, rfl, o2105, hb105⟩)
    obtain ⟨a2, c2, rfl⟩ := sliceC o2105
    (try go_wp2_with fail)
    have bb105 : Below (w.heap.size + 3) (((w.alloc (.cells #[.int .i64 0, .bool false, .slice none 0 0, .slice none 0 0, .slice none 0 0, .int .i64 0, .slice a6 s c6, .slice a7 t c7] 32)).alloc (.cells #[.int .i64 s, .int .i64 t, .int .i64 k, .int .i64 z, .int .i64 p, .int .i64 l, .int .i64 e, .bool b, .int .i64 v, .int .i64 r] 24)).alloc (.cells #[.int .i64 0, .bool false, .slice none 0 0, .slice none 0 0, .slice none 0 0, .int .i64 0, .slice none 0 0, .slice none 0 0] 32)) wc105 := Below.trans (show Below (w.heap.size + 3) (((w.alloc (.cells #[.int .i64 0, .bool false, .slice none 0 0, .slice none 0 0, .slice none 0 0, .int .i64 0, .slice a6 s c6, .slice a7 t c7] 32)).alloc (.cells #[.int .i64 s, .int .i64 t, .int .i64 k, .int .i64 z, .int .i64 p, .int .i64 l, .int .i64 e, .bool b, .int .i64 v, .int .i64 r] 24)).alloc (.cells #[.int .i64 0, .bool false, .slice none 0 0, .slice none 0 0, .slice none 0 0, .int .i64 0, .slice none 0 0, .slice none 0 0] 32)) ((((((w.alloc (.cells #[.int .i64 0, .bool false, .slice none 0 0, .slice none 0 0, .slice none 0 0, .int .i64 0, .slice a6 s c6, .slice a7 t c7] 32)).alloc (.cells #[.int .i64 s, .int .i64 t, .int .i64 k, .int .i64 z, .int .i64 p, .int .i64 l, .int .i64 e, .bool b, .int .i64 v, .int .i64 r] 24)).alloc (.cells #[.int .i64 0, .bool false, .slice none 0 0, .slice none 0 0, .slice none 0 0, .int .i64 0, .slice none 0 0, .slice none 0 0] 32)).drew.alloc (.cells C4 48)).alloc (.cells #[.int .i64 (-1)] 3)).alloc (.cells C3 4)) from (by repeat (first | (with_reducible exact Below.refl _ _) | (with_reducible refine Below.alloc ?_ (sA) _) | (with_reducible refine Below.drew ?_)))) (hb105.mono (sA))
    have p0 : wc105.cell? ⟨w.heap.size + 1, 0, none⟩ = some (.int .i64 s) := (bb105.cell (p := ⟨w.heap.size + 1, 0, none⟩) (by simp)).trans (by simp [go_sem])
    have p1 : wc105.cell? ⟨w.heap.size + 1, 1, none⟩ = some (.int .i64 t) := (bb105.cell (p := ⟨w.heap.size + 1, 1, none⟩) (by simp)).trans (by simp [go_sem])
    have zc : w.heap.size + 3 ≤ wc105.heap.size := by have h9 := bb105.size; simpa using h9
    have zc0 : w.heap.size < wc105.heap.size := by omega
    have zc1 : w.heap.size + 1 < wc105.heap.size := by omega
    have zc2 : w.heap.size + 1 + 1 < wc105.heap.size := by omega
    have hX : BoxC wc105 w.heap.size (.slice none 0 0) (.slice none 0 0) (.slice none 0 0) (.slice a6 s c6) (.slice a7 t c7) := (bb105.block _ (by omega)).trans hx0
    have hR : BoxC wc105 (w.heap.size + 1 + 1) (.slice none 0 0) (.slice none 0 0) (.slice none 0 0) (.slice none 0 0) (.slice none 0 0) := (bb105.block _ (by omega)).trans hr0
    obtain ⟨⟨x0, x1, x2, x3, x4, x5, x6, x7⟩, xf⟩ := hX.cells
    obtain ⟨⟨r0, r1, r2, r3, r4, r5, r6, r7⟩, rf⟩ := hR.cells
    refine hK.out _ _ ?_ (fun hHeld2 => ?_)
    · (try dsimp only); exact ⟨p0, p1⟩
    clear hK K hHeld
    have hHeld := hHeld2
    clear hHeld2
    try simp only [Act.put, tA, tZ, tS]
    clear hX hR
    have O4_105 := own_bel (World.ownsRow.alloc (World.ownsRow.alloc (own_made (W := (((w.alloc (.cells #[.int .i64 0, .bool false, .slice none 0 0, .slice none 0 0, .slice none 0 0, .int .i64 0, .slice a6 s c6, .slice a7 t c7] 32)).alloc (.cells #[.int .i64 s, .int .i64 t, .int .i64 k, .int .i64 z, .int .i64 p, .int .i64 l, .int .i64 e, .bool b, .int .i64 v, .int .i64 r] 24)).alloc (.cells #[.int .i64 0, .bool false, .slice none 0 0, .slice none 0 0, .slice none 0 0, .int .i64 0, .slice none 0 0, .slice none 0 0] 32)).drew) (B := (w.heap.size + 3)) (e := 48) (g := w.heap.size + 1 + 1 + 1) h4s h4l (by omega) (sB) (by first | rfl | (simp; done))) (.cells #[.int .i64 (-1)] 3)) (.cells C3 4)) hb105
    have O3_105 := own_bel (own_made (W := (((((w.alloc (.cells #[.int .i64 0, .bool false, .slice none 0 0, .slice none 0 0, .slice none 0 0, .int .i64 0, .slice a6 s c6, .slice a7 t c7] 32)).alloc (.cells #[.int .i64 s, .int .i64 t, .int .i64 k, .int .i64 z, .int .i64 p, .int .i64 l, .int .i64 e, .bool b, .int .i64 v, .int .i64 r] 24)).alloc (.cells #[.int .i64 0, .bool false, .slice none 0 0, .slice none 0 0, .slice none 0 0, .int .i64 0, .slice none 0 0, .slice none 0 0] 32)).drew.alloc (.cells C4 48)).alloc (.cells #[.int .i64 (-1)] 3))) (B := (w.heap.size + 3)) (e := 4) (g := w.heap.size + 1 + 1 + 1 + 1 + 1) h3s h3l (by omega) (sB) (by first | rfl | (simp; done))) hb105
    refine kT 10 ?_ ?_ ?_
    rotate_left
    · (intro w9 hSw; (try dsimp only at hSw); go_simp <;> with_reducible rfl)
    try simp only [Act.put, tA, tZ, tS]
    refine wpAnyH_ready (rs := [11]) (by kernel_rfl) (by simp) ?_
    refine AllReadyH.cons (by simp only [gA, gZ, gS]; rfl) (fun K hK => ?_) AllReadyH.nil
    go_simp
    refine hK.out _ _ ?_ (fun hHeld2 => ?_)
    · (try dsimp only); exact ⟨by simp [go_sem, p0, zc0, zc1], by simp [go_sem, p1, zc0, zc1]⟩
    clear hK K hHeld
    have hHeld := hHeld2
    clear hHeld2
    try simp only [Act.put, tA, tZ, tS]
    refine kT 12 ?_ ?_ ?_
    rotate_left
    · (intro w9 hSw; (try dsimp only at hSw); go_simp <;> with_reducible rfl)
    try simp only [Act.put, tA, tZ, tS]
    refine wpAnyH_ready (rs := [13]) (by kernel_rfl) (by simp) ?_
    refine AllReadyH.cons (by simp only [gA, gZ, gS]; rfl) (fun K hK => ?_) AllReadyH.nil
    go_simp
    refine hK.out _ _ ?_ (fun hHeld2 => ?_)
    · (try dsimp only); exact ⟨by simp [go_sem, p0, zc0, zc1], by simp [go_sem, p1, zc0, zc1]⟩
    clear hK K hHeld
    have hHeld := hHeld2
    clear hHeld2
    try simp only [Act.put, tA, tZ, tS]
    refine kT 14 ?_ ?_ ?_
    rotate_left
    · (intro w9 hSw; (try dsimp only at hSw); go_simp <;> with_reducible rfl)
    try simp only [Act.put, tA, tZ, tS]
    refine wpAnyH_ready (rs := [15]) (by kernel_rfl) (by simp) ?_
    refine AllReadyH.cons (by simp only [gA, gZ, gS]; rfl) (fun K hK => ?_) AllReadyH.nil
    go_simp
    refine hK.out _ _ ?_ (fun hHeld2 => ?_)
    · (try dsimp only); exact ⟨by simp [go_sem, p0, zc0, zc1], by simp [go_sem, p1, zc0, zc1]⟩
    clear hK K hHeld
    have hHeld := hHeld2
    clear hHeld2
    try simp only [Act.put, tA, tZ, tS]
    refine wpAnyH_done (by kernel_rfl) ?_ _
    go_wp2
    refine bodyPost_ret (v := ckV (.slice a2 s c2) (.slice (some ⟨w.heap.size + 1 + 1 + 1 + 1 + 1, 0, none⟩) t t) (.slice (some ⟨w.heap.size + 1 + 1 + 1, 0, none⟩) t t) (.slice a6 s c6) (.slice a7 t c7)) (by simp (maxDischargeDepth := 9) [results, ckV, Try.results16, go_sem, r0, r1, r2, r3, r4, r5, r6, r7, rf, zc0, zc1, zc2]) rfl ?_
    exact ⟨_, _, _, rfl, (World.ownsRow.mono (base := (w.heap.size + 3)) (by repeat (first | (with_reducible exact (World.ownsRow.mono (base' := (w.heap.size + 3)) o2105 (sA))) | (with_reducible refine World.ownsRow.alloc ?_ _) | (with_reducible refine own_setC ?_ (sA)))) (by omega)), (World.ownsRow.mono (base := (w.heap.size + 3)) (by repeat (first | (with_reducible exact O3_105) | (with_reducible refine World.ownsRow.alloc ?_ _) | (with_reducible refine own_setC ?_ (sA)))) (by omega)), (World.ownsRow.mono (base := (w.heap.size + 3)) (by repeat (first | (with_reducible exact O4_105) | (with_reducible refine World.ownsRow.alloc ?_ _) | (with_reducible refine own_setC ?_ (sA)))) (by omega)), (belA)⟩
  refine AllReadyH.cons (by simp only [gA, gZ, gS]; rfl) (fun K hK => ?_) AllReadyH.nil
  go_simp
  refine hK.out _ _ ?_ (fun hHeld2 => ?_)
  · (try dsimp only); exact ⟨by simp [go_sem], by simp [go_sem]⟩
  clear hK K hHeld
  have hHeld := hHeld2
  clear hHeld2
  try simp only [Act.put, tA, tZ, tS]
  refine wpAnyH_ready (rs := [0]) (by kernel_rfl) (by simp) ?_
  refine AllReadyH.cons (by simp only [gA, gZ, gS]; rfl) (fun K hK => ?_) AllReadyH.nil
  go_simp
  refine hK.out _ _ ?_ (fun hHeld2 => ?_)
  · (try dsimp only); exact ⟨by simp [go_sem], by simp [go_sem]⟩
  clear hK K hHeld
  have hHeld := hHeld2
  clear hHeld2
  try simp only [Act.put, tA, tZ, tS]
  refine wpAnyH_ready (rs := [3]) (by kernel_rfl) (by simp) ?_
  refine AllReadyH.cons (by simp only [gA, gZ, gS]; rfl) (fun K hK => ?_) AllReadyH.nil
  go_simp
  (go_at_call 30; refine (repeat_any s (w.heap.size + 1 + 1 + 1 + 1 + 1) hs _ (by simp [go_sem])).mono ?_; rintro e' wc111 ⟨v2, rfl, o2111, hb111⟩)
  obtain ⟨a2, c2, rfl⟩ := sliceC o2111
  (try go_wp2_with fail)
  have bb111 : Below (w.heap.size + 3) (((w.alloc (.cells #[.int .i64 0, .bool false, .slice none 0 0, .slice none 0 0, .slice none 0 0, .int .i64 0, .slice a6 s c6, .slice a7 t c7] 32)).alloc (.cells #[.int .i64 s, .int .i64 t, .int .i64 k, .int .i64 z, .int .i64 p, .int .i64 l, .int .i64 e, .bool b, .int .i64 v, .int .i64 r] 24)).alloc (.cells #[.int .i64 0, .bool false, .slice none 0 0, .slice none 0 0, .slice none 0 0, .int .i64 0, .slice none 0 0, .slice none 0 0] 32)) wc111 := Below.trans (show Below (w.heap.size + 3) (((w.alloc (.cells #[.int .i64 0, .bool false, .slice none 0 0, .slice none 0 0, .slice none 0 0, .int .i64 0, .slice a6 s c6, .slice a7 t c7] 32)).alloc (.cells #[.int .i64 s, .int .i64 t, .int .i64 k, .int .i64 z, .int .i64 p, .int .i64 l, .int .i64 e, .bool b, .int .i64 v, .int .i64 r] 24)).alloc (.cells #[.int .i64 0, .bool false, .slice none 0 0, .slice none 0 0, .slice none 0 0, .int .i64 0, .slice none 0 0, .slice none 0 0] 32)) ((((((w.alloc (.cells #[.int .i64 0, .bool false, .slice none 0 0, .slice none 0 0, .slice none 0 0, .int .i64 0, .slice a6 s c6, .slice a7 t c7] 32)).alloc (.cells #[.int .i64 s, .int .i64 t, .int .i64 k, .int .i64 z, .int .i64 p, .int .i64 l, .int .i64 e, .bool b, .int .i64 v, .int .i64 r] 24)).alloc (.cells #[.int .i64 0, .bool false, .slice none 0 0, .slice none 0 0, .slice none 0 0, .int .i64 0, .slice none 0 0, .slice none 0 0] 32)).drew.alloc (.cells C4 48)).alloc (.cells C3 4)).alloc (.cells #[.int .i64 (-1)] 3)) from (by repeat (first | (with_reducible exact Below.refl _ _) | (with_reducible refine Below.alloc ?_ (sA) _) | (with_reducible refine Below.drew ?_)))) (hb111.mono (sA))
  have p0 : wc111.cell? ⟨w.heap.size + 1, 0, none⟩ = some (.int .i64 s) := (bb111.cell (p := ⟨w.heap.size + 1, 0, none⟩) (by simp)).trans (by simp [go_sem])
  have p1 : wc111.cell? ⟨w.heap.size + 1, 1, none⟩ = some (.int .i64 t) := (bb111.cell (p := ⟨w.heap.size + 1, 1, none⟩) (by simp)).trans (by simp [go_sem])
  have zc : w.heap.size + 3 ≤ wc111.heap.size := by have h9 := bb111.size; simpa using h9
  have zc0 : w.heap.size < wc111.heap.size := by omega
  have zc1 : w.heap.size + 1 < wc111.heap.size := by omega
  have zc2 : w.heap.size + 1 + 1 < wc111.heap.size := by omega
  have hX : BoxC wc111 w.heap.size (.slice none 0 0) (.slice none 0 0) (.slice none 0 0) (.slice a6 s c6) (.slice a7 t c7) := (bb111.block _ (by omega)).trans hx0
  have hR : BoxC wc111 (w.heap.size + 1 + 1) (.slice none 0 0) (.slice none 0 0) (.slice none 0 0) (.slice none 0 0) (.slice none 0 0) := (bb111.block _ (by omega)).trans hr0
  obtain ⟨⟨x0, x1, x2, x3, x4, x5, x6, x7⟩, xf⟩ := hX.cells
  obtain ⟨⟨r0, r1, r2, r3, r4, r5, r6, r7⟩, rf⟩ := hR.cells
  refine hK.out _ _ ?_ (fun hHeld2 => ?_)
  · (try dsimp only); exact ⟨p0, p1⟩
  clear hK K hHeld
  have hHeld := hHeld2
  clear hHeld2
  try simp only [Act.put, tA, tZ, tS]
  clear hX hR
  have O4_111 := own_bel (World.ownsRow.alloc (World.ownsRow.alloc (own_made (W := (((w.alloc (.cells #[.int .i64 0, .bool false, .slice none 0 0, .slice none 0 0, .slice none 0 0, .int .i64 0, .slice a6 s c6, .slice a7 t c7] 32)).alloc (.cells #[.int .i64 s, .int .i64 t, .int .i64 k, .int .i64 z, .int .i64 p, .int .i64 l, .int .i64 e, .bool b, .int .i64 v, .int .i64 r] 24)).alloc (.cells #[.int .i64 0, .bool false, .slice none 0 0, .slice none 0 0, .slice none 0 0, .int .i64 0, .slice none 0 0, .slice none 0 0] 32)).drew) (B := (w.heap.size + 3)) (e := 48) (g := w.heap.size + 1 + 1 + 1) h4s h4l (by omega) (sB) (by first | rfl | (simp; done))) (.cells C3 4)) (.cells #[.int .i64 (-1)] 3)) hb111
  have O3_111 := own_bel (World.ownsRow.alloc (own_made (W := ((((w.alloc (.cells #[.int .i64 0, .bool false, .slice none 0 0, .slice none 0 0, .slice none 0 0, .int .i64 0, .slice a6 s c6, .slice a7 t c7] 32)).alloc (.cells #[.int .i64 s, .int .i64 t, .int .i64 k, .int .i64 z, .int .i64 p, .int .i64 l, .int .i64 e, .bool b, .int .i64 v, .int .i64 r] 24)).alloc (.cells #[.int .i64 0, .bool false, .slice none 0 0, .slice none 0 0, .slice none 0 0, .int .i64 0, .slice none 0 0, .slice none 0 0] 32)).drew.alloc (.cells C4 48))) (B := (w.heap.size + 3)) (e := 4) (g := w.heap.size + 1 + 1 + 1 + 1) h3s h3l (by omega) (sB) (by first | rfl | (simp; done))) (.cells #[.int .i64 (-1)] 3)) hb111
  refine kT 10 ?_ ?_ ?_
  rotate_left
  · (intro w9 hSw; (try dsimp only at hSw); go_simp <;> with_reducible rfl)
  try simp only [Act.put, tA, tZ, tS]
  refine wpAnyH_ready (rs := [11]) (by kernel_rfl) (by simp) ?_
  refine AllReadyH.cons (by simp only [gA, gZ, gS]; rfl) (fun K hK => ?_) AllReadyH.nil
  go_simp
  refine hK.out _ _ ?_ (fun hHeld2 => ?_)
  · (try dsimp only); exact ⟨by simp [go_sem, p0, zc0, zc1], by simp [go_sem, p1, zc0, zc1]⟩
  clear hK K hHeld
  have hHeld := hHeld2
  clear hHeld2
  try simp only [Act.put, tA, tZ, tS]
  refine kT 12 ?_ ?_ ?_
  rotate_left
  · (intro w9 hSw; (try dsimp only at hSw); go_simp <;> with_reducible rfl)
  try simp only [Act.put, tA, tZ, tS]
  refine wpAnyH_ready (rs := [13]) (by kernel_rfl) (by simp) ?_
  refine AllReadyH.cons (by simp only [gA, gZ, gS]; rfl) (fun K hK => ?_) AllReadyH.nil
  go_simp
  refine hK.out _ _ ?_ (fun hHeld2 => ?_)
  · (try dsimp only); exact ⟨by simp [go_sem, p0, zc0, zc1], by simp [go_sem, p1, zc0, zc1]⟩
  clear hK K hHeld
  have hHeld := hHeld2
  clear hHeld2
  try simp only [Act.put, tA, tZ, tS]
  refine kT 14 ?_ ?_ ?_
  rotate_left
  · (intro w9 hSw; (try dsimp only at hSw); go_simp <;> with_reducible rfl)
  try simp only [Act.put, tA, tZ, tS]
  refine wpAnyH_ready (rs := [15]) (by kernel_rfl) (by simp) ?_
  refine AllReadyH.cons (by simp only [gA, gZ, gS]; rfl) (fun K hK => ?_) AllReadyH.nil
  go_simp
  refine hK.out _ _ ?_ (fun hHeld2 => ?_)
  · (try dsimp only); exact ⟨by simp [go_sem, p0, zc0, zc1], by simp [go_sem, p1, zc0, zc1]⟩
  clear hK K hHeld
  have hHeld := hHeld2
  clear hHeld2
  try simp only [Act.put, tA, tZ, tS]
  refine wpAnyH_done (by kernel_rfl) ?_ _
  go_wp2
  refine bodyPost_ret (v := ckV (.slice a2 s c2) (.slice (some ⟨w.heap.size + 1 + 1 + 1 + 1, 0, none⟩) t t) (.slice (some ⟨w.heap.size + 1 + 1 + 1, 0, none⟩) t t) (.slice a6 s c6) (.slice a7 t c7)) (by simp (maxDischargeDepth := 9) [results, ckV, Try.results16, go_sem, r0, r1, r2, r3, r4, r5, r6, r7, rf, zc0, zc1, zc2]) rfl ?_
  exact ⟨_, _, _, rfl, (World.ownsRow.mono (base := (w.heap.size + 3)) (by repeat (first | (with_reducible exact (World.ownsRow.mono (base' := (w.heap.size + 3)) o2111 (sA))) | (with_reducible refine World.ownsRow.alloc ?_ _) | (with_reducible refine own_setC ?_ (sA)))) (by omega)), (World.ownsRow.mono (base := (w.heap.size + 3)) (by repeat (first | (with_reducible exact O3_111) | (with_reducible refine World.ownsRow.alloc ?_ _) | (with_reducible refine own_setC ?_ (sA)))) (by omega)), (World.ownsRow.mono (base := (w.heap.size + 3)) (by repeat (first | (with_reducible exact O4_111) | (with_reducible refine World.ownsRow.alloc ?_ _) | (with_reducible refine own_setC ?_ (sA)))) (by omega)), (belA)⟩
end Go.Proofs.Ytabphkmhafflbaa
