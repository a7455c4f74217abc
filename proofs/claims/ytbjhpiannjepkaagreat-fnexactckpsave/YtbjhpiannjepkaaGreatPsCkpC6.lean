/- Laid together: what the claim needs of the texts that were built one by one. -/
import Derived.Test.YtbjhpiannjepkaaGreatPsBase
import Derived.Test.YtbjhpiannjepkaaGreatPsCkpC5
namespace Go.Proofs.YtbjhpiannjepkaaGreat
open Go.ChangeShapes Go.WideShapes Go.ChangeAt Go.RowKit Go.Deep
set_option linter.unusedVariables false

set_option linter.unusedSimpArgs false in
set_option maxRecDepth 20000 in
set_option maxHeartbeats 2000000 in
theorem l7copyG_any (m : Int) (a : Option Addr) (len cap : Nat) (xs : List OrR) (w : World) (h : OrRs w a len xs) (hl : len ≤ 1048576) : Calls Tryz.prog 68 #[.agg #[.int .i64 m, .slice a len cap]] w fun e w' => ∃ v, e = .returned (.agg #[.int .i64 m, v]) ∧ w'.ownsRow (w.heap.size + 2) 112 13 v len (flatOr xs) ∧ Below w.heap.size w w' := by
  obtain ⟨i0, hi, hz0, hz1, hz2⟩ := info_parts Tryz.infoOr
  have hxl := h.1
  have hnil : a = none → len = 0 := fun e => by
    rcases h.2.2 with h9 | ⟨g, o, e2, _⟩
    · exact h9
    · rw [e] at e2; cases e2
  have hb0 : Below w.heap.size w (((w.alloc (.cells #[.int .i64 m, .slice a len cap] 78)).alloc (.cells #[.int .i64 0, .slice none 0 0] 78)).drew.alloc (.cells #[] 112)) := bel_alloc (bel_drew (bel_alloc (bel_one _ _) _)) _
  have HG := h.below hb0
  have hLit : (((w.alloc (.cells #[.int .i64 m, .slice a len cap] 78)).alloc (.cells #[.int .i64 0, .slice none 0 0] 78)).drew.alloc (.cells #[] 112)).heap[w.heap.size + 1 + 1]? = some (.cells #[] 112 (0, 0)) := blk_new (by simp)
  have hY0 : (((w.alloc (.cells #[.int .i64 m, .slice a len cap] 78)).alloc (.cells #[.int .i64 0, .slice none 0 0] 78)).drew.alloc (.cells #[] 112)).heap[w.heap.size + 1]? = some (.cells #[.int .i64 0, .slice none 0 0] 78 (0, 0)) := ((bel_one ((w.alloc (.cells #[.int .i64 m, .slice a len cap] 78)).alloc (.cells #[.int .i64 0, .slice none 0 0] 78)).drew (.cells #[] 112)).block _ (by simp)).trans (blk_new (by simp))
  go_enter Tryz.func68, Tryz.ntmps68
  go_wp2_with fail
  refine wp_region_P [] (fun W => W.cell? ⟨w.heap.size, 0, none⟩ = some (.int .i64 m) ∧ W.cell? ⟨w.heap.size, 1, none⟩ = some (.slice a len cap)) (by kernel_rfl) ?_ (fun hHeld => ?_)
  · (try dsimp only); exact ⟨by first | (with_reducible assumption) | (simp [go_sem, *]; done), by first | (with_reducible assumption) | (simp [go_sem, *]; done)⟩
  refine wpAnyP_take (i := 0) (v := ?_) (by simp only [gA, gZ, gS]; rfl) (by kernel_rfl) (by kernel_rfl) (by kernel_rfl) (by kernel_rfl) (by intro _ _ _ h; exact h) (Or.inl ⟨by rfl, ?_⟩) (by assumption) ?_
  rotate_left
  · (intro w9 hSw; (try dsimp only at hSw); go_simp <;> with_reducible rfl)
  try simp only [Act.put, tA, tZ, tS]
  refine wpAnyP_take (i := 1) (v := ?_) (by simp only [gA, gZ, gS]; rfl) (by kernel_rfl) (by kernel_rfl) (by kernel_rfl) (by kernel_rfl) (by intro _ _ _ h; exact h) (Or.inl ⟨by rfl, ?_⟩) (by assumption) ?_
  rotate_left
  · (intro w9 hSw; (try dsimp only at hSw); go_simp <;> with_reducible rfl)
  try simp only [Act.put, tA, tZ, tS]
  refine wpAnyP_take (i := 3) (v := ?_) (by simp only [gA, gZ, gS]; rfl) (by kernel_rfl) (by kernel_rfl) (by kernel_rfl) (by kernel_rfl) (by intro _ _ _ h; exact h) (Or.inl ⟨by rfl, ?_⟩) (by assumption) ?_
  rotate_left
  · (intro w9 hSw; (try dsimp only at hSw); go_simp <;> with_reducible rfl)
  try simp only [Act.put, tA, tZ, tS]
  refine wpAnyP_take (i := 4) (v := ?_) (by simp only [gA, gZ, gS]; rfl) (by kernel_rfl) (by kernel_rfl) (by kernel_rfl) (by kernel_rfl) (by intro _ _ _ h; exact h) (Or.inl ⟨by rfl, ?_⟩) (by assumption) ?_
  rotate_left
  · (intro w9 hSw; (try dsimp only at hSw); go_simp <;> with_reducible rfl)
  try simp only [Act.put, tA, tZ, tS]
  refine wpAnyP_ready (rs := [2]) (by kernel_rfl) (by simp) ?_
  refine AllReadyP.cons (by simp only [gA, gZ, gS]; rfl) (fun K hK => ?_) AllReadyP.nil
  go_simp
  refine hK.out _ _ ?_ (fun hHeld2 => ?_)
  · (try dsimp only); exact ⟨by first | (with_reducible assumption) | (simp [go_sem, *]; done), by first | (with_reducible assumption) | (simp [go_sem, *]; done)⟩
  clear hK K hHeld
  have hHeld := hHeld2
  clear hHeld2
  try simp only [Act.put, tA, tZ, tS]
  refine wpAnyP_ready (rs := [5]) (by kernel_rfl) (by simp) ?_
  refine AllReadyP.cons (by simp only [gA, gZ, gS]; rfl) (fun K hK => ?_) AllReadyP.nil
  (refine step_append_lit rfl _ _ 76 rfl 112 i0 _ 13 104 Tryz.underlying76 hi hz0 hz1 hz2 rfl (by decide) (w.heap.size + 1 + 1) (w.heap.size + 2) (by omega) rfl hLit _ len _ (flatOr xs) rfl (by rw [flatOr_len, hxl]) hnil (fun q hq => newsOr HG hq) (by unfold maxLen; omega) (by omega) ?_; intro v' W' hown hbW hblk; obtain ⟨va, vc, rfl⟩ := sliceC hown; have hY := (hbW.block (w.heap.size + 1) (by simp)).trans hY0; have gz : w.heap.size + 1 < W'.heap.size := (by have h9 := hbW.size; (try simp at h9); omega); have g0 : W'.cell? ⟨w.heap.size, 0, none⟩ = some (.int .i64 m) := (hbW.cell (p := ⟨w.heap.size, 0, none⟩) (by simp; omega)).trans (by simp [go_sem]); have g1 : W'.cell? ⟨w.heap.size, 1, none⟩ = some (.slice a len cap) := (hbW.cell (p := ⟨w.heap.size, 1, none⟩) (by simp; omega)).trans (by simp [go_sem]); have r0 : W'.cell? ⟨w.heap.size + 1, 0, none⟩ = some (.int .i64 0) := (by simp [World.cell?, hY, go_sem]); have r1 : W'.cell? ⟨w.heap.size + 1, 1, none⟩ = some (.slice none 0 0) := (by simp [World.cell?, hY, go_sem]); have f0 : W'.frozen? ⟨w.heap.size + 1, 0, none⟩ = false := (by simp [World.frozen?, hY, go_sem]); have f1 : W'.frozen? ⟨w.heap.size + 1, 1, none⟩ = false := (by simp [World.frozen?, hY, go_sem]); have Ho := hide hown; have hbF := bel_trans hb0 hbW; clear hown hY)
  refine hK.out _ _ ?_ (fun hHeld2 => ?_)
  · (try dsimp only); exact ⟨by first | (with_reducible assumption) | (simp [go_sem, *]; done), by first | (with_reducible assumption) | (simp [go_sem, *]; done)⟩
  clear hK K hHeld
  have hHeld := hHeld2
  clear hHeld2
  try simp only [Act.put, tA, tZ, tS]
  refine wpAnyP_take (i := 6) (v := ?_) (by simp only [gA, gZ, gS]; rfl) (by kernel_rfl) (by kernel_rfl) (by kernel_rfl) (by kernel_rfl) (by intro _ _ _ h; exact h) (Or.inl ⟨by rfl, ?_⟩) (by assumption) ?_
  rotate_left
  · (intro w9 hSw; (try dsimp only at hSw); go_simp <;> with_reducible rfl)
  try simp only [Act.put, tA, tZ, tS]
  refine wpAnyP_ready (rs := [7]) (by kernel_rfl) (by simp) ?_
  refine AllReadyP.cons (by simp only [gA, gZ, gS]; rfl) (fun K hK => ?_) AllReadyP.nil
  go_simp
  refine hK.out _ _ ?_ (fun hHeld2 => ?_)
  · (try dsimp only); exact ⟨by first | (with_reducible assumption) | (simp [go_sem, *]; done), by first | (with_reducible assumption) | (simp [go_sem, *]; done)⟩
  clear hK K hHeld
  have hHeld := hHeld2
  clear hHeld2
  try simp only [Act.put, tA, tZ, tS]
  refine wpAnyP_done (by kernel_rfl) ?_ _
  go_wp2
  refine bodyPost_ret (v := .agg #[.int .i64 m, .slice va len vc]) (by simp (maxDischargeDepth := 9) [results, Tryz.results68, go_sem, *]) rfl ⟨_, rfl, ?_, ?_⟩
  · repeat (first | (with_reducible exact unhide Ho) | (with_reducible refine own_setC ?_ (by simp)))
  · repeat (first | (with_reducible exact hbF) | (with_reducible refine bel_set ?_ (by simp) _))

/-- A copied operator. -/
def GOpS (B : Nat) (ma : Int) (n : Nat) (xs : List Value) (v : Value) (D : Nat → Prop) (w : World) : Prop := ∃ r, v = .agg #[.int .i64 ma, r] ∧ w.ownsRow B 112 13 r n xs ∧ ∀ b, r.ownBlock = some b → D b

theorem gst_ops (B : Nat) (ma : Int) (n : Nat) (xs : List Value) : ∀ v D w w', Below w.heap.size w w' → GOpS B ma n xs v D w → GOpS B ma n xs v D w' := fun _ _ _ _ hb ⟨r, e, h, d⟩ => ⟨r, e, own_upG h hb, d⟩

def depSn : Nat → List Nat
  | 7 => [2, 6]
  | _ => []

def exSn (j k : Nat) : Bool := (j == 3 && k == 6) || (j == 6 && k == 3)

theorem symSn (j k : Nat) : exSn j k = exSn k j := by
  simp only [exSn]
  rw [Bool.eq_iff_iff]
  simp only [Bool.or_eq_true, Bool.and_eq_true, beq_iff_eq]
  omega

def psSn (B0 : Nat) (wS : Nat) (ma : Int) (a1 : Option Addr) (l1 c1 : Nat) (a2 : Option Addr) (l2 c2 : Nat) (rows : List OrR) (marks : List Int) : List Gd := [fun V D w => GIs (.pointer (some ⟨wS, 0, none⟩)) (V 0) D w, fun V D w => GIs (.agg #[.int .i64 ma, .slice a1 l1 c1]) (V 1) D w, fun V D w => GOpS B0 ma l1 (flatOr rows) (V 2) D w, fun V D w => GLit 3 (V 3) D w, fun V D w => GIs (.pointer (some ⟨wS, 2, none⟩)) (V 4) D w, fun V D w => GIs (.slice a2 l2 c2) (V 5) D w, fun V D w => GOwn B0 3 1 l2 (marks.map fun z => .int .i64 z) (V 6) D w, fun V D w => ∃ r2, V 2 = .agg #[.int .i64 ma, r2] ∧ V 7 = .agg #[.int .i64 ma, r2, V 6], fun V D w => False]

theorem stSn (B0 : Nat) (wS : Nat) (ma : Int) (a1 : Option Addr) (l1 c1 : Nat) (a2 : Option Addr) (l2 c2 : Nat) (rows : List OrR) (marks : List Int) : AllG depSn 0 (psSn B0 wS ma a1 l1 c1 a2 l2 c2 rows marks) := ⟨st1 (gst_is _), st1 (gst_is _), st1 (gst_ops _ _ _ _), st1 (gst_lit _), st1 (gst_is _), st1 (gst_is _), st1 (gst_own _ _ _ _ _), (fun V V' D w w' e hd _ _ h => by obtain ⟨r2, q1, q2⟩ := h; exact ⟨r2, by rw [← hd 2 (by simp [depSn])]; exact q1, by rw [← e, ← hd 6 (by simp [depSn])]; exact q2⟩), (fun _ _ _ _ _ _ _ _ _ h => h), trivial⟩

set_option linter.unusedSimpArgs false in
set_option maxRecDepth 20000 in
set_option maxHeartbeats 4000000 in
theorem l9snapC_any (ma : Int) (a1 : Option Addr) (l1 c1 : Nat) (a2 : Option Addr) (l2 c2 : Nat) (rows : List OrR) (marks : List Int) (w : World) (h1 : OrRs w a1 l1 rows) (h2 : InRs w a2 l2 marks) (hl1 : l1 ≤ 1048576) (hl2 : l2 ≤ 1048576) : Calls Tryz.prog 49 #[.agg #[.int .i64 ma, .slice a1 l1 c1, .slice a2 l2 c2]] w fun e w' => ∃ v1 v2, e = .returned (.agg #[.int .i64 ma, v1, v2]) ∧ w'.ownsRow (w.heap.size + 2) 112 13 v1 l1 (flatOr rows) ∧ w'.ownsRow (w.heap.size + 2) 3 1 v2 l2 (marks.map fun z => .int .i64 z) ∧ Below w.heap.size w w' := by
  obtain ⟨i0, hi1, hz10, hz11, hz12⟩ := info_parts Tryz.infoInt1
  have hnil2 : a2 = none → l2 = 0 := fun e => by
    rcases h2.2.2 with h9 | ⟨g, o, e2, _⟩
    · exact h9
    · rw [e] at e2; cases e2
  have hb00 : Below w.heap.size w ((w.alloc (.cells #[.int .i64 ma, .slice a1 l1 c1, .slice a2 l2 c2] 80)).alloc (.cells #[.int .i64 0, .slice none 0 0, .slice none 0 0] 80)).drew := bel_drew (bel_alloc (bel_one _ _) _)
  have hX0 : ((w.alloc (.cells #[.int .i64 ma, .slice a1 l1 c1, .slice a2 l2 c2] 80)).alloc (.cells #[.int .i64 0, .slice none 0 0, .slice none 0 0] 80)).drew.heap[w.heap.size + 1]? = some (.cells #[.int .i64 0, .slice none 0 0, .slice none 0 0] 80 (0, 0)) := blk_new (by simp)
  have x0 : ((w.alloc (.cells #[.int .i64 ma, .slice a1 l1 c1, .slice a2 l2 c2] 80)).alloc (.cells #[.int .i64 0, .slice none 0 0, .slice none 0 0] 80)).drew.cell? ⟨w.heap.size, 0, none⟩ = some (.int .i64 ma) := by simp [go_sem]
  have x1 : ((w.alloc (.cells #[.int .i64 ma, .slice a1 l1 c1, .slice a2 l2 c2] 80)).alloc (.cells #[.int .i64 0, .slice none 0 0, .slice none 0 0] 80)).drew.cell? ⟨w.heap.size, 1, none⟩ = some (.slice a1 l1 c1) := by simp [go_sem]
  have x2 : ((w.alloc (.cells #[.int .i64 ma, .slice a1 l1 c1, .slice a2 l2 c2] 80)).alloc (.cells #[.int .i64 0, .slice none 0 0, .slice none 0 0] 80)).drew.cell? ⟨w.heap.size, 2, none⟩ = some (.slice a2 l2 c2) := by simp [go_sem]
  go_enter Tryz.func49, Tryz.ntmps49
  go_wp2_with fail
  obtain ⟨B0, hB0⟩ : ∃ B0, B0 = ((w.alloc (.cells #[.int .i64 ma, .slice a1 l1 c1, .slice a2 l2 c2] 80)).alloc (.cells #[.int .i64 0, .slice none 0 0, .slice none 0 0] 80)).drew.heap.size := ⟨_, rfl⟩
  have hB2 : B0 = w.heap.size + 2 := by rw [hB0]; simp
  revert hb00 hX0 x0 x1 x2 hB0
  generalize hWS : ((w.alloc (.cells #[.int .i64 ma, .slice a1 l1 c1, .slice a2 l2 c2] 80)).alloc (.cells #[.int .i64 0, .slice none 0 0, .slice none 0 0] 80)).drew = wS
  intro hb00 hX0 x0 x1 x2 hB0
  have hw00 : w.heap.size ≤ wS.heap.size := hb00.size
  have hbx : w.heap.size < wS.heap.size := by omega
  have hst := stSn B0 w.heap.size ma a1 l1 c1 a2 l2 c2 rows marks
  have hsym := symSn
  refine wp_region_last (by kernel_rfl) (by kernel_rfl) (by kernel_rfl) (Growing wS (psSn B0 w.heap.size ma a1 l1 c1 a2 l2 c2 rows marks) depSn exSn (fun V => #[.agg #[.int .i64 ma, .slice a1 l1 c1, .slice a2 l2 c2], .pointer (some ⟨w.heap.size, 0, none⟩), .pointer (some ⟨w.heap.size + 1, 0, none⟩), V 0, V 1, V 2, V 3, V 4, V 5, V 6, V 7]) []) ?_ ?_
  · refine ⟨fun _ => undef, fun _ _ => False, rfl, fun j hj => absurd hj (by simp), fun j hj => absurd hj (by simp), fun j k b hj => absurd hj (by simp), fun j b hj => absurd hj (by simp), ?_⟩
    rw [hWS]; exact Below.refl _ _
  refine ⟨?_, ?_, ?_, ?_, ?_, ?_, ?_, ?_, ?_⟩
  · intro L ac W hI hL hA K' hK
    obtain ⟨V, D, hG⟩ := hI
    obtain rfl := hG.act
    go_simp
    refine hK.out _ _ (hG.pure hst hsym hL (.pointer (some ⟨w.heap.size, 0, none⟩)) (by simp [depSn]) (show GIs (.pointer (some ⟨w.heap.size, 0, none⟩)) (putV V 0 (.pointer (some ⟨w.heap.size, 0, none⟩)) 0) (fun _ => False) W by simp [GIs, putV]) ?_)
    simp [putV, Act.put]
  · intro L ac W hI hL hA K' hK
    obtain ⟨V, D, hG⟩ := hI
    obtain rfl := hG.act
    have e0 : V 0 = .pointer (some ⟨w.heap.size, 0, none⟩) := hG.hP 0 (hA ⟨0, .data⟩ (by simp) rfl)
    simp only [e0]
    have hc0 := (hG.bel.cell (p := ⟨w.heap.size, 0, none⟩) hbx).trans x0
    have hc1 := (hG.bel.cell (p := ⟨w.heap.size, 1, none⟩) hbx).trans x1
    go_simp
    refine hK.out _ _ (hG.pure hst hsym hL (.agg #[.int .i64 ma, .slice a1 l1 c1]) (by simp [depSn]) (show GIs (.agg #[.int .i64 ma, .slice a1 l1 c1]) (putV V 1 (.agg #[.int .i64 ma, .slice a1 l1 c1]) 1) (fun _ => False) W by simp [GIs, putV]) ?_)
    simp [putV, Act.put, e0]
  · intro L ac W hI hL hA K' hK
    obtain ⟨V, D, hG⟩ := hI
    obtain rfl := hG.act
    have e1 : V 1 = .agg #[.int .i64 ma, .slice a1 l1 c1] := hG.hP 1 (hA ⟨1, .data⟩ (by simp) rfl)
    simp only [e1]
    have hb0 : Below w.heap.size w W := hb00.trans (hG.bel.mono hw00)
    go_simp
    (go_at_call 68; refine (l7copyG_any ma a1 l1 c1 rows W (h1.below hb0) hl1).mono ?_; rintro e' W' ⟨v', rfl, hown, hbW⟩)
    (try go_wp2_with fail)
    refine hK.out _ _ (hG.step hst hsym hL (.agg #[.int .i64 ma, v']) (fun b => v'.ownBlock = some b) W' hbW (by simp [depSn]) (show GOpS B0 ma l1 (flatOr rows) (putV V 2 (.agg #[.int .i64 ma, v']) 2) (fun b => v'.ownBlock = some b) W' from ⟨v', by simp [putV], World.ownsRow.mono hown (by have := hG.bel.size; omega), fun b hb => hb⟩) (fun b hb => Or.inl (by have h9 := World.ownsRow.lt hown b hb; omega)) ?_)
    simp [putV, Act.put, e1]
  · intro L ac W hI hL hA K' hK
    obtain ⟨V, D, hG⟩ := hI
    obtain rfl := hG.act
    go_simp
    refine hK.out _ _ (hG.step hst hsym hL (.slice (some ⟨W.heap.size, 0, none⟩) 0 0) (fun b => b = W.heap.size) (W.alloc (.cells #[] 3)) (bel_one _ _) (by simp [depSn]) (show GLit 3 (putV V 3 (.slice (some ⟨W.heap.size, 0, none⟩) 0 0) 3) (fun b => b = W.heap.size) (W.alloc (.cells #[] 3)) from ⟨W.heap.size, by simp [putV], rfl, heap_alloc_new _ _⟩) (fun b hb => Or.inl (by subst hb; simp)) ?_)
    simp [putV, Act.put]
  · intro L ac W hI hL hA K' hK
    obtain ⟨V, D, hG⟩ := hI
    obtain rfl := hG.act
    go_simp
    refine hK.out _ _ (hG.pure hst hsym hL (.pointer (some ⟨w.heap.size, 2, none⟩)) (by simp [depSn]) (show GIs (.pointer (some ⟨w.heap.size, 2, none⟩)) (putV V 4 (.pointer (some ⟨w.heap.size, 2, none⟩)) 4) (fun _ => False) W by simp [GIs, putV]) ?_)
    simp [putV, Act.put]
  · intro L ac W hI hL hA K' hK
    obtain ⟨V, D, hG⟩ := hI
    obtain rfl := hG.act
    have e4 : V 4 = .pointer (some ⟨w.heap.size, 2, none⟩) := hG.hP 4 (hA ⟨4, .data⟩ (by simp) rfl)
    simp only [e4]
    have hc2 := (hG.bel.cell (p := ⟨w.heap.size, 2, none⟩) hbx).trans x2
    go_simp
    refine hK.out _ _ (hG.pure hst hsym hL (.slice a2 l2 c2) (by simp [depSn]) (show GIs (.slice a2 l2 c2) (putV V 5 (.slice a2 l2 c2) 5) (fun _ => False) W by simp [GIs, putV]) ?_)
    simp [putV, Act.put, e4]
  · intro L ac W hI hL hA K' hK
    obtain ⟨V, D, hG⟩ := hI
    obtain rfl := hG.act
    obtain ⟨g3, e3, m3, k3⟩ := (show GLit 3 (V 3) (D 3) W from hG.hP 3 (hA ⟨3, .data⟩ (by simp) rfl))
    have e5 : V 5 = .slice a2 l2 c2 := hG.hP 5 (hA ⟨5, .data⟩ (by simp) rfl)
    simp only [e3, e5]
    have hr6 := hG.rng 3 g3 (hA ⟨3, .data⟩ (by simp) rfl) m3
    have hb0 : Below w.heap.size w W := hb00.trans (hG.bel.mono hw00)
    refine step_append_lit rfl _ _ 24 rfl 3 i0 _ 1 8 Tryz.underlying24 hi1 hz10 hz11 hz12 rfl (by decide) g3 B0 (by have h9 := hr6.1; omega) (by rfl) k3 _ l2 _ (marks.map fun z => .int .i64 z) (by rfl) (by rw [List.length_map, h2.1, Nat.mul_one]) hnil2 (fun q hq => cellsIn (h2.below hb0) hq) (by unfold maxLen; omega) (by omega) ?_
    intro v' W' hown hbW hblk
    refine hK.out _ _ (hG.step hst hsym hL v' (fun b => v'.ownBlock = some b) W' hbW (by simp [depSn]) (show GOwn B0 3 1 l2 (marks.map fun z => .int .i64 z) (putV V 6 v' 6) (fun b => v'.ownBlock = some b) W' from ⟨by simp only [putV, if_true]; exact hown, fun b hb => by simpa [putV] using hb⟩) (fun b hb => (hblk b hb).elim (fun e => Or.inr ⟨3, hA ⟨3, .data⟩ (by simp) rfl, by rw [e]; exact m3, by intro k hk1 hk2; simp [exSn] at hk2 ⊢; omega⟩) (fun e => Or.inl e)) ?_)
    simp [putV, Act.put, e3, e5]
  · intro L ac W hI hL hA K' hK
    obtain ⟨V, D, hG⟩ := hI
    obtain rfl := hG.act
    obtain ⟨r2, e2, o2, d2⟩ := (show GOpS B0 ma l1 (flatOr rows) (V 2) (D 2) W from hG.hP 2 (hA ⟨2, .data⟩ (by simp) rfl))
    have hp6 := (show GOwn B0 3 1 l2 (marks.map fun z => .int .i64 z) (V 6) (D 6) W from hG.hP 6 (hA ⟨6, .data⟩ (by simp) rfl))
    simp only [e2]
    obtain ⟨x6a, x6c, e6⟩ := sliceC hp6.1
    rw [e6]
    go_simp
    refine hK.out _ _ (hG.pure hst hsym hL (.agg #[.int .i64 ma, r2, .slice x6a l2 x6c]) (fun x hx => by simp only [depSn, List.mem_cons, List.not_mem_nil, or_false] at hx; rcases hx with rfl | rfl <;> first | exact hA ⟨2, .data⟩ (by simp) rfl | exact hA ⟨6, .data⟩ (by simp) rfl) (show ∃ r2', putV V 7 (.agg #[.int .i64 ma, r2, .slice x6a l2 x6c]) 2 = .agg #[.int .i64 ma, r2'] ∧ putV V 7 (.agg #[.int .i64 ma, r2, .slice x6a l2 x6c]) 7 = .agg #[.int .i64 ma, r2', putV V 7 (.agg #[.int .i64 ma, r2, .slice x6a l2 x6c]) 6] from ⟨r2, by simp [putV, e2], by simp [putV, e6]⟩) ?_)
    simp [putV, Act.put, e2, e6]
  · intro L ac W hI hA K' hK
    obtain ⟨V, D, hG⟩ := hI
    obtain rfl := hG.act
    have hr7 : ∃ r2, V 2 = .agg #[.int .i64 ma, r2] ∧ V 7 = .agg #[.int .i64 ma, r2, V 6] := hG.hP 7 (hA 7 (by decide))
    obtain ⟨r2', e2', o2, d2⟩ := (show GOpS B0 ma l1 (flatOr rows) (V 2) (D 2) W from hG.hP 2 (hA 2 (by decide)))
    have hp6 := (show GOwn B0 3 1 l2 (marks.map fun z => .int .i64 z) (V 6) (D 6) W from hG.hP 6 (hA 6 (by decide)))
    obtain ⟨r2, q1, q2⟩ := hr7
    rw [e2'] at q1
    obtain rfl : r2' = r2 := by simpa using q1
    obtain ⟨x6a, x6c, e6⟩ := sliceC hp6.1
    obtain ⟨x2a, x2c, rfl⟩ := sliceC o2
    rw [e6] at q2
    have hbF : Below w.heap.size w W := hb00.trans (hG.bel.mono hw00)
    have hXW := (hG.bel.block (w.heap.size + 1) (by omega)).trans hX0
    have y0 : W.cell? ⟨w.heap.size + 1, 0, none⟩ = some (.int .i64 0) := by simp [World.cell?, hXW, go_sem]
    have y1 : W.cell? ⟨w.heap.size + 1, 1, none⟩ = some (.slice none 0 0) := by simp [World.cell?, hXW, go_sem]
    have y2 : W.cell? ⟨w.heap.size + 1, 2, none⟩ = some (.slice none 0 0) := by simp [World.cell?, hXW, go_sem]
    have f0 : W.frozen? ⟨w.heap.size + 1, 0, none⟩ = false := by simp [World.frozen?, hXW, go_sem]
    have f1 : W.frozen? ⟨w.heap.size + 1, 1, none⟩ = false := by simp [World.frozen?, hXW, go_sem]
    have f2 : W.frozen? ⟨w.heap.size + 1, 2, none⟩ = false := by simp [World.frozen?, hXW, go_sem]
    have O1 := hide o2
    have O2 := hide hp6.1
    rw [e6] at O2
    simp only [q2]
    clear hG hst hXW hX0 x0 x1 x2 o2 hp6 d2 q1 q2 e2' hA
    go_simp
    refine hK.out _ _ ?_
    go_wp2
    refine bodyPost_ret (v := .agg #[.int .i64 ma, .slice x2a l1 x2c, .slice x6a l2 x6c]) (by simp (maxDischargeDepth := 9) [results, Tryz.results49, go_sem, *]) rfl ⟨_, _, rfl, ?_, ?_, ?_⟩
    · rw [← hB2]
      repeat (first | (with_reducible exact unhide O1) | (with_reducible refine own_setC ?_ (by simp; omega)))
    · rw [← hB2]
      repeat (first | (with_reducible exact unhide O2) | (with_reducible refine own_setC ?_ (by simp; omega)))
    · repeat (first | (with_reducible exact hbF) | (with_reducible refine bel_set ?_ (by simp) _))
end Go.Proofs.YtbjhpiannjepkaaGreat
