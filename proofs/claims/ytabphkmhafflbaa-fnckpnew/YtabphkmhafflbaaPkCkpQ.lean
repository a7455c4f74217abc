/- Laid together: what the claim needs of the texts that were built one by one. -/
import Derived.Test.YtabphkmhafflbaaPkCkpP
import Derived.Test.YtabphkmhafflbaaPkStepA
import Derived.Deep.RegionHeld3
import Derived.Test.YtabphkmhafflbaaPkBase
namespace Go.Proofs.Ytabphkmhafflbaa
open Go.ChangeShapes Go.WideShapes Go.ChangeAt Go.RowKit Go.Deep
set_option linter.unusedVariables false

theorem Kept.up {S : Nat → Prop} {w W W' : World} (h : Kept S w W) (hb : Below w.heap.size W W') : Kept S w W' := ⟨hb.os.trans h.os, hb.tape.trans h.tape, hb.output.trans h.output, Nat.le_trans h.size hb.size, fun b hw hS => (hb.block b hw).trans (h.blk b hw hS)⟩

theorem sliceC {W : World} {B : Nat} {e : TypeId} {size n : Nat} {v : Value} {xs : List Value} (h : W.ownsRow B e size v n xs) : ∃ a c, v = .slice a n c := by
  rcases h.2 with ⟨rfl, h0⟩ | ⟨g, cap, cur, rfl, _⟩
  · exact ⟨none, 0, by rw [h0]⟩
  · exact ⟨_, _, rfl⟩

theorem own_setC {W : World} {p : Addr} {u : Value} {B : Nat} {e : TypeId} {size n : Nat} {v : Value} {xs : List Value} (h : W.ownsRow B e size v n xs) (hp : p.block < B) : (W.setCell p u).ownsRow B e size v n xs := own_upB h (fun b hv => Below.heap_setCell _ _ _ _ (fun e => by have := own_geV h b hv; omega))

theorem mkIn0 (len : Nat) (hl : 1 ≤ len ∧ len ≤ 3) : ∃ C : Array Value, (C.size = len ∧ C.toList = List.replicate len (.int .i64 0)) ∧ ∀ w : World, (Instr.makeSlice 26 (.int .i64 (len : Int)) (.int .i64 (len : Int))).run Try.prog w = .ok (.slice (some ⟨w.heap.size, 0, none⟩) len len) (w.alloc (.cells C 3)) := by
  obtain ⟨i0, hi, hz0, hz1, hz2⟩ := info_parts Try.infoInt1
  refine ⟨madeCells (Value.int .i64 0).cells (len * 1), ⟨by rw [size_madeCells]; omega, ?_⟩, fun w => ?_⟩
  · rw [Nat.mul_one]
    exact toList_madeCells_one _ _
  · have h := run_make (P := Try.prog) w 26 3 i0 _ Try.underlying26 hi hz0 .i64 .i64 len len (by omega) (Int.le_refl _) (by rw [hz2]; omega) (by omega)
    rw [hz1] at h
    simpa using h

theorem mkBo0 (len : Nat) (hl : 1 ≤ len ∧ len ≤ 2) : ∃ C : Array Value, (C.size = len ∧ C.toList = List.replicate len (.bool false)) ∧ ∀ w : World, (Instr.makeSlice 27 (.int .i64 (len : Int)) (.int .i64 (len : Int))).run Try.prog w = .ok (.slice (some ⟨w.heap.size, 0, none⟩) len len) (w.alloc (.cells C 4)) := by
  obtain ⟨i0, hi, hz0, hz1, hz2⟩ := info_parts Try.infoBoo1
  refine ⟨madeCells (Value.bool false).cells (len * 1), ⟨by rw [size_madeCells]; omega, ?_⟩, fun w => ?_⟩
  · rw [Nat.mul_one]
    exact toList_madeCells_one _ _
  · have h := run_make (P := Try.prog) w 27 4 i0 _ Try.underlying27 hi hz0 .i64 .i64 len len (by omega) (Int.le_refl _) (by rw [hz2]; omega) (by omega)
    rw [hz1] at h
    simpa using h

theorem mkSn0 (len : Nat) (hl : 1 ≤ len ∧ len ≤ 2) : ∃ C : Array Value, (C.size = len * 3 ∧ C.toList = flatSV (List.replicate len noSn)) ∧ ∀ w : World, (Instr.makeSlice 28 (.int .i64 (len : Int)) (.int .i64 (len : Int))).run Try.prog w = .ok (.slice (some ⟨w.heap.size, 0, none⟩) len len) (w.alloc (.cells C 48)) := by
  obtain ⟨i0, hi, hz0, hz1, hz2⟩ := info_parts Try.infoSn1
  refine ⟨madeCells (Value.agg #[.int .i64 0, .slice none 0 0, .slice none 0 0]).cells (len * 3), ⟨by rw [size_madeCells], ?_⟩, fun w => ?_⟩
  · obtain rfl | rfl : len = 1 ∨ len = 2 := by omega
    · simp [madeCells, List.range_succ, flatSV, noSn, SnV.cells, Value.cells]
    · simp [madeCells, List.range_succ, flatSV, noSn, SnV.cells, Value.cells]
  · have h := run_make (P := Try.prog) w 28 48 i0 _ Try.underlying28 hi hz0 .i64 .i64 len len (by omega) (Int.le_refl _) (by rw [hz2]; omega) (by omega)
    rw [hz1] at h
    simpa using h

theorem Mks.step {W w5 : World} {o : Obj} {B B' s n : Nat} {gs : List Nat} {v7 : Value} {xs : List Value} (h : Mks W B s gs) (h7 : W.ownsRow B' 48 3 v7 n xs) (hg : (W.alloc o).grownBy w5 v7.ownBlock) : Mks w5 B s gs := ⟨fun g hm => own_step (h.1 g hm) h7 (by decide) hg, h.2⟩

theorem Mks.snoc {W : World} {B s : Nat} {gs : List Nat} {C : Array Value} (h : Mks W B s gs) (hB : B ≤ W.heap.size) (hs : s ≤ 1000) (hC : C.size = s) (hCl : C.toList = List.replicate s (.int .i64 0)) : Mks (W.alloc (.cells C 3)) B s (gs ++ [W.heap.size]) := by
  refine ⟨fun g hm => ?_, ?_⟩
  · rcases List.mem_append.1 hm with hm | hm
    · exact (h.1 g hm).alloc _
    · obtain rfl := List.mem_singleton.1 hm
      rw [← hCl]
      exact World.ownsRow_lit (base := B) (size := 1) W C s hB (by unfold maxLen; omega) (by omega)
  · refine List.pairwise_append.2 ⟨h.2, List.pairwise_singleton _ _, fun g hm g' hm' => ?_⟩
    obtain rfl := List.mem_singleton.1 hm'
    have := ((h.1 g hm).lt g rfl).2
    omega

theorem Mks.set {W : World} {B s : Nat} {gs : List Nat} {p : Addr} {u : Value} (h : Mks W B s gs) (hp : p.block < B) : Mks (W.setCell p u) B s gs := ⟨fun g hm => own_setC (h.1 g hm) hp, h.2⟩

theorem Mks.mono {W : World} {B B' s : Nat} {gs : List Nat} (h : Mks W B s gs) (hB : B' ≤ B) : Mks W B' s gs := ⟨fun g hm => (h.1 g hm).mono hB, h.2⟩

theorem flat_gs (s : Nat) (gs : List Nat) (g : Nat) : flatSV ((gs ++ [g]).map (mkP s)) = flatSV (gs.map (mkP s)) ++ SnV.cells (mkP s g) := by rw [List.map_append, List.map_singleton, flatSV_snoc]

theorem blk_new {W : World} {g : Nat} {o : Obj} (hg : g = W.heap.size) : (W.alloc o).heap[g]? = some o := by
  subst hg
  exact heap_alloc_new _ _

/-- A box of checkpoints. -/
def BoxC (W : World) (B : Nat) (v2 v3 v4 v6 v7 : Value) : Prop := W.heap[B]? = some (.cells #[.int .i64 0, .bool false, v2, v3, v4, .int .i64 0, v6, v7] 32 (0, 0))

theorem BoxC.cells {W : World} {B : Nat} {v2 v3 v4 v6 v7 : Value} (h : BoxC W B v2 v3 v4 v6 v7) : (W.cell? ⟨B, 0, none⟩ = some (.int .i64 0) ∧ W.cell? ⟨B, 1, none⟩ = some (.bool false) ∧ W.cell? ⟨B, 2, none⟩ = some v2 ∧ W.cell? ⟨B, 3, none⟩ = some v3 ∧ W.cell? ⟨B, 4, none⟩ = some v4 ∧ W.cell? ⟨B, 5, none⟩ = some (.int .i64 0) ∧ W.cell? ⟨B, 6, none⟩ = some v6 ∧ W.cell? ⟨B, 7, none⟩ = some v7) ∧ ∀ i, W.frozen? ⟨B, i, none⟩ = false := by
  unfold BoxC at h
  refine ⟨⟨?_, ?_, ?_, ?_, ?_, ?_, ?_, ?_⟩, fun i => ?_⟩ <;> simp [World.cell?, World.frozen?, h, go_sem]

theorem BoxC.lt {W : World} {B : Nat} {v2 v3 v4 v6 v7 : Value} (h : BoxC W B v2 v3 v4 v6 v7) : B < W.heap.size := (Array.getElem?_eq_some_iff.1 h).1

theorem BoxC.set6 {W : World} {B : Nat} {v2 v3 v4 v6 v7 : Value} (h : BoxC W B v2 v3 v4 v6 v7) (u : Value) : BoxC (W.setCell ⟨B, 6, none⟩ u) B v2 v3 v4 u v7 := Joins.block_setCell h u

theorem BoxC.set7 {W : World} {B : Nat} {v2 v3 v4 v6 v7 : Value} (h : BoxC W B v2 v3 v4 v6 v7) (u : Value) : BoxC (W.setCell ⟨B, 7, none⟩ u) B v2 v3 v4 v6 u := Joins.block_setCell h u

theorem BoxC.keep {W W' : World} {B : Nat} {v2 v3 v4 v6 v7 : Value} (h : BoxC W B v2 v3 v4 v6 v7) (hb : Below W.heap.size W W') : BoxC W' B v2 v3 v4 v6 v7 := (hb.block B h.lt).trans h

/-- The checkpoints at the beginning. -/
def ckOf (s t k z p l e v r : Int) : CkD := if okJob s t k z p l e v r then ckNew s.toNat t.toNat else ckZero

theorem okJob_st {s t k z p l e v r : Int} (h : okJob s t k z p l e v r = true) : (1 ≤ s ∧ s ≤ 3) ∧ (1 ≤ t ∧ t ≤ 2) := by
  simp only [okJob, Bool.and_eq_true] at h
  have h1 := h.1.1.1.1.1.1.1.1
  have h2 := h.1.1.1.1.1.1.1.2
  simp only [inB, decide_eq_true_eq] at h1 h2
  omega

theorem specnewc_no (s t k z p l e : Int) (b : Bool) (v r : Int) (w : World) (hj : okJob s t k z p l e v r = false) : Calls Try.prog 7 #[.agg #[.int .i64 s, .int .i64 t, .int .i64 k, .int .i64 z, .int .i64 p, .int .i64 l, .int .i64 e, .bool b, .int .i64 v, .int .i64 r]] w fun e' w' => NewC w ckZero e' w' := by
  go_enter Try.func7, Try.ntmps7
  go_wp2_with (go_at_call 8; refine (specjobok_any s t k z p l e b v r _).mono ?_; rintro e' w1 ⟨rfl, hb1⟩; obtain ⟨hc1, hf1, hs1⟩ := bcell hb1; have hz10 : w.heap.size < w1.heap.size := (by have h9 := hb1.size; (try simp at h9); omega); have hz11 : w.heap.size + 1 < w1.heap.size := (by have h9 := hb1.size; (try simp at h9); omega))
  refine bodyPost_ret (v := .agg #[.int .i64 0, .bool false, .slice none 0 0, .slice none 0 0, .slice none 0 0, .int .i64 0, .slice none 0 0, .slice none 0 0]) (by simp (maxDischargeDepth := 9) [results, Try.results7, go_sem, *]) rfl ?_
  exact zero_newC (belA)

set_option linter.unusedSimpArgs false in
set_option maxRecDepth 20000 in
set_option maxHeartbeats 16000000 in
theorem specnewc_ok (s t : Nat) (k z p l e : Int) (b : Bool) (v r : Int) (w : World) (hj : okJob s t k z p l e v r = true) (hs : 1 ≤ s ∧ s ≤ 3) (ht : 1 ≤ t ∧ t ≤ 2) : Calls Try.prog 7 #[.agg #[.int .i64 s, .int .i64 t, .int .i64 k, .int .i64 z, .int .i64 p, .int .i64 l, .int .i64 e, .bool b, .int .i64 v, .int .i64 r]] w fun e' w' => NewC w (ckNew s t) e' w' := by
  obtain ⟨i1, hi1, hz10, hz11, hz12⟩ := info_parts Try.infoInt1
  obtain ⟨i3, hi3, hz30, hz31, hz32⟩ := info_parts Try.infoSn1
  have hbb : Below w.heap.size w ((w.alloc (.cells #[.int .i64 s, .int .i64 t, .int .i64 k, .int .i64 z, .int .i64 p, .int .i64 l, .int .i64 e, .bool b, .int .i64 v, .int .i64 r] 24)).alloc (.cells #[.int .i64 0, .bool false, .slice none 0 0, .slice none 0 0, .slice none 0 0, .int .i64 0, .slice none 0 0, .slice none 0 0] 32)) := (belA)
  go_enter Try.func7, Try.ntmps7
  go_wp2_with fail
  refine (specjobok_any s t k z p l e b v r _).mono ?_
  rintro e' w1 ⟨rfl, hb1⟩
  have y1 : w.heap.size + 1 < w1.heap.size := by have h9 := hb1.size; simp at h9; omega
  have j0 : w1.cell? ⟨w.heap.size, 0, none⟩ = some (.int .i64 s) := (hb1.cell (p := ⟨w.heap.size, 0, none⟩) (by simp <;> omega)).trans (by simp [go_sem])
  have hN : Hid (hj = hj) := hide rfl
  obtain ⟨hc1, hf1, hs1⟩ := bcell hb1
  go_wp2_with fail
  refine (nobody_any s t k z p l e b v r (by omega) (by omega) _).mono ?_
  rintro e' w2 ⟨v2, v3, v4, rfl, h2, h3, h4, hb2⟩
  have hB2 : Below ((w.alloc (.cells #[.int .i64 s, .int .i64 t, .int .i64 k, .int .i64 z, .int .i64 p, .int .i64 l, .int .i64 e, .bool b, .int .i64 v, .int .i64 r] 24)).alloc (.cells #[.int .i64 0, .bool false, .slice none 0 0, .slice none 0 0, .slice none 0 0, .int .i64 0, .slice none 0 0, .slice none 0 0] 32)).heap.size ((w.alloc (.cells #[.int .i64 s, .int .i64 t, .int .i64 k, .int .i64 z, .int .i64 p, .int .i64 l, .int .i64 e, .bool b, .int .i64 v, .int .i64 r] 24)).alloc (.cells #[.int .i64 0, .bool false, .slice none 0 0, .slice none 0 0, .slice none 0 0, .int .i64 0, .slice none 0 0, .slice none 0 0] 32)) w2 := bel_trans hb1 hb2
  have y2 : w.heap.size + 1 < w2.heap.size := by have h9 := hb2.size; omega
  clear hN hc1 hf1 hs1 j0
  obtain ⟨a2, c2, rfl⟩ := sliceC h2
  obtain ⟨a3, c3, rfl⟩ := sliceC h3
  obtain ⟨a4, c4, rfl⟩ := sliceC h4
  have H2 := hide h2
  have H3 := hide h3
  have H4 := hide h4
  clear h2 h3 h4
  go_wp2
  go_loopw [7] (fun iv wr => ∃ (i : Nat) (a6 : Option Addr) (c6 : Nat), iv = .int .i64 i ∧ i ≤ s ∧ wr.ownsRow (w2.heap.size + 1) 3 1 (.slice a6 i c6) i (List.replicate i (.int .i64 0)) ∧ BoxC wr w2.heap.size (.slice a2 s c2) (.slice a3 t c3) (.slice a4 t c4) (.slice a6 i c6) (.slice none 0 0) ∧ Kept (fun b => b = w2.heap.size) (w2.alloc (.cells #[.int .i64 0, .bool false, .slice a2 s c2, .slice a3 t c3, .slice a4 t c4, .int .i64 0, .slice none 0 0, .slice none 0 0] 32)) wr) (fun i _ => s - (intOf i).toNat)
  case atStart => exact ⟨0, none, 0, rfl, Nat.zero_le _, World.ownsRow_nil _ _ _ _, heap_alloc_new _ _, Kept.refl _ _⟩
  case round =>
    obtain ⟨i, a6, c6, rfl, hi, hO, hX, hK⟩ := hrel
    have hKs : w2.heap.size + 1 ≤ wr.heap.size := by have h9 := hK.size; simp at h9; omega
    have hOld : ∀ b, b < w2.heap.size → wr.heap[b]? = w2.heap[b]? := fun b hb => (hK.blk b (by simp; omega) (by omega)).trans (Below.heap_alloc _ _ _ hb)
    have hcO : ∀ b o, b < w2.heap.size → wr.cell? ⟨b, o, none⟩ = w2.cell? ⟨b, o, none⟩ := fun b o hb => World.cell?_of_block (hOld b hb)
    have j0 : wr.cell? ⟨w.heap.size, 0, none⟩ = some (.int .i64 s) := (hcO _ _ (by omega)).trans ((hB2.cell (p := ⟨w.heap.size, 0, none⟩) (by simp <;> omega)).trans (by simp [go_sem]))
    have j1 : wr.cell? ⟨w.heap.size, 1, none⟩ = some (.int .i64 t) := (hcO _ _ (by omega)).trans ((hB2.cell (p := ⟨w.heap.size, 1, none⟩) (by simp <;> omega)).trans (by simp [go_sem]))
    have HX := hide hX
    have hlt2 := hX.lt
    obtain ⟨⟨x0, x1, x2, x3, x4, x5, x6, x7⟩, xf⟩ := hX.cells
    have hge := hide (own_geV hO)
    have HO := hide hO
    clear hO hX
    by_cases hlt : (i : Int) < (s : Int)
    · have xf6 := xf 6
      clear xf hcO hOld
      go_wp2_with (at_builtin; go_loud (refine wpList_append_own _ rfl _ _ 26 rfl (w2.heap.size + 1) 3 i1 _ 1 8 Try.underlying26 hi1 hz10 hz11 hz12 rfl (by decide) (.slice a6 i c6) _ _ rfl (World.ownsRow.alloc (unhide HO) _) ⟨wr.heap.size, 0, none⟩ 1 1 [.int .i64 0] rfl rfl (cell_new1 _ rfl _ _) (by simp [Value.oneCell']) (by unfold maxLen; omega) (by omega) (by simp; omega) ?_); intro v' w5 hown' hgrow _; go_loud (obtain ⟨a6', c6', rfl⟩ := sliceC hown'; have hbX := ((Below.refl (w2.heap.size + 1) wr).alloc hKs (.cells #[.int .i64 0] 3)).grown hgrow (by simp; omega) (unhide hge); have q6 : w5.cell? ⟨w2.heap.size, 6, none⟩ = some (.slice a6 i c6) := (hbX.cell (p := ⟨w2.heap.size, 6, none⟩) (by simp)).trans x6; have qf : w5.frozen? ⟨w2.heap.size, 6, none⟩ = false := (hbX.frozen (p := ⟨w2.heap.size, 6, none⟩) (by simp)).trans xf6))
      rw [← rep_snoc] at hown'
      refine ⟨⟨i + 1, a6', c6', by simp, by omega, own_setC hown' (by simp), BoxC.set6 ((hbX.block _ (by omega)).trans (unhide HX)) _, Kept.set (hK.up (by simpa using hbX)) rfl _⟩, ?_⟩
      simp [intOf]; omega
    · obtain rfl : i = s := by omega
      go_wp2
      have hM : Hid (w2.heap.size + 1 ≤ wr.heap.size ∧ Below w2.heap.size w2 wr) := hide ⟨hKs, ⟨hK.os, hK.tape, hK.output, by have h9 := hK.size; simp at h9; omega, hOld⟩⟩
      have HJ := hide (And.intro j0 j1)
      clear j0 j1 x0 x1 x2 x3 x4 x5 x6 x7 xf hcO hOld hK
      (try clear hlt)
      generalize hwm : wr = wm at HO HX HJ hM hKs hlt2 ⊢
      clear hwm
      go_loopw [8] (fun iv wr => ∃ (n : Nat) (a7 : Option Addr) (c7 : Nat) (gs : List Nat), iv = .int .i64 n ∧ n ≤ t ∧ wr.ownsRow wm.heap.size 48 3 (.slice a7 n c7) n (flatSV (gs.map (mkP i))) ∧ gs.length = n ∧ Mks wr wm.heap.size i gs ∧ BoxC wr w2.heap.size (.slice a2 i c2) (.slice a3 t c3) (.slice a4 t c4) (.slice a6 i c6) (.slice a7 n c7) ∧ Kept (fun b => b = w2.heap.size) wm wr) (fun i _ => t - (intOf i).toNat)
      case atStart => exact ⟨0, none, 0, [], rfl, Nat.zero_le _, World.ownsRow_nil _ _ _ _, rfl, ⟨fun g hg => by simp at hg, List.Pairwise.nil⟩, unhide HX, Kept.refl _ _⟩
      case round =>
        obtain ⟨n, a7, c7, gs, rfl, hn, hO7, hgl, hMk, hX, hK⟩ := hrel
        have hKs2 : wm.heap.size ≤ wr.heap.size := hK.size
        have j0 : wr.cell? ⟨w.heap.size, 0, none⟩ = some (.int .i64 i) := (World.cell?_of_block (hK.blk w.heap.size (by omega) (show ¬ w.heap.size = w2.heap.size by omega))).trans (unhide HJ).1
        have j1 : wr.cell? ⟨w.heap.size, 1, none⟩ = some (.int .i64 t) := (World.cell?_of_block (hK.blk w.heap.size (by omega) (show ¬ w.heap.size = w2.heap.size by omega))).trans (unhide HJ).2
        have HX2 := hide hX
        obtain ⟨⟨x0, x1, x2, x3, x4, x5, x6, x7⟩, xf⟩ := hX.cells
        have hge := hide (own_geV hO7)
        have HO7 := hide hO7
        have HM := hide hMk
        have hltb := hX.lt
        clear hO7 hX hMk
        by_cases hlt : (n : Int) < (t : Int)
        · have xf7 := xf 7
          clear xf
          obtain ⟨C, ⟨hC, hCl⟩, hmk⟩ := mkIn0 i hs
          have yw : w.heap.size < wr.heap.size := by omega
          have yn : w.heap.size ≠ w2.heap.size := by omega
          have yn' : w2.heap.size ≠ w.heap.size := by omega
          go_wp2_with fail
          refine wp_region_held_drew (S := (fun W => W.cell? ⟨w.heap.size, 0, none⟩ = some (.int .i64 i) ∧ W.cell? ⟨w2.heap.size, 6, none⟩ = some (.slice a6 i c6) ∧ wr.heap.size ≤ W.heap.size)) (by kernel_rfl) ?_ (fun hHeld => ?_)
          · (try dsimp only); exact ⟨by first | (simp (maxDischargeDepth := 9) [go_sem, *]; done) | assumption, by first | (simp (maxDischargeDepth := 9) [go_sem, *]; done) | assumption, by simp <;> omega⟩
          refine kT 0 ?_ ?_ ?_
          rotate_left
          · (intro w9 hSw; (try dsimp only at hSw); go_simp <;> with_reducible rfl)
          try simp only [Act.put, tA, tZ, tS]
          refine kT 1 ?_ ?_ ?_
          rotate_left
          · (intro w9 hSw; (try dsimp only at hSw); go_simp <;> with_reducible rfl)
          try simp only [Act.put, tA, tZ, tS]
          refine kT 3 ?_ ?_ ?_
          rotate_left
          · (intro w9 hSw; (try dsimp only at hSw); go_simp <;> with_reducible rfl)
          try simp only [Act.put, tA, tZ, tS]
          refine kT 4 ?_ ?_ ?_
          rotate_left
          · (intro w9 hSw; (try dsimp only at hSw); go_simp <;> with_reducible rfl)
          try simp only [Act.put, tA, tZ, tS]
          refine wpAnyH_ready (rs := [2, 5]) (by kernel_rfl) (by simp) ?_
          refine AllReadyH.cons (by simp only [gA, gZ, gS]; rfl) (fun K hK => ?_) ?_
          · go_simp
            refine hK.out _ _ ?_ (fun hHeld2 => ?_)
            · (try dsimp only); exact ⟨by first | (simp (maxDischargeDepth := 9) [go_sem, *]; done) | assumption, by first | (simp (maxDischargeDepth := 9) [go_sem, *]; done) | assumption, by simp <;> omega⟩
            clear hK K hHeld
            have hHeld := hHeld2
            clear hHeld2
            try simp only [Act.put, tA, tZ, tS]
            refine wpAnyH_ready (rs := [5]) (by kernel_rfl) (by simp) ?_
            refine AllReadyH.cons (by simp only [gA, gZ, gS]; rfl) (fun K hK => ?_) AllReadyH.nil
            go_simp
            refine hK.out _ _ ?_ (fun hHeld2 => ?_)
            · (try dsimp only); exact ⟨by first | (simp (maxDischargeDepth := 9) [go_sem, *]; done) | assumption, by first | (simp (maxDischargeDepth := 9) [go_sem, *]; done) | assumption, by simp <;> omega⟩
            clear hK K hHeld
            have hHeld := hHeld2
            clear hHeld2
            try simp only [Act.put, tA, tZ, tS]
            refine kT 6 ?_ ?_ ?_
            rotate_left
            · (intro w9 hSw; (try dsimp only at hSw); go_simp <;> with_reducible rfl)
            try simp only [Act.put, tA, tZ, tS]
            refine wpAnyH_ready (rs := [7]) (by kernel_rfl) (by simp) ?_
            refine AllReadyH.cons (by simp only [gA, gZ, gS]; rfl) (fun K hK => ?_) AllReadyH.nil
            go_simp
            refine hK.out _ _ ?_ (fun hHeld2 => ?_)
            · (try dsimp only); exact ⟨by first | (simp (maxDischargeDepth := 9) [go_sem, *]; done) | assumption, by first | (simp (maxDischargeDepth := 9) [go_sem, *]; done) | assumption, by simp <;> omega⟩
            clear hK K hHeld
            have hHeld := hHeld2
            clear hHeld2
            try simp only [Act.put, tA, tZ, tS]
            refine wpAnyH_ready (rs := [8]) (by kernel_rfl) (by simp) ?_
            refine AllReadyH.cons (by simp only [gA, gZ, gS]; rfl) (fun K hK => ?_) AllReadyH.nil
            refine step_append_at rfl _ _ 28 rfl wm.heap.size 48 i3 _ 3 56 Try.underlying28 hi3 hz30 hz31 hz32 rfl (by decide) (.slice a7 n c7) n (flatSV (gs.map (mkP i))) rfl (World.ownsRow.alloc (World.ownsRow.alloc (unhide HO7).drew _) _) ⟨wr.heap.size + 1, 0, none⟩ 1 1 (SnV.cells (mkP i wr.heap.size)) rfl rfl (cell_new3 _ (by simp) _ _ _ _) (by simp [SnV.cells, Value.oneCell']) (by unfold maxLen; omega) (by omega) (by simp; omega) ?_
            intro v' w5 hown hgrow _
            obtain ⟨a7', c7', rfl⟩ := sliceC hown
            have hbX : Below wm.heap.size wr w5 := (((((Below.refl _ wr).drew).alloc (by simpa using hKs2) _).alloc (by simp; omega) _).grown hgrow (by simp; omega) (unhide hge))
            have q0 : w5.cell? ⟨w.heap.size, 0, none⟩ = some (.int .i64 i) := (hbX.cell (p := ⟨w.heap.size, 0, none⟩) (by simp; omega)).trans j0
            have q6 : w5.cell? ⟨w2.heap.size, 6, none⟩ = some (.slice a6 i c6) := (hbX.cell (p := ⟨w2.heap.size, 6, none⟩) (by simp; omega)).trans x6
            have q7 : w5.cell? ⟨w2.heap.size, 7, none⟩ = some (.slice a7 n c7) := (hbX.cell (p := ⟨w2.heap.size, 7, none⟩) (by simp; omega)).trans x7
            have qf : w5.frozen? ⟨w2.heap.size, 7, none⟩ = false := (hbX.frozen (p := ⟨w2.heap.size, 7, none⟩) (by simp; omega)).trans xf7
            have qz : wr.heap.size ≤ w5.heap.size := hbX.size
            refine hK.out _ _ ?_ (fun hHeld2 => ?_)
            · (try dsimp only); exact ⟨q0, q6, qz⟩
            clear hK K hHeld
            have hHeld := hHeld2
            clear hHeld2
            try simp only [Act.put, tA, tZ, tS]
            refine kT 9 ?_ ?_ ?_
            rotate_left
            · (intro w9 hSw; (try dsimp only at hSw); go_simp <;> with_reducible rfl)
            try simp only [Act.put, tA, tZ, tS]
            refine kT 10 ?_ ?_ ?_
            rotate_left
            · (intro w9 hSw; (try dsimp only at hSw); go_simp <;> with_reducible rfl)
            try simp only [Act.put, tA, tZ, tS]
            refine wpAnyH_ready (rs := [11]) (by kernel_rfl) (by simp) ?_
            refine AllReadyH.cons (by simp only [gA, gZ, gS]; rfl) (fun K hK => ?_) AllReadyH.nil
            go_simp
            refine hK.out _ _ ?_ (fun hHeld2 => ?_)
            · (try dsimp only); exact ⟨by first | (simp (maxDischargeDepth := 9) [go_sem, *]; done) | assumption, by first | (simp (maxDischargeDepth := 9) [go_sem, *]; done) | assumption, by simp <;> omega⟩
            clear hK K hHeld
            have hHeld := hHeld2
            clear hHeld2
            try simp only [Act.put, tA, tZ, tS]
            refine wpAnyH_done (by kernel_rfl) ?_ _
            go_wp2
            rw [← flat_gs] at hown
            have hMs : Mks w5 wm.heap.size i (gs ++ [wr.heap.size]) := Mks.step (Mks.snoc (W := wr.drew) (unhide HM) hKs2 (by omega) hC hCl) (World.ownsRow.alloc (unhide HO7).drew _) hgrow
            refine ⟨⟨n + 1, a7', c7', gs ++ [wr.heap.size], by simp, by omega, own_setC hown (by simp; omega), by simp [hgl], hMs.set (by simp; omega), BoxC.set7 ((hbX.block _ (by omega)).trans (unhide HX2)) _, Kept.set (hK.up hbX) rfl _⟩, ?_⟩
            simp [intOf]; omega
          refine AllReadyH.cons (by simp only [gA, gZ, gS]; rfl) (fun K hK => ?_) AllReadyH.nil
          go_simp
          refine hK.out _ _ ?_ (fun hHeld2 => ?_)
          · (try dsimp only); exact ⟨by first | (simp (maxDischargeDepth := 9) [go_sem, *]; done) | assumption, by first | (simp (maxDischargeDepth := 9) [go_sem, *]; done) | assumption, by simp <;> omega⟩
          clear hK K hHeld
          have hHeld := hHeld2
          clear hHeld2
          try simp only [Act.put, tA, tZ, tS]
          refine kT 6 ?_ ?_ ?_
          rotate_left
          · (intro w9 hSw; (try dsimp only at hSw); go_simp <;> with_reducible rfl)
          try simp only [Act.put, tA, tZ, tS]
          refine wpAnyH_ready (rs := [2, 7]) (by kernel_rfl) (by simp) ?_
          refine AllReadyH.cons (by simp only [gA, gZ, gS]; rfl) (fun K hK => ?_) ?_
          · go_simp
            refine hK.out _ _ ?_ (fun hHeld2 => ?_)
            · (try dsimp only); exact ⟨by first | (simp (maxDischargeDepth := 9) [go_sem, *]; done) | assumption, by first | (simp (maxDischargeDepth := 9) [go_sem, *]; done) | assumption, by simp <;> omega⟩
            clear hK K hHeld
            have hHeld := hHeld2
            clear hHeld2
            try simp only [Act.put, tA, tZ, tS]
            refine wpAnyH_ready (rs := [7]) (by kernel_rfl) (by simp) ?_
            refine AllReadyH.cons (by simp only [gA, gZ, gS]; rfl) (fun K hK => ?_) AllReadyH.nil
            go_simp
            refine hK.out _ _ ?_ (fun hHeld2 => ?_)
            · (try dsimp only); exact ⟨by first | (simp (maxDischargeDepth := 9) [go_sem, *]; done) | assumption, by first | (simp (maxDischargeDepth := 9) [go_sem, *]; done) | assumption, by simp <;> omega⟩
            clear hK K hHeld
            have hHeld := hHeld2
            clear hHeld2
            try simp only [Act.put, tA, tZ, tS]
            refine wpAnyH_ready (rs := [8]) (by kernel_rfl) (by simp) ?_
            refine AllReadyH.cons (by simp only [gA, gZ, gS]; rfl) (fun K hK => ?_) AllReadyH.nil
            refine step_append_at rfl _ _ 28 rfl wm.heap.size 48 i3 _ 3 56 Try.underlying28 hi3 hz30 hz31 hz32 rfl (by decide) (.slice a7 n c7) n (flatSV (gs.map (mkP i))) rfl (World.ownsRow.alloc (World.ownsRow.alloc (unhide HO7).drew _) _) ⟨wr.heap.size + 1, 0, none⟩ 1 1 (SnV.cells (mkP i wr.heap.size)) rfl rfl (cell_new3 _ (by simp) _ _ _ _) (by simp [SnV.cells, Value.oneCell']) (by unfold maxLen; omega) (by omega) (by simp; omega) ?_
            intro v' w5 hown hgrow _
            obtain ⟨a7', c7', rfl⟩ := sliceC hown
            have hbX : Below wm.heap.size wr w5 := (((((Below.refl _ wr).drew).alloc (by simpa using hKs2) _).alloc (by simp; omega) _).grown hgrow (by simp; omega) (unhide hge))
            have q0 : w5.cell? ⟨w.heap.size, 0, none⟩ = some (.int .i64 i) := (hbX.cell (p := ⟨w.heap.size, 0, none⟩) (by simp; omega)).trans j0
            have q6 : w5.cell? ⟨w2.heap.size, 6, none⟩ = some (.slice a6 i c6) := (hbX.cell (p := ⟨w2.heap.size, 6, none⟩) (by simp; omega)).trans x6
            have q7 : w5.cell? ⟨w2.heap.size, 7, none⟩ = some (.slice a7 n c7) := (hbX.cell (p := ⟨w2.heap.size, 7, none⟩) (by simp; omega)).trans x7
            have qf : w5.frozen? ⟨w2.heap.size, 7, none⟩ = false := (hbX.frozen (p := ⟨w2.heap.size, 7, none⟩) (by simp; omega)).trans xf7
            have qz : wr.heap.size ≤ w5.heap.size := hbX.size
            refine hK.out _ _ ?_ (fun hHeld2 => ?_)
            · (try dsimp only); exact ⟨q0, q6, qz⟩
            clear hK K hHeld
            have hHeld := hHeld2
            clear hHeld2
            try simp only [Act.put, tA, tZ, tS]
            refine kT 9 ?_ ?_ ?_
            rotate_left
            · (intro w9 hSw; (try dsimp only at hSw); go_simp <;> with_reducible rfl)
            try simp only [Act.put, tA, tZ, tS]
            refine kT 10 ?_ ?_ ?_
            rotate_left
            · (intro w9 hSw; (try dsimp only at hSw); go_simp <;> with_reducible rfl)
            try simp only [Act.put, tA, tZ, tS]
            refine wpAnyH_ready (rs := [11]) (by kernel_rfl) (by simp) ?_
            refine AllReadyH.cons (by simp only [gA, gZ, gS]; rfl) (fun K hK => ?_) AllReadyH.nil
            go_simp
            refine hK.out _ _ ?_ (fun hHeld2 => ?_)
            · (try dsimp only); exact ⟨by first | (simp (maxDischargeDepth := 9) [go_sem, *]; done) | assumption, by first | (simp (maxDischargeDepth := 9) [go_sem, *]; done) | assumption, by simp <;> omega⟩
            clear hK K hHeld
            have hHeld := hHeld2
            clear hHeld2
            try simp only [Act.put, tA, tZ, tS]
            refine wpAnyH_done (by kernel_rfl) ?_ _
            go_wp2
            rw [← flat_gs] at hown
            have hMs : Mks w5 wm.heap.size i (gs ++ [wr.heap.size]) := Mks.step (Mks.snoc (W := wr.drew) (unhide HM) hKs2 (by omega) hC hCl) (World.ownsRow.alloc (unhide HO7).drew _) hgrow
            refine ⟨⟨n + 1, a7', c7', gs ++ [wr.heap.size], by simp, by omega, own_setC hown (by simp; omega), by simp [hgl], hMs.set (by simp; omega), BoxC.set7 ((hbX.block _ (by omega)).trans (unhide HX2)) _, Kept.set (hK.up hbX) rfl _⟩, ?_⟩
            simp [intOf]; omega
          refine AllReadyH.cons (by simp only [gA, gZ, gS]; rfl) (fun K hK => ?_) AllReadyH.nil
          go_simp
          refine hK.out _ _ ?_ (fun hHeld2 => ?_)
          · (try dsimp only); exact ⟨by first | (simp (maxDischargeDepth := 9) [go_sem, *]; done) | assumption, by first | (simp (maxDischargeDepth := 9) [go_sem, *]; done) | assumption, by simp <;> omega⟩
          clear hK K hHeld
          have hHeld := hHeld2
          clear hHeld2
          try simp only [Act.put, tA, tZ, tS]
          refine wpAnyH_ready (rs := [2]) (by kernel_rfl) (by simp) ?_
          refine AllReadyH.cons (by simp only [gA, gZ, gS]; rfl) (fun K hK => ?_) AllReadyH.nil
          go_simp
          refine hK.out _ _ ?_ (fun hHeld2 => ?_)
          · (try dsimp only); exact ⟨by first | (simp (maxDischargeDepth := 9) [go_sem, *]; done) | assumption, by first | (simp (maxDischargeDepth := 9) [go_sem, *]; done) | assumption, by simp <;> omega⟩
          clear hK K hHeld
          have hHeld := hHeld2
          clear hHeld2
          try simp only [Act.put, tA, tZ, tS]
          refine wpAnyH_ready (rs := [8]) (by kernel_rfl) (by simp) ?_
          refine AllReadyH.cons (by simp only [gA, gZ, gS]; rfl) (fun K hK => ?_) AllReadyH.nil
          refine step_append_at rfl _ _ 28 rfl wm.heap.size 48 i3 _ 3 56 Try.underlying28 hi3 hz30 hz31 hz32 rfl (by decide) (.slice a7 n c7) n (flatSV (gs.map (mkP i))) rfl (World.ownsRow.alloc (World.ownsRow.alloc (unhide HO7).drew _) _) ⟨wr.heap.size + 1, 0, none⟩ 1 1 (SnV.cells (mkP i wr.heap.size)) rfl rfl (cell_new3 _ (by simp) _ _ _ _) (by simp [SnV.cells, Value.oneCell']) (by unfold maxLen; omega) (by omega) (by simp; omega) ?_
          intro v' w5 hown hgrow _
          obtain ⟨a7', c7', rfl⟩ := sliceC hown
          have hbX : Below wm.heap.size wr w5 := (((((Below.refl _ wr).drew).alloc (by simpa using hKs2) _).alloc (by simp; omega) _).grown hgrow (by simp; omega) (unhide hge))
          have q0 : w5.cell? ⟨w.heap.size, 0, none⟩ = some (.int .i64 i) := (hbX.cell (p := ⟨w.heap.size, 0, none⟩) (by simp; omega)).trans j0
          have q6 : w5.cell? ⟨w2.heap.size, 6, none⟩ = some (.slice a6 i c6) := (hbX.cell (p := ⟨w2.heap.size, 6, none⟩) (by simp; omega)).trans x6
          have q7 : w5.cell? ⟨w2.heap.size, 7, none⟩ = some (.slice a7 n c7) := (hbX.cell (p := ⟨w2.heap.size, 7, none⟩) (by simp; omega)).trans x7
          have qf : w5.frozen? ⟨w2.heap.size, 7, none⟩ = false := (hbX.frozen (p := ⟨w2.heap.size, 7, none⟩) (by simp; omega)).trans xf7
          have qz : wr.heap.size ≤ w5.heap.size := hbX.size
          refine hK.out _ _ ?_ (fun hHeld2 => ?_)
          · (try dsimp only); exact ⟨q0, q6, qz⟩
          clear hK K hHeld
          have hHeld := hHeld2
          clear hHeld2
          try simp only [Act.put, tA, tZ, tS]
          refine kT 9 ?_ ?_ ?_
          rotate_left
          · (intro w9 hSw; (try dsimp only at hSw); go_simp <;> with_reducible rfl)
          try simp only [Act.put, tA, tZ, tS]
          refine kT 10 ?_ ?_ ?_
          rotate_left
          · (intro w9 hSw; (try dsimp only at hSw); go_simp <;> with_reducible rfl)
          try simp only [Act.put, tA, tZ, tS]
          refine wpAnyH_ready (rs := [11]) (by kernel_rfl) (by simp) ?_
          refine AllReadyH.cons (by simp only [gA, gZ, gS]; rfl) (fun K hK => ?_) AllReadyH.nil
          go_simp
          refine hK.out _ _ ?_ (fun hHeld2 => ?_)
          · (try dsimp only); exact ⟨by first | (simp (maxDischargeDepth := 9) [go_sem, *]; done) | assumption, by first | (simp (maxDischargeDepth := 9) [go_sem, *]; done) | assumption, by simp <;> omega⟩
          clear hK K hHeld
          have hHeld := hHeld2
          clear hHeld2
          try simp only [Act.put, tA, tZ, tS]
          refine wpAnyH_done (by kernel_rfl) ?_ _
          go_wp2
          rw [← flat_gs] at hown
          have hMs : Mks w5 wm.heap.size i (gs ++ [wr.heap.size]) := Mks.step (Mks.snoc (W := wr.drew) (unhide HM) hKs2 (by omega) hC hCl) (World.ownsRow.alloc (unhide HO7).drew _) hgrow
          refine ⟨⟨n + 1, a7', c7', gs ++ [wr.heap.size], by simp, by omega, own_setC hown (by simp; omega), by simp [hgl], hMs.set (by simp; omega), BoxC.set7 ((hbX.block _ (by omega)).trans (unhide HX2)) _, Kept.set (hK.up hbX) rfl _⟩, ?_⟩
          simp [intOf]; omega
        · obtain rfl : n = t := by omega
          have hR : BoxC wr (w.heap.size + 1) (.slice none 0 0) (.slice none 0 0) (.slice none 0 0) (.slice none 0 0) (.slice none 0 0) := (hK.blk _ (by omega) (show ¬ w.heap.size + 1 = w2.heap.size by omega)).trans (((unhide hM).2.block _ (by omega)).trans ((hB2.block _ (by simp)).trans (blk_new (by simp))))
          obtain ⟨⟨r0, r1, r2, r3, r4, r5, r6, r7⟩, rf⟩ := hR.cells
          have yw : w.heap.size + 1 < wr.heap.size := by omega
          have yn : w.heap.size + 1 ≠ w2.heap.size := by omega
          have yn' : w2.heap.size ≠ w.heap.size + 1 := by omega
          go_wp2
          refine bodyPost_ret (v := ckV (.slice a2 i c2) (.slice a3 n c3) (.slice a4 n c4) (.slice a6 i c6) (.slice a7 n c7)) (by simp (maxDischargeDepth := 9) [results, ckV, Try.results7, go_sem, *]) rfl ?_
          have g2 : wr.ownsRow w1.heap.size 3 1 (.slice a2 i c2) i (List.replicate i (.int .i64 (-1))) := own_upB (unhide H2) (fun b hb => by
            have h9 := (World.ownsRow.lt (unhide H2) b hb).2
            exact (hK.blk b (by omega) (show ¬ b = w2.heap.size by omega)).trans ((unhide hM).2.block b (by omega)))
          have g3 : wr.ownsRow w1.heap.size 4 1 (.slice a3 n c3) n (List.replicate n (.bool false)) := own_upB (unhide H3) (fun b hb => by
            have h9 := (World.ownsRow.lt (unhide H3) b hb).2
            exact (hK.blk b (by omega) (show ¬ b = w2.heap.size by omega)).trans ((unhide hM).2.block b (by omega)))
          have g4 : wr.ownsRow w1.heap.size 48 3 (.slice a4 n c4) n (flatSV (List.replicate n noSn)) := own_upB (unhide H4) (fun b hb => by
            have h9 := (World.ownsRow.lt (unhide H4) b hb).2
            exact (hK.blk b (by omega) (show ¬ b = w2.heap.size by omega)).trans ((unhide hM).2.block b (by omega)))
          have g6 : wr.ownsRow (w2.heap.size + 1) 3 1 (.slice a6 i c6) i (List.replicate i (.int .i64 0)) := own_upB (unhide HO) (fun b hb => by
            have h9 := World.ownsRow.lt (unhide HO) b hb
            exact hK.blk b h9.2 (show ¬ b = w2.heap.size by omega))
          have l2 := World.ownsRow.lt (unhide H2)
          have l4 := World.ownsRow.lt (unhide H4)
          have l6 := World.ownsRow.lt (unhide HO)
          have l7 := World.ownsRow.lt (unhide HO7)
          have hW : Below w.heap.size w wr := (hbb.trans ((hB2.mono (by simp <;> omega)).trans ((unhide hM).2.mono (by omega)))).trans (⟨hK.os, hK.tape, hK.output, hK.size, fun b hb => hK.blk b (by omega) (show ¬ b = w2.heap.size by omega)⟩)
          refine newc_is (gs := gs) (World.ownsRow.mono (base := w1.heap.size) (by repeat (first | (with_reducible exact g2) | (with_reducible refine own_setC ?_ (by simp; omega)))) (by omega)) (World.ownsRow.mono (base := w1.heap.size) (by repeat (first | (with_reducible exact g3) | (with_reducible refine own_setC ?_ (by simp; omega)))) (by omega)) (World.ownsRow.mono (base := w1.heap.size) (by repeat (first | (with_reducible exact g4) | (with_reducible refine own_setC ?_ (by simp; omega)))) (by omega)) (World.ownsRow.mono (base := w2.heap.size + 1) (by repeat (first | (with_reducible exact g6) | (with_reducible refine own_setC ?_ (by simp; omega)))) (by omega)) (World.ownsRow.mono (base := wm.heap.size) (by repeat (first | (with_reducible exact unhide HO7) | (with_reducible refine own_setC ?_ (by simp; omega)))) (by omega)) hgl ?_ (fun b hb hc => ?_) (fun b hb hc => ?_) (fun g hg => ⟨fun hc => ?_, fun hc => ?_⟩) (by omega) (by omega) (belA)
          · refine Mks.mono (B := wm.heap.size) ?_ (by omega)
            repeat (first | (with_reducible exact unhide HM) | (with_reducible refine Mks.set ?_ (by simp; omega)))
          · have := l2 b hb; have := l6 b hc; omega
          · have := l4 b hb; have := l7 b hc; omega
          · have := l2 g hc; have := World.ownsRow.lt ((unhide HM).1 g hg) g rfl; omega
          · have := l6 g hc; have := World.ownsRow.lt ((unhide HM).1 g hg) g rfl; omega

theorem specnewc_any (s t k z p l e : Int) (b : Bool) (v r : Int) (w : World) : Calls Try.prog 7 #[.agg #[.int .i64 s, .int .i64 t, .int .i64 k, .int .i64 z, .int .i64 p, .int .i64 l, .int .i64 e, .bool b, .int .i64 v, .int .i64 r]] w fun e' w' => NewC w (ckOf s t k z p l e v r) e' w' := by
  cases hj : okJob s t k z p l e v r
  · rw [show ckOf s t k z p l e v r = ckZero by unfold ckOf; rw [hj]; rfl]
    exact specnewc_no s t k z p l e b v r w hj
  · obtain ⟨hs, ht⟩ := okJob_st hj
    rw [show ckOf s t k z p l e v r = ckNew s.toNat t.toNat by unfold ckOf; rw [hj]; rfl]
    obtain ⟨S, rfl⟩ := Int.eq_ofNat_of_zero_le (show 0 ≤ s by omega)
    obtain ⟨T, rfl⟩ := Int.eq_ofNat_of_zero_le (show 0 ≤ t by omega)
    exact specnewc_ok S T k z p l e b v r w hj (by omega) (by omega)
end Go.Proofs.Ytabphkmhafflbaa
