/- Proved here: whole tasks marked through and through, and found again. -/
import Derived.Test.YtppdfmclhklkhaaTskM
import Derived.Test.YtppdfmclhklkhaaRkOp
import Derived.Test.YtppdfmclhklkhaaRkPan
import Derived.Test.YtppdfmclhklkhaaRkLat
namespace Go.Proofs.Ytppdfmclhklkhaa
open Go.ChangeShapes Go.WideShapes Go.ChangeAt Go.RowKit
set_option linter.unusedVariables false

theorem WrOr.keepB {S : Nat → Prop} {W W' : World} {a : Option Addr} {n cap : Nat} (h : WrOr W a n cap) (k : Kept S W W') (hs : ∀ b, rowOr a n = some b → ¬ S b) : WrOr W' a n cap := by
  rcases h with h | ⟨g, ha, hB, hc⟩
  · exact Or.inl h
  · by_cases h0 : n = 0
    · exact Or.inl h0
    · obtain ⟨cur, c1, c2⟩ := hB
      exact Or.inr ⟨g, ha, ⟨cur, (k.blk g (Array.getElem?_eq_some_iff.1 c1).1 (hs g (by rw [ha]; exact rowOr_pos h0 g 0))).trans c1, c2⟩, hc⟩
theorem MarkedKOr.keepB {S : Nat → Prop} {W W' : World} {a : Option Addr} {n : Nat} {K : Int} (h : MarkedKOr W a n K) (k : Kept S W W') (hs : ∀ b, rowOr a n = some b → ¬ S b) : MarkedKOr W' a n K := by
  rcases h with h | ⟨g, ha, hM⟩
  · exact Or.inl h
  · by_cases h0 : n = 0
    · exact Or.inl h0
    · exact (show MarkedKOr W a n K from Or.inr ⟨g, ha, hM⟩).keep (fun g' o' hp ha' => k.blk g' (by rw [ha] at ha'; cases ha'; exact (hM 0 (by omega)).lt) (hs g' (by rw [ha']; exact rowOr_pos h0 g' o')))
theorem WrPn.keepB {S : Nat → Prop} {W W' : World} {a : Option Addr} {n cap : Nat} (h : WrPn W a n cap) (k : Kept S W W') (hs : ∀ b, rowPn a n = some b → ¬ S b) : WrPn W' a n cap := by
  rcases h with h | ⟨g, ha, hB, hc⟩
  · exact Or.inl h
  · by_cases h0 : n = 0
    · exact Or.inl h0
    · obtain ⟨cur, c1, c2⟩ := hB
      exact Or.inr ⟨g, ha, ⟨cur, (k.blk g (Array.getElem?_eq_some_iff.1 c1).1 (hs g (by rw [ha]; exact rowPn_pos h0 g 0))).trans c1, c2⟩, hc⟩
theorem MarkedKPn.keepB {S : Nat → Prop} {W W' : World} {a : Option Addr} {n : Nat} {K : Int} (h : MarkedKPn W a n K) (k : Kept S W W') (hs : ∀ b, rowPn a n = some b → ¬ S b) : MarkedKPn W' a n K := by
  rcases h with h | ⟨g, ha, hM⟩
  · exact Or.inl h
  · by_cases h0 : n = 0
    · exact Or.inl h0
    · exact (show MarkedKPn W a n K from Or.inr ⟨g, ha, hM⟩).keep (fun g' o' hp ha' => k.blk g' (by rw [ha] at ha'; cases ha'; exact (hM 0 (by omega)).lt) (hs g' (by rw [ha']; exact rowPn_pos h0 g' o')))
theorem WrLp.keepB {S : Nat → Prop} {W W' : World} {a : Option Addr} {n cap : Nat} (h : WrLp W a n cap) (k : Kept S W W') (hs : ∀ b, rowLp a n = some b → ¬ S b) : WrLp W' a n cap := by
  rcases h with h | ⟨g, ha, hB, hc⟩
  · exact Or.inl h
  · by_cases h0 : n = 0
    · exact Or.inl h0
    · obtain ⟨cur, c1, c2⟩ := hB
      exact Or.inr ⟨g, ha, ⟨cur, (k.blk g (Array.getElem?_eq_some_iff.1 c1).1 (hs g (by rw [ha]; exact rowLp_pos h0 g 0))).trans c1, c2⟩, hc⟩
theorem MarkedKLp.keepB {S : Nat → Prop} {W W' : World} {a : Option Addr} {n : Nat} {K : Int} (h : MarkedKLp W a n K) (k : Kept S W W') (hs : ∀ b, rowLp a n = some b → ¬ S b) : MarkedKLp W' a n K := by
  rcases h with h | ⟨g, ha, hM⟩
  · exact Or.inl h
  · by_cases h0 : n = 0
    · exact Or.inl h0
    · exact (show MarkedKLp W a n K from Or.inr ⟨g, ha, hM⟩).keep (fun g' o' hp ha' => k.blk g' (by rw [ha] at ha'; cases ha'; exact (hM 0 (by omega)).lt) (hs g' (by rw [ha']; exact rowLp_pos h0 g' o')))
theorem markStK_any (K : Int) (h0K : 0 ≤ K) (hK : K ≤ 8796093022208) (m : Int) (a : Option Addr) (n cap : Nat) (w : World) (h : WrOr w a n cap) (hn : n ≤ 1048576) : Calls Try.prog 16 #[.agg #[.int .i64 m, .slice a n cap], .int .i64 K] w fun e w' => e = .returned (.int .i64 (K + 13 * (n : Int))) ∧ MarkedKOr w' a n K ∧ Kept (fun b => rowOr a n = some b) w w' := by
  go_enter Try.func16, Try.ntmps16
  go_wp2_with fail
  refine (markKOr_any K h0K (by omega) a n cap _ (h.below (bel_one _ _)) hn).mono ?_
  rintro e w1 ⟨rfl, hM, hg⟩
  go_wp2
  go_ret
  exact ⟨rfl, hM, (Kept.of_below (bel_one _ _)).trans (Kept.of_grown hg (fun b hb => hb))⟩
theorem heldStK_any (K : Int) (h0K : 0 ≤ K) (hK : K ≤ 8796093022208) (m : Int) (a : Option Addr) (n cap : Nat) (w : World) (h : MarkedKOr w a n K) (hn : n ≤ 1048576) : Calls Try.prog 44 #[.agg #[.int .i64 m, .slice a n cap], .int .i64 K] w fun e w' => e = .returned (.int .i64 (K + 13 * (n : Int))) ∧ Below w.heap.size w w' := by
  go_enter Try.func44, Try.ntmps44
  go_wp2_with (go_at_call 71; refine (heldKOr_any K h0K (by omega) a n cap _ (h.below (bel_one _ _)) hn).mono ?_; rintro e w1 ⟨rfl, hw⟩; obtain rfl := hw.symm; clear hw)
  go_ret
  exact ⟨rfl, (by repeat (first | (with_reducible exact Below.refl _ _) | (with_reducible assumption) | (with_reducible refine bel_set ?_ (by first | (simp; done) | (simp; omega)) _) | (with_reducible refine bel_alloc ?_ _) | (with_reducible refine bel_drew ?_) | (with_reducible refine bel_drewN ?_ _) | (with_reducible refine bel_trans ?_ (by with_reducible assumption))))⟩

set_option maxRecDepth 20000 in
theorem markTxK_any (K : Int) (h0K : 0 ≤ K) (hK : K ≤ 8796093022208) (n : Int) (pa : Option Addr) (pl pc : Nat) (la : Option Addr) (ll lc : Nat) (w : World) (h1 : WrPn w pa pl pc) (h2 : WrLp w la ll lc) (hs : ∀ b, rowPn pa pl = some b → rowLp la ll ≠ some b) (hn1 : pl ≤ 1048576) (hn2 : ll ≤ 1048576) : Calls Try.prog 42 #[.agg #[.int .i64 n, .slice pa pl pc, .slice la ll lc], .int .i64 K] w fun e w' => e = .returned (.int .i64 (K + 9 * (pl : Int) + 7 * (ll : Int))) ∧ (MarkedKPn w' pa pl K ∧ MarkedKLp w' la ll (K + 9 * (pl : Int))) ∧ Kept (fun b => rowPn pa pl = some b ∨ rowLp la ll = some b) w w' := by
  have bb : Below w.heap.size w (w.alloc (.cells #[.int .i64 n, .slice pa pl pc, .slice la ll lc] 36)) := bel_one _ _
  have k1 := h1.below bb
  have k2 := h2.below bb
  go_enter Try.func42, Try.ntmps42
  go_wp2_with fail
  refine (markKPn_any K h0K (by omega) pa pl pc _ k1 hn1).mono ?_
  rintro e w1 ⟨rfl, hM1, hg1⟩
  have hz : w.heap.size < w1.heap.size := by have h9 := hg1.size; simp at h9; omega
  have hb0 : w1.heap[w.heap.size]? = (w.alloc (.cells #[.int .i64 n, .slice pa pl pc, .slice la ll lc] 36)).heap[w.heap.size]? := hg1.block _ (by simp) (fun e => by
    rcases h1 with h | ⟨g, ha, hB, _⟩
    · rw [h, rowPn_zero] at e; cases e
    · by_cases h0 : pl = 0
      · rw [h0, rowPn_zero] at e; cases e
      · rw [ha, rowPn_pos h0] at e; cases e; exact absurd hB.lt (Nat.lt_irrefl _))
  have c0 : w1.cell? ⟨w.heap.size, 0, none⟩ = some (.int .i64 n) := (World.cell?_of_block (a := ⟨w.heap.size, 0, none⟩) hb0).trans (by simp [go_sem])
  have c1 : w1.cell? ⟨w.heap.size, 1, none⟩ = some (.slice pa pl pc) := (World.cell?_of_block (a := ⟨w.heap.size, 1, none⟩) hb0).trans (by simp [go_sem])
  have c2 : w1.cell? ⟨w.heap.size, 2, none⟩ = some (.slice la ll lc) := (World.cell?_of_block (a := ⟨w.heap.size, 2, none⟩) hb0).trans (by simp [go_sem])
  have K1 : Kept (fun b => rowPn pa pl = some b) (w.alloc (.cells #[.int .i64 n, .slice pa pl pc, .slice la ll lc] 36)) w1 := Kept.of_grown hg1 (fun b hb => hb)
  have k3 := k2.keepB K1 (fun b hb hS => hs b hS hb)
  clear hb0
  go_wp2_with fail
  refine (markKLp_any (K + 9 * (pl : Int)) (by omega) (by omega) la ll lc _ k3 hn2).mono ?_
  rintro e w2 ⟨rfl, hM2, hg2⟩
  have K2 : Kept (fun b => rowLp la ll = some b) w1 w2 := Kept.of_grown hg2 (fun b hb => hb)
  go_wp2
  go_ret
  exact ⟨rfl, ⟨hM1.keepB K2 (fun b hb hS => hs b hb hS), hM2⟩, ((Kept.of_below bb).trans (K1.mono (fun b hb => Or.inl hb))).trans (K2.mono (fun b hb => Or.inr hb))⟩

set_option maxRecDepth 20000 in
theorem heldTxK_any (K : Int) (h0K : 0 ≤ K) (hK : K ≤ 8796093022208) (n : Int) (pa : Option Addr) (pl pc : Nat) (la : Option Addr) (ll lc : Nat) (w : World) (h1 : MarkedKPn w pa pl K) (h2 : MarkedKLp w la ll (K + 9 * (pl : Int))) (hn1 : pl ≤ 1048576) (hn2 : ll ≤ 1048576) : Calls Try.prog 45 #[.agg #[.int .i64 n, .slice pa pl pc, .slice la ll lc], .int .i64 K] w fun e w' => e = .returned (.int .i64 (K + 9 * (pl : Int) + 7 * (ll : Int))) ∧ Below w.heap.size w w' := by
  go_enter Try.func45, Try.ntmps45
  go_wp2_with (first
    | (go_at_call 72; refine (heldKPn_any K h0K (by omega) pa pl pc _ (h1.below (bel_one _ _)) hn1).mono ?_; rintro e w1 ⟨rfl, hw⟩; obtain rfl := hw.symm; clear hw)
    | (go_at_call 73; refine (heldKLp_any (K + 9 * (pl : Int)) (by omega) (by omega) la ll lc _ (h2.below (bel_one _ _)) hn2).mono ?_; rintro e w1 ⟨rfl, hw⟩; obtain rfl := hw.symm; clear hw))
  go_ret
  exact ⟨rfl, (by repeat (first | (with_reducible exact Below.refl _ _) | (with_reducible assumption) | (with_reducible refine bel_set ?_ (by first | (simp; done) | (simp; omega)) _) | (with_reducible refine bel_alloc ?_ _) | (with_reducible refine bel_drew ?_) | (with_reducible refine bel_drewN ?_ _) | (with_reducible refine bel_trans ?_ (by with_reducible assumption))))⟩

/-- A task that may be written, each part of it in blocks of its own; the blocks of a task; a task that is marked. -/
structure WrTk (W : World) (ia : Option Addr) (il ic : Nat) (qs : List QV) (oa : Option Addr) (ol oc : Nat) (pa : Option Addr) (pl pc : Nat) (la : Option Addr) (ll lc : Nat) : Prop where
  ti : WrTi W ia il ic qs
  ro : WrOr W oa ol oc
  pn : WrPn W pa pl pc
  lp : WrLp W la ll lc
  lims : il ≤ 1048576 ∧ ol ≤ 1048576 ∧ pl ≤ 1048576 ∧ ll ≤ 1048576
  s1 : ∀ b, TiS ia il qs b → rowOr oa ol ≠ some b ∧ rowPn pa pl ≠ some b ∧ rowLp la ll ≠ some b
  s2 : ∀ b, rowOr oa ol = some b → rowPn pa pl ≠ some b ∧ rowLp la ll ≠ some b
  s3 : ∀ b, rowPn pa pl = some b → rowLp la ll ≠ some b
def TkS (ia : Option Addr) (il : Nat) (qs : List QV) (oa : Option Addr) (ol : Nat) (pa : Option Addr) (pl : Nat) (la : Option Addr) (ll : Nat) (b : Nat) : Prop := TiS ia il qs b ∨ rowOr oa ol = some b ∨ rowPn pa pl = some b ∨ rowLp la ll = some b
structure MarkedTk (W : World) (ia : Option Addr) (il : Nat) (qs : List QV) (oa : Option Addr) (ol : Nat) (pa : Option Addr) (pl : Nat) (la : Option Addr) (ll : Nat) : Prop where
  ti : MarkedTi W ia il 1 qs
  ro : MarkedKOr W oa ol (kUp 1 qs)
  pn : MarkedKPn W pa pl (kUp 1 qs + 13 * (ol : Int))
  lp : MarkedKLp W la ll (kUp 1 qs + 13 * (ol : Int) + 9 * (pl : Int))
  lims : il ≤ 1048576 ∧ ol ≤ 1048576 ∧ pl ≤ 1048576 ∧ ll ≤ 1048576
theorem MarkedTi.below {W W' : World} {a : Option Addr} {n : Nat} {K : Int} {qs : List QV} (h : MarkedTi W a n K qs) (hb : Below W.heap.size W W') : MarkedTi W' a n K qs := by
  refine ⟨h.len, h.lim, ?_⟩
  rcases h.mem with h0 | ⟨g, ha, hM⟩
  · exact Or.inl h0
  · refine Or.inr ⟨g, ha, fun i q hi hx => ?_⟩
    obtain ⟨h0, h1, h2, h3⟩ := hM i q hi hx
    have hg := cell_lt h0
    exact ⟨(hb.cell (p := ⟨g, _, none⟩) hg).trans h0, h1.below hb, (hb.cell (p := ⟨g, _, none⟩) hg).trans h2, (hb.cell (p := ⟨g, _, none⟩) hg).trans h3⟩
theorem MarkedTk.below {W W' : World} {ia oa pa la : Option Addr} {il ol pl ll : Nat} {qs : List QV} (h : MarkedTk W ia il qs oa ol pa pl la ll) (hb : Below W.heap.size W W') : MarkedTk W' ia il qs oa ol pa pl la ll := ⟨h.ti.below hb, h.ro.below hb, h.pn.below hb, h.lp.below hb, h.lims⟩
def kTk (qs : List QV) (ol pl ll : Nat) : Int := kUp 1 qs + 13 * (ol : Int) + 9 * (pl : Int) + 7 * (ll : Int)
theorem kUp_all (K : Int) (qs : List QV) (h : ∀ (i : Nat) (q : QV), qs[i]? = some q → q.l ≤ 1048576) (hi : qs.length ≤ 1048576) : K ≤ kUp K qs ∧ kUp K qs ≤ K + 5497560662016 := by
  have := kUp_at K qs qs.length h hi
  rwa [List.take_length] at this

theorem WrTi.lts {W : World} {a : Option Addr} {n cap : Nat} {qs : List QV} (h : WrTi W a n cap qs) : ∀ b, TiS a n qs b → b < W.heap.size := by
  intro b hb
  by_cases h0 : n = 0
  · have h1 := h.len
    rw [h0] at h1
    obtain rfl := List.eq_nil_of_length_eq_zero h1
    rcases hb with hb | ⟨i, q, hx, _⟩
    · unfold rowTi at hb; rw [if_pos h0] at hb; cases hb
    · simp at hx
  · obtain ⟨g, ha, hB, _, hR⟩ := h.mem.resolve_left h0
    rcases hb with hb | ⟨i, q, hx, hq⟩
    · rw [ha, rowTi_pos h0] at hb; cases hb; exact hB.lt
    · obtain ⟨_, h1, _⟩ := hR i q hx
      unfold QV.blk at hq
      rcases h1 with h1 | ⟨g', ha', hBl, _⟩
      · rw [h1, rowIw_zero] at hq; cases hq
      · by_cases h2 : q.l = 0
        · rw [h2, rowIw_zero] at hq; cases hq
        · rw [ha', rowIw_pos h2] at hq; cases hq; exact hBl.lt
theorem WrTi.below {W W' : World} {a : Option Addr} {n cap : Nat} {qs : List QV} (h : WrTi W a n cap qs) (hb : Below W.heap.size W W') : WrTi W' a n cap qs := by
  refine ⟨h.len, h.lim, ?_, h.apart⟩
  rcases h.mem with h0 | ⟨g, ha, hB, hc, hR⟩
  · exact Or.inl h0
  · refine Or.inr ⟨g, ha, hB.below hb hB.lt, hc, fun i q hx => ?_⟩
    obtain ⟨h0, h1, h2⟩ := hR i q hx
    exact ⟨(hb.cell (p := ⟨g, _, none⟩) hB.lt).trans h0, h1.below hb, h2⟩
theorem WrTk.below {W W' : World} {ia oa pa la : Option Addr} {il ic ol oc pl pc ll lc : Nat} {qs : List QV} (h : WrTk W ia il ic qs oa ol oc pa pl pc la ll lc) (hb : Below W.heap.size W W') : WrTk W' ia il ic qs oa ol oc pa pl pc la ll lc := ⟨h.ti.below hb, h.ro.below hb, h.pn.below hb, h.lp.below hb, h.lims, h.s1, h.s2, h.s3⟩

set_option maxRecDepth 20000 in
set_option maxHeartbeats 1000000 in
theorem markTk_any (ia : Option Addr) (il ic : Nat) (om : Int) (oa : Option Addr) (ol oc : Nat) (wl pn : Int) (pa : Option Addr) (pl pc : Nat) (la : Option Addr) (ll lc : Nat) (qs : List QV) (w : World) (h : WrTk w ia il ic qs oa ol oc pa pl pc la ll lc) : Calls Try.prog 18 #[.agg #[.slice ia il ic, .int .i64 om, .slice oa ol oc, .int .i64 wl, .int .i64 pn, .slice pa pl pc, .slice la ll lc], .int .i64 1] w fun e w' => e = .returned (.int .i64 (kTk qs ol pl ll)) ∧ MarkedTk w' ia il qs oa ol pa pl la ll ∧ Kept (TkS ia il qs oa ol pa pl la ll) w w' := by
  have bb : Below w.heap.size w (w.alloc (.cells #[.slice ia il ic, .int .i64 om, .slice oa ol oc, .int .i64 wl, .int .i64 pn, .slice pa pl pc, .slice la ll lc] 38)) := bel_one _ _
  have hlt := h.ti.lts
  obtain ⟨h1, h2, h3, h4, ⟨l1, l2, l3, l4⟩, s1, s2, s3⟩ := h.below bb
  have hor : rowOr oa ol ≠ some w.heap.size := fun e => by
    rcases h.ro with h | ⟨g, ha, hB, _⟩
    · rw [h, rowOr_zero] at e; cases e
    · by_cases h0 : ol = 0
      · rw [h0, rowOr_zero] at e; cases e
      · rw [ha, rowOr_pos h0] at e; cases e; exact absurd hB.lt (Nat.lt_irrefl _)
  have hku := kUp_all 1 qs h1.lim (by rw [h1.len]; exact l1)
  go_enter Try.func18, Try.ntmps18
  go_wp2_with fail
  refine (markTi_any 1 (by omega) (by omega) ia il ic qs _ h1 l1).mono ?_
  rintro e w1 ⟨rfl, hM1, hK1⟩
  have hz1 : w.heap.size < w1.heap.size := by have h9 := hK1.size; simp at h9; omega
  have hb1 : w1.heap[w.heap.size]? = (w.alloc (.cells #[.slice ia il ic, .int .i64 om, .slice oa ol oc, .int .i64 wl, .int .i64 pn, .slice pa pl pc, .slice la ll lc] 38)).heap[w.heap.size]? := hK1.blk _ (by simp) (fun e => absurd (hlt _ e) (Nat.lt_irrefl _))
  have a0 : w1.cell? ⟨w.heap.size, 0, none⟩ = some (.slice ia il ic) := (World.cell?_of_block (a := ⟨w.heap.size, 0, none⟩) hb1).trans (by simp [go_sem])
  have a1 : w1.cell? ⟨w.heap.size, 1, none⟩ = some (.int .i64 om) := (World.cell?_of_block (a := ⟨w.heap.size, 1, none⟩) hb1).trans (by simp [go_sem])
  have a2 : w1.cell? ⟨w.heap.size, 2, none⟩ = some (.slice oa ol oc) := (World.cell?_of_block (a := ⟨w.heap.size, 2, none⟩) hb1).trans (by simp [go_sem])
  have a3 : w1.cell? ⟨w.heap.size, 3, none⟩ = some (.int .i64 wl) := (World.cell?_of_block (a := ⟨w.heap.size, 3, none⟩) hb1).trans (by simp [go_sem])
  have a4 : w1.cell? ⟨w.heap.size, 4, none⟩ = some (.int .i64 pn) := (World.cell?_of_block (a := ⟨w.heap.size, 4, none⟩) hb1).trans (by simp [go_sem])
  have a5 : w1.cell? ⟨w.heap.size, 5, none⟩ = some (.slice pa pl pc) := (World.cell?_of_block (a := ⟨w.heap.size, 5, none⟩) hb1).trans (by simp [go_sem])
  have a6 : w1.cell? ⟨w.heap.size, 6, none⟩ = some (.slice la ll lc) := (World.cell?_of_block (a := ⟨w.heap.size, 6, none⟩) hb1).trans (by simp [go_sem])
  generalize hku1 : kUp 1 qs = KU at *
  go_wp2_with fail
  refine (markStK_any KU (by omega) (by omega) om oa ol oc _ (h2.keepB hK1 (fun b hb hS => (s1 b hS).1 hb)) l2).mono ?_
  rintro e w2 ⟨rfl, hM2, hK2⟩
  have hz2 : w.heap.size < w2.heap.size := by have h9 := hK2.size; omega
  have hb2 : w2.heap[w.heap.size]? = w1.heap[w.heap.size]? := hK2.blk _ hz1 (fun e => hor e)
  have b0 : w2.cell? ⟨w.heap.size, 0, none⟩ = some (.slice ia il ic) := (World.cell?_of_block (a := ⟨w.heap.size, 0, none⟩) hb2).trans a0
  have b1 : w2.cell? ⟨w.heap.size, 1, none⟩ = some (.int .i64 om) := (World.cell?_of_block (a := ⟨w.heap.size, 1, none⟩) hb2).trans a1
  have b2 : w2.cell? ⟨w.heap.size, 2, none⟩ = some (.slice oa ol oc) := (World.cell?_of_block (a := ⟨w.heap.size, 2, none⟩) hb2).trans a2
  have b3 : w2.cell? ⟨w.heap.size, 3, none⟩ = some (.int .i64 wl) := (World.cell?_of_block (a := ⟨w.heap.size, 3, none⟩) hb2).trans a3
  have b4 : w2.cell? ⟨w.heap.size, 4, none⟩ = some (.int .i64 pn) := (World.cell?_of_block (a := ⟨w.heap.size, 4, none⟩) hb2).trans a4
  have b5 : w2.cell? ⟨w.heap.size, 5, none⟩ = some (.slice pa pl pc) := (World.cell?_of_block (a := ⟨w.heap.size, 5, none⟩) hb2).trans a5
  have b6 : w2.cell? ⟨w.heap.size, 6, none⟩ = some (.slice la ll lc) := (World.cell?_of_block (a := ⟨w.heap.size, 6, none⟩) hb2).trans a6
  clear a0 a1 a2 a3 a4 a5 a6
  have k3 := (h3.keepB hK1 (fun b hb hS => (s1 b hS).2.1 hb)).keepB hK2 (fun b hb hS => (s2 b hS).1 hb)
  have k4 := (h4.keepB hK1 (fun b hb hS => (s1 b hS).2.2 hb)).keepB hK2 (fun b hb hS => (s2 b hS).2 hb)
  go_wp2_with fail
  refine (markTxK_any (KU + 13 * (ol : Int)) (by omega) (by omega) pn pa pl pc la ll lc _ k3 k4 s3 l3 l4).mono ?_
  rintro e w3 ⟨rfl, ⟨hM3, hM4⟩, hK3⟩
  go_wp2
  go_ret
  subst hku1
  refine ⟨rfl, ⟨(hM1.keep (W' := w2) (fun b hb => ?_)).keep (fun b hb => ?_), hM2.keepB hK3 (fun b hb hS => ?_), hM3, hM4, l1, l2, l3, l4⟩, ?_⟩
  · have hbl : b < w1.heap.size := Nat.lt_of_lt_of_le (hlt b hb) (Nat.le_of_lt hz1)
    exact hK2.blk b hbl (fun e => (s1 b hb).1 e)
  · have hbl : b < w2.heap.size := Nat.lt_of_lt_of_le (hlt b hb) (Nat.le_of_lt hz2)
    exact hK3.blk b hbl (fun e => by rcases e with e | e; exact (s1 b hb).2.1 e; exact (s1 b hb).2.2 e)
  · rcases hS with e | e
    · exact (s2 b hb).1 e
    · exact (s2 b hb).2 e
  · exact (((Kept.of_below bb).trans (hK1.mono (fun b hb => Or.inl hb))).trans (hK2.mono (fun b hb => Or.inr (Or.inl hb)))).trans (hK3.mono (fun b hb => by rcases hb with e | e; exact Or.inr (Or.inr (Or.inl e)); exact Or.inr (Or.inr (Or.inr e))))

set_option maxRecDepth 20000 in
set_option maxHeartbeats 1000000 in
theorem heldTk_any (ia : Option Addr) (il ic : Nat) (om : Int) (oa : Option Addr) (ol oc : Nat) (wl pn : Int) (pa : Option Addr) (pl pc : Nat) (la : Option Addr) (ll lc : Nat) (qs : List QV) (w : World) (h : MarkedTk w ia il qs oa ol pa pl la ll) : Calls Try.prog 19 #[.agg #[.slice ia il ic, .int .i64 om, .slice oa ol oc, .int .i64 wl, .int .i64 pn, .slice pa pl pc, .slice la ll lc], .int .i64 1] w fun e w' => e = .returned (.int .i64 (kTk qs ol pl ll)) ∧ Below w.heap.size w w' := by
  have bb : Below w.heap.size w (w.alloc (.cells #[.slice ia il ic, .int .i64 om, .slice oa ol oc, .int .i64 wl, .int .i64 pn, .slice pa pl pc, .slice la ll lc] 38)) := bel_one _ _
  obtain ⟨h1, h2, h3, h4, ⟨l1, l2, l3, l4⟩⟩ := h.below bb
  have hku := kUp_all 1 qs h1.lim (by rw [h1.len]; exact l1)
  unfold kTk
  generalize hku1 : kUp 1 qs = KU at *
  go_enter Try.func19, Try.ntmps19
  go_wp2_with (first
    | (go_at_call 43; refine (heldTi_any 1 (by omega) (by omega) ia il ic qs _ h1 l1).mono ?_; rw [hku1]; rintro e w1 ⟨rfl, hw⟩; obtain rfl := hw.symm; clear hw)
    | (go_at_call 44; refine (heldStK_any KU (by omega) (by omega) om oa ol oc _ h2 l2).mono ?_; rintro e w2 ⟨rfl, hb2⟩; obtain ⟨hc2, hf2, hs2⟩ := bcell hb2; have hz2 : w.heap.size < w2.heap.size := (by have h9 := hb2.size; (try simp at h9); omega))
    | (go_at_call 45; refine (heldTxK_any (KU + 13 * (ol : Int)) (by omega) (by omega) pn pa pl pc la ll lc _ (h3.below hb2) (h4.below hb2) l3 l4).mono ?_; rintro e w3 ⟨rfl, hb3⟩))
  go_ret
  exact ⟨rfl, (by repeat (first | (with_reducible exact Below.refl _ _) | (with_reducible assumption) | (with_reducible refine bel_set ?_ (by first | (simp; done) | (simp; omega)) _) | (with_reducible refine bel_alloc ?_ _) | (with_reducible refine bel_drew ?_) | (with_reducible refine bel_drewN ?_ _) | (with_reducible refine bel_trans ?_ (by with_reducible assumption))))⟩
end Go.Proofs.Ytppdfmclhklkhaa
