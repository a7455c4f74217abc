/- Laid together: what the claim needs of the texts that were built one by one. -/
import Derived.Test.YtikidpcgnmffcaaGreatPkPairS
import Derived.Deep.Onto
import Derived.Test.YtikidpcgnmffcaaGreatPkBase
namespace Go.Proofs.YtikidpcgnmffcaaGreat
open Go.ChangeShapes Go.WideShapes Go.ChangeAt Go.RowKit
set_option linter.unusedVariables false

theorem hd_5_2 {b0 b1 o0x0 o0x1 o0x2 o0x3 o0x4 o1x0 o1x1 : Nat} {v0x0 v0x1 v0x2 v0x3 v0x4 v1x0 v1x1 : Value} {W W' : World} (h : ((W.cell? ⟨b0, o0x0, none⟩ = some (v0x0) ∧ W.cell? ⟨b0, o0x1, none⟩ = some (v0x1) ∧ W.cell? ⟨b0, o0x2, none⟩ = some (v0x2) ∧ W.cell? ⟨b0, o0x3, none⟩ = some (v0x3) ∧ W.cell? ⟨b0, o0x4, none⟩ = some (v0x4) ∧ W.cell? ⟨b1, o1x0, none⟩ = some (v1x0) ∧ W.cell? ⟨b1, o1x1, none⟩ = some (v1x1)) ∧ b0 < W.heap.size ∧ b1 < W.heap.size)) (hb : Below W.heap.size W W') : ((W'.cell? ⟨b0, o0x0, none⟩ = some (v0x0) ∧ W'.cell? ⟨b0, o0x1, none⟩ = some (v0x1) ∧ W'.cell? ⟨b0, o0x2, none⟩ = some (v0x2) ∧ W'.cell? ⟨b0, o0x3, none⟩ = some (v0x3) ∧ W'.cell? ⟨b0, o0x4, none⟩ = some (v0x4) ∧ W'.cell? ⟨b1, o1x0, none⟩ = some (v1x0) ∧ W'.cell? ⟨b1, o1x1, none⟩ = some (v1x1)) ∧ b0 < W'.heap.size ∧ b1 < W'.heap.size) := by
  obtain ⟨⟨h0, h1, h2, h3, h4, h5, h6⟩, s0, s1⟩ := h
  refine ⟨⟨?_, ?_, ?_, ?_, ?_, ?_, ?_⟩, Nat.lt_of_lt_of_le s0 hb.size, Nat.lt_of_lt_of_le s1 hb.size⟩
  · rw [hb.cell s0]; exact h0
  · rw [hb.cell s0]; exact h1
  · rw [hb.cell s0]; exact h2
  · rw [hb.cell s0]; exact h3
  · rw [hb.cell s0]; exact h4
  · rw [hb.cell s1]; exact h5
  · rw [hb.cell s1]; exact h6

theorem hd_5_2_set {b0 b1 o0x0 o0x1 o0x2 o0x3 o0x4 o1x0 o1x1 : Nat} {v0x0 v0x1 v0x2 v0x3 v0x4 v1x0 v1x1 : Value} {W : World} {p : Addr} (h : ((W.cell? ⟨b0, o0x0, none⟩ = some (v0x0) ∧ W.cell? ⟨b0, o0x1, none⟩ = some (v0x1) ∧ W.cell? ⟨b0, o0x2, none⟩ = some (v0x2) ∧ W.cell? ⟨b0, o0x3, none⟩ = some (v0x3) ∧ W.cell? ⟨b0, o0x4, none⟩ = some (v0x4) ∧ W.cell? ⟨b1, o1x0, none⟩ = some (v1x0) ∧ W.cell? ⟨b1, o1x1, none⟩ = some (v1x1)) ∧ b0 < W.heap.size ∧ b1 < W.heap.size)) (p0 : p.block ≠ b0) (p1 : p.block ≠ b1) (u : Value) : (((W.setCell p u).cell? ⟨b0, o0x0, none⟩ = some (v0x0) ∧ (W.setCell p u).cell? ⟨b0, o0x1, none⟩ = some (v0x1) ∧ (W.setCell p u).cell? ⟨b0, o0x2, none⟩ = some (v0x2) ∧ (W.setCell p u).cell? ⟨b0, o0x3, none⟩ = some (v0x3) ∧ (W.setCell p u).cell? ⟨b0, o0x4, none⟩ = some (v0x4) ∧ (W.setCell p u).cell? ⟨b1, o1x0, none⟩ = some (v1x0) ∧ (W.setCell p u).cell? ⟨b1, o1x1, none⟩ = some (v1x1)) ∧ b0 < (W.setCell p u).heap.size ∧ b1 < (W.setCell p u).heap.size) := by
  obtain ⟨⟨h0, h1, h2, h3, h4, h5, h6⟩, s0, s1⟩ := h
  have hb : W.heap.size ≤ (W.setCell p u).heap.size := by simp [World.setCell]
  refine ⟨⟨?_, ?_, ?_, ?_, ?_, ?_, ?_⟩, Nat.lt_of_lt_of_le s0 hb, Nat.lt_of_lt_of_le s1 hb⟩
  · rw [cell_set_ne p0]; exact h0
  · rw [cell_set_ne p0]; exact h1
  · rw [cell_set_ne p0]; exact h2
  · rw [cell_set_ne p0]; exact h3
  · rw [cell_set_ne p0]; exact h4
  · rw [cell_set_ne p1]; exact h5
  · rw [cell_set_ne p1]; exact h6

theorem hd_5_2_re {b0 b1 o0x0 o0x1 o0x2 o0x3 o0x4 o1x0 o1x1 : Nat} {v0x0 v0x1 v0x2 v0x3 v0x4 v1x0 v1x1 : Value} {W : World} {o o' : Obj} (h : (((W.alloc o).cell? ⟨b0, o0x0, none⟩ = some (v0x0) ∧ (W.alloc o).cell? ⟨b0, o0x1, none⟩ = some (v0x1) ∧ (W.alloc o).cell? ⟨b0, o0x2, none⟩ = some (v0x2) ∧ (W.alloc o).cell? ⟨b0, o0x3, none⟩ = some (v0x3) ∧ (W.alloc o).cell? ⟨b0, o0x4, none⟩ = some (v0x4) ∧ (W.alloc o).cell? ⟨b1, o1x0, none⟩ = some (v1x0) ∧ (W.alloc o).cell? ⟨b1, o1x1, none⟩ = some (v1x1)) ∧ b0 < (W.alloc o).heap.size ∧ b1 < (W.alloc o).heap.size)) (p0 : b0 < W.heap.size) (p1 : b1 < W.heap.size) : (((W.alloc o').cell? ⟨b0, o0x0, none⟩ = some (v0x0) ∧ (W.alloc o').cell? ⟨b0, o0x1, none⟩ = some (v0x1) ∧ (W.alloc o').cell? ⟨b0, o0x2, none⟩ = some (v0x2) ∧ (W.alloc o').cell? ⟨b0, o0x3, none⟩ = some (v0x3) ∧ (W.alloc o').cell? ⟨b0, o0x4, none⟩ = some (v0x4) ∧ (W.alloc o').cell? ⟨b1, o1x0, none⟩ = some (v1x0) ∧ (W.alloc o').cell? ⟨b1, o1x1, none⟩ = some (v1x1)) ∧ b0 < (W.alloc o').heap.size ∧ b1 < (W.alloc o').heap.size) := by
  obtain ⟨⟨h0, h1, h2, h3, h4, h5, h6⟩, s0, s1⟩ := h
  have hb : Below W.heap.size (W.alloc o) (W.alloc o') := bel_re W o o'
  refine ⟨⟨?_, ?_, ?_, ?_, ?_, ?_, ?_⟩, Nat.lt_of_lt_of_le s0 hb.size, Nat.lt_of_lt_of_le s1 hb.size⟩
  · rw [hb.cell p0]; exact h0
  · rw [hb.cell p0]; exact h1
  · rw [hb.cell p0]; exact h2
  · rw [hb.cell p0]; exact h3
  · rw [hb.cell p0]; exact h4
  · rw [hb.cell p1]; exact h5
  · rw [hb.cell p1]; exact h6

theorem pr_keep {b0 b1 o0x0 o0x1 o0x2 o0x3 o0x4 o1x0 o1x1 : Nat} {v0x0 v0x1 v0x2 v0x3 v0x4 v1x0 v1x1 : Value} {W W' W2 : World} {row : Option Nat} (h : ((W.cell? ⟨b0, o0x0, none⟩ = some (v0x0) ∧ W.cell? ⟨b0, o0x1, none⟩ = some (v0x1) ∧ W.cell? ⟨b0, o0x2, none⟩ = some (v0x2) ∧ W.cell? ⟨b0, o0x3, none⟩ = some (v0x3) ∧ W.cell? ⟨b0, o0x4, none⟩ = some (v0x4) ∧ W.cell? ⟨b1, o1x0, none⟩ = some (v1x0) ∧ W.cell? ⟨b1, o1x1, none⟩ = some (v1x1)) ∧ b0 < W.heap.size ∧ b1 < W.heap.size)) (hb : Below W.heap.size W W') (hg : W'.grownBy W2 row) (h0 : some b0 ≠ row) (h1 : some b1 ≠ row) : ((W2.cell? ⟨b0, o0x0, none⟩ = some (v0x0) ∧ W2.cell? ⟨b0, o0x1, none⟩ = some (v0x1) ∧ W2.cell? ⟨b0, o0x2, none⟩ = some (v0x2) ∧ W2.cell? ⟨b0, o0x3, none⟩ = some (v0x3) ∧ W2.cell? ⟨b0, o0x4, none⟩ = some (v0x4) ∧ W2.cell? ⟨b1, o1x0, none⟩ = some (v1x0) ∧ W2.cell? ⟨b1, o1x1, none⟩ = some (v1x1)) ∧ b0 < W2.heap.size ∧ b1 < W2.heap.size) := by
  obtain ⟨⟨c0, c1, c2, c3, c4, c5, c6⟩, s0, s1⟩ := hd_5_2 h hb
  have e0 : ∀ o, W2.cell? ⟨b0, o, none⟩ = W'.cell? ⟨b0, o, none⟩ := fun o => World.cell?_of_block (w := W') (hg.block b0 s0 h0)
  have e1 : ∀ o, W2.cell? ⟨b1, o, none⟩ = W'.cell? ⟨b1, o, none⟩ := fun o => World.cell?_of_block (w := W') (hg.block b1 s1 h1)
  exact ⟨⟨(e0 _).trans c0, (e0 _).trans c1, (e0 _).trans c2, (e0 _).trans c3, (e0 _).trans c4, (e1 _).trans c5, (e1 _).trans c6⟩, Nat.lt_of_lt_of_le s0 hg.size, Nat.lt_of_lt_of_le s1 hg.size⟩

theorem keepP {w1 : World} {B : Nat} {v' : Value} {ys : List LpR} {ws : List WnR} {m : Nat} {x : IwR} {y : WnR} (h : ws[m]? = some y) (ho : w1.ownsRow B 44 7 v' ((ys ++ (ws.take m).map (mkP x)).length + 1) (flatLp (ys ++ (ws.take m).map (mkP x)) ++ (mkP x y).cells)) : OwnLp w1 B v' (ys ++ (ws.take (m + 1)).map (mkP x)) := by
  have e : ys ++ (ws.take (m + 1)).map (mkP x) = (ys ++ (ws.take m).map (mkP x)) ++ [mkP x y] := by rw [take_snocI h]; simp
  rw [e]
  exact ownLp_snoc ho

set_option maxRecDepth 20000 in
set_option maxHeartbeats 2000000 in
theorem specpairs_yes (s t k z p l e : Int) (b : Bool) (v r : Int) (a : Option Addr) (len cap : Nat) (xs : List IwR) (w : World) (h : IwRs w a len xs) (hj : okJob s t k z p l e v r = true) (hrB : recsB xs = true) : Calls Tryz.prog 14 #[.agg #[.int .i64 s, .int .i64 t, .int .i64 k, .int .i64 z, .int .i64 p, .int .i64 l, .int .i64 e, .bool b, .int .i64 v, .int .i64 r], .slice a len cap] w fun e' w' => ∃ v', e' = .returned v' ∧ OwnLp w' w.heap.size v' (prsT k z p xs) ∧ Below w.heap.size w w' := by
  obtain ⟨h120, hall⟩ := recsB_iff hrB
  have hlen := h.1
  obtain ⟨i0, hi, hz0, hz1, hz2⟩ := info_parts Tryz.infoLp
  go_enter Tryz.func14, Tryz.ntmps14
  go_wp2_with fail
  refine (specjobok_any _ _ _ _ _ _ _ _ _ _ _).mono ?_
  rintro e' wa ⟨rfl, hba⟩
  have hbA : Below w.heap.size w wa := bel_trans (bel_alloc (bel_one _ _) _) hba
  go_wp2_with fail
  refine (l6recs_any a len cap xs _ (h.below hbA)).mono ?_
  rintro e' wq ⟨rfl, hbq⟩
  have hbB : Below (w.heap.size + 1) (w.alloc (.cells #[.int .i64 s, .int .i64 t, .int .i64 k, .int .i64 z, .int .i64 p, .int .i64 l, .int .i64 e, .bool b, .int .i64 v, .int .i64 r] 28)) wq := ((Below.refl (w.heap.size + 1) (w.alloc (.cells #[.int .i64 s, .int .i64 t, .int .i64 k, .int .i64 z, .int .i64 p, .int .i64 l, .int .i64 e, .bool b, .int .i64 v, .int .i64 r] 28))).alloc (by simp) _).trans ((bel_trans hba hbq).mono (sA))
  have hOq : OwnLp wq (w.heap.size + 1) (.slice (some ⟨w.heap.size + 1, 0, none⟩) 0 0) [] := ownBel (ownLit (W := (w.alloc (.cells #[.int .i64 s, .int .i64 t, .int .i64 k, .int .i64 z, .int .i64 p, .int .i64 l, .int .i64 e, .bool b, .int .i64 v, .int .i64 r] 28))) (B := w.heap.size + 1) (g := w.heap.size + 1) _ _ (by simp) (by simp)) (bel_trans hba hbq)
  go_wp2_with fail
  go_loopw [5, 6] (fun v' iv wr => ∃ i : Nat, i ≤ len ∧ iv = .int .i64 i ∧ OwnLp wr (w.heap.size + 1) v' (prsT k z p (xs.take i)) ∧ Below (w.heap.size + 1) (w.alloc (.cells #[.int .i64 s, .int .i64 t, .int .i64 k, .int .i64 z, .int .i64 p, .int .i64 l, .int .i64 e, .bool b, .int .i64 v, .int .i64 r] 28)) wr) (fun _ iv _ => len - (intOf iv).toNat)
  case atStart => exact ⟨0, Nat.zero_le _, rfl, hOq, hbB⟩
  case round =>
    obtain ⟨i, hil, rfl, hO, hbw⟩ := hrel
    have hb0 : Below w.heap.size w wr := bel_trans (bel_one _ _) (by simpa using hbw)
    have hpl := prsT_len k z p (xs.take i)
    rw [List.length_take] at hpl
    have HO := hide hO
    have hge := hide (ownLp_ge hO)
    have hlt5 := hide (own_lt hO)
    clear hO
    by_cases hlt : i < len
    · obtain ⟨hxl, hmx, hx⟩ := h
      obtain ⟨g, o, rfl, hr⟩ := hx.resolve_left (by omega)
      obtain ⟨x, hxk⟩ : ∃ x, xs[i]? = some x := ⟨_, List.getElem?_eq_getElem (by omega)⟩
      have hg : g < w.heap.size := hr.lt (by omega)
      have hX := hide hxk
      have HR := hide hr
      have htm := isB_tm (List.all_eq_true.1 hall x (List.mem_of_getElem? hxk))
      have HS : ((wr.cell? ⟨w.heap.size, 0, none⟩ = some (.int .i64 s) ∧ wr.cell? ⟨w.heap.size, 1, none⟩ = some (.int .i64 t) ∧ wr.cell? ⟨w.heap.size, 2, none⟩ = some (.int .i64 k) ∧ wr.cell? ⟨w.heap.size, 3, none⟩ = some (.int .i64 z) ∧ wr.cell? ⟨w.heap.size, 4, none⟩ = some (.int .i64 p) ∧ wr.cell? ⟨w.heap.size, 5, none⟩ = some (.int .i64 l) ∧ wr.cell? ⟨w.heap.size, 6, none⟩ = some (.int .i64 e) ∧ wr.cell? ⟨w.heap.size, 7, none⟩ = some (.bool b) ∧ wr.cell? ⟨w.heap.size, 8, none⟩ = some (.int .i64 v) ∧ wr.cell? ⟨w.heap.size, 9, none⟩ = some (.int .i64 r) ∧ wr.cell? ⟨g, o + i * 5, none⟩ = some (.int .i64 x.kd) ∧ wr.cell? ⟨g, o + i * 5 + 1, none⟩ = some (.int .i64 x.tm) ∧ wr.cell? ⟨g, o + i * 5 + 2, none⟩ = some (.int .i64 x.ke) ∧ wr.cell? ⟨g, o + i * 5 + 3, none⟩ = some (.int .i64 x.va) ∧ wr.cell? ⟨g, o + i * 5 + 4, none⟩ = some (.int .i64 x.nn)) ∧ w.heap.size < wr.heap.size ∧ g < wr.heap.size) := by
        obtain ⟨d0, d1, d2, d3, d4⟩ := (hr i _ hxk).below hb0 hg
        exact ⟨⟨(hbw.cell (p := ⟨w.heap.size, 0, none⟩) (by simp)).trans (by simp [go_sem]), (hbw.cell (p := ⟨w.heap.size, 1, none⟩) (by simp)).trans (by simp [go_sem]), (hbw.cell (p := ⟨w.heap.size, 2, none⟩) (by simp)).trans (by simp [go_sem]), (hbw.cell (p := ⟨w.heap.size, 3, none⟩) (by simp)).trans (by simp [go_sem]), (hbw.cell (p := ⟨w.heap.size, 4, none⟩) (by simp)).trans (by simp [go_sem]), (hbw.cell (p := ⟨w.heap.size, 5, none⟩) (by simp)).trans (by simp [go_sem]), (hbw.cell (p := ⟨w.heap.size, 6, none⟩) (by simp)).trans (by simp [go_sem]), (hbw.cell (p := ⟨w.heap.size, 7, none⟩) (by simp)).trans (by simp [go_sem]), (hbw.cell (p := ⟨w.heap.size, 8, none⟩) (by simp)).trans (by simp [go_sem]), (hbw.cell (p := ⟨w.heap.size, 9, none⟩) (by simp)).trans (by simp [go_sem]), d0, d1, d2, d3, d4⟩, by have h9 := hbw.size; simp at h9; omega, Nat.lt_of_lt_of_le hg hb0.size⟩
      clear hx hr
      go_wp2
      go_region_held3 (fun W => ((W.cell? ⟨w.heap.size, 0, none⟩ = some (.int .i64 s) ∧ W.cell? ⟨w.heap.size, 1, none⟩ = some (.int .i64 t) ∧ W.cell? ⟨w.heap.size, 2, none⟩ = some (.int .i64 k) ∧ W.cell? ⟨w.heap.size, 3, none⟩ = some (.int .i64 z) ∧ W.cell? ⟨w.heap.size, 4, none⟩ = some (.int .i64 p) ∧ W.cell? ⟨w.heap.size, 5, none⟩ = some (.int .i64 l) ∧ W.cell? ⟨w.heap.size, 6, none⟩ = some (.int .i64 e) ∧ W.cell? ⟨w.heap.size, 7, none⟩ = some (.bool b) ∧ W.cell? ⟨w.heap.size, 8, none⟩ = some (.int .i64 v) ∧ W.cell? ⟨w.heap.size, 9, none⟩ = some (.int .i64 r) ∧ W.cell? ⟨g, o + i * 5, none⟩ = some (.int .i64 x.kd) ∧ W.cell? ⟨g, o + i * 5 + 1, none⟩ = some (.int .i64 x.tm) ∧ W.cell? ⟨g, o + i * 5 + 2, none⟩ = some (.int .i64 x.ke) ∧ W.cell? ⟨g, o + i * 5 + 3, none⟩ = some (.int .i64 x.va) ∧ W.cell? ⟨g, o + i * 5 + 4, none⟩ = some (.int .i64 x.nn)) ∧ w.heap.size < W.heap.size ∧ g < W.heap.size)) ((first | ((repeat (first | (with_reducible assumption) | (with_reducible refine hd_10_5 ?_ (by with_reducible assumption)) | (with_reducible refine hd_10_5 ?_ (bel_drew (Below.refl _ _))) | (with_reducible exact hd_10_5_re (by with_reducible assumption) (sB) (sB)) | (with_reducible refine hd_10_5 ?_ (bel_one _ _)) | (with_reducible refine hd_10_5_set ?_ (sB) (sB) _))); done) | (refine ⟨⟨?_, ?_, ?_, ?_, ?_, ?_, ?_, ?_, ?_, ?_, ?_, ?_, ?_, ?_, ?_⟩, ?_, ?_⟩ <;> first | (go_keep; done) | (simp; done) | (simp; omega) | omega)))
        (first
        | (go_at_call 27; refine (l4of_any _ _ _ _ _ _ _ _ _ _ x.tm _ hj htm).mono ?_; rintro e' wl ⟨vl, rfl, hOl, hbl⟩))
      clear HS
      obtain ⟨al, capl, rfl, HL0, _, gel⟩ := holdWn hOl (Nat.le_trans (winsOf_len _ _ _ _) (by omega))
      have hbl' : Below wr.heap.size wr wl := bel_trans (bel_drew (Below.refl _ _)) hbl
      have hwl := winsOf_len k z p x.tm
      have hOw := ownBel (unhide HO) hbl'
      have hbwl : Below (w.heap.size + 1) (w.alloc (.cells #[.int .i64 s, .int .i64 t, .int .i64 k, .int .i64 z, .int .i64 p, .int .i64 l, .int .i64 e, .bool b, .int .i64 v, .int .i64 r] 28)) wl := hbw.trans (hbl'.mono (by have h9 := hbw.size; simpa using h9))
      have hne0 : ∀ q, u5.ownBlock = some q → ∀ gl ol, 0 < (winsOf k z p x.tm).length → al = some ⟨gl, ol, none⟩ → q ≠ gl := fun q hq gl ol hp ha => by have h1 := unhide hlt5 q hq; have h2 := gel gl ol hp ha; (try simp at h2); omega
      clear hOl hbl HO hge hlt5 gel
      go_wp2
      go_loopw [5, 8] (fun v' mv w2 => ∃ m : Nat, m ≤ (winsOf k z p x.tm).length ∧ mv = .int .i64 m ∧ OwnLp w2 (w.heap.size + 1) v' (prsT k z p (xs.take i) ++ ((winsOf k z p x.tm).take m).map (mkP x)) ∧ WnRs w2 al (winsOf k z p x.tm).length (winsOf k z p x.tm) ∧ (∀ q, v'.ownBlock = some q → ∀ gl ol, 0 < (winsOf k z p x.tm).length → al = some ⟨gl, ol, none⟩ → q ≠ gl) ∧ Below (w.heap.size + 1) (w.alloc (.cells #[.int .i64 s, .int .i64 t, .int .i64 k, .int .i64 z, .int .i64 p, .int .i64 l, .int .i64 e, .bool b, .int .i64 v, .int .i64 r] 28)) w2) (fun _ mv _ => (winsOf k z p x.tm).length - (intOf mv).toNat)
      case atStart => exact ⟨0, Nat.zero_le _, rfl, by rw [List.take_zero, List.map_nil, List.append_nil]; exact hOw, HL0, hne0, hbwl⟩
      case round =>
        obtain ⟨m, hml, rfl, hO, HL, hnb, hb2⟩ := hrel
        have hb02 : Below w.heap.size w wr := bel_trans (bel_one _ _) (by simpa using hb2)
        have HO := hide hO
        have hge := hide (ownLp_ge hO)
        clear hO
        by_cases hmlt : m < (winsOf k z p x.tm).length
        · obtain ⟨hyl, _, hy⟩ := HL
          obtain ⟨gl, ol, rfl, hrl⟩ := hy.resolve_left (by omega)
          obtain ⟨y, hyk⟩ : ∃ y, (winsOf k z p x.tm)[m]? = some y := ⟨_, List.getElem?_eq_getElem hmlt⟩
          have hY := hide hyk
          have hne : Hid (∀ q, u5.ownBlock = some q → q ≠ gl) := hide (fun q hq => hnb q hq gl ol (by omega) rfl)
          have HNB := hide hnb
          have hgl : gl < wr.heap.size := hrl.lt (by omega)
          have HLr := hide hrl
          have hlr : (prsT k z p (xs.take i) ++ ((winsOf k z p x.tm).take m).map (mkP x)).length ≤ 8000 := by
            have h1 := prsT_len k z p (xs.take i)
            rw [List.length_take] at h1
            rw [List.length_append, List.length_map, List.length_take]
            omega
          have HS : ((wr.cell? ⟨g, o + i * 5, none⟩ = some (.int .i64 x.kd) ∧ wr.cell? ⟨g, o + i * 5 + 1, none⟩ = some (.int .i64 x.tm) ∧ wr.cell? ⟨g, o + i * 5 + 2, none⟩ = some (.int .i64 x.ke) ∧ wr.cell? ⟨g, o + i * 5 + 3, none⟩ = some (.int .i64 x.va) ∧ wr.cell? ⟨g, o + i * 5 + 4, none⟩ = some (.int .i64 x.nn) ∧ wr.cell? ⟨gl, ol + m * 2, none⟩ = some (.int .i64 y.a) ∧ wr.cell? ⟨gl, ol + m * 2 + 1, none⟩ = some (.int .i64 y.b)) ∧ g < wr.heap.size ∧ gl < wr.heap.size) := by
            obtain ⟨d0, d1, d2, d3, d4⟩ := (unhide HR i _ hxk).below hb02 hg
            obtain ⟨e0, e1⟩ := hrl m _ hyk
            exact ⟨⟨d0, d1, d2, d3, d4, e0, e1⟩, Nat.lt_of_lt_of_le hg hb02.size, hgl⟩
          clear hnb hrl hyk hy
          go_wp2
          go_region_held3 (fun W => ((W.cell? ⟨g, o + i * 5, none⟩ = some (.int .i64 x.kd) ∧ W.cell? ⟨g, o + i * 5 + 1, none⟩ = some (.int .i64 x.tm) ∧ W.cell? ⟨g, o + i * 5 + 2, none⟩ = some (.int .i64 x.ke) ∧ W.cell? ⟨g, o + i * 5 + 3, none⟩ = some (.int .i64 x.va) ∧ W.cell? ⟨g, o + i * 5 + 4, none⟩ = some (.int .i64 x.nn) ∧ W.cell? ⟨gl, ol + m * 2, none⟩ = some (.int .i64 y.a) ∧ W.cell? ⟨gl, ol + m * 2 + 1, none⟩ = some (.int .i64 y.b)) ∧ g < W.heap.size ∧ gl < W.heap.size)) ((first | ((repeat (first | (with_reducible assumption) | (with_reducible refine hd_5_2 ?_ (by with_reducible assumption)) | (with_reducible refine hd_5_2 ?_ (bel_drew (Below.refl _ _))) | (with_reducible exact hd_5_2_re (by with_reducible assumption) (sB) (sB)) | (with_reducible refine hd_5_2 ?_ (bel_one _ _)) | (with_reducible refine hd_5_2_set ?_ (sB) (sB) _))); done) | (refine ⟨⟨?_, ?_, ?_, ?_, ?_, ?_, ?_⟩, ?_, ?_⟩ <;> first | (go_keep; done) | (simp; done) | (simp; omega) | omega)))
            (first
            | (refine step_append_at rfl (.tmp 38) (.tmp 48) 37 rfl (w.heap.size + 1) 44 i0 _ 7 56 Tryz.underlying37 hi hz0 hz1 hz2 rfl (by decide) u5 _ (flatLp (prsT k z p (xs.take i) ++ ((winsOf k z p x.tm).take m).map (mkP x))) (by simp [Act.eval]) (World.ownsRow.alloc (ownBel (unhide HO) (bel_drew (Below.refl _ _))) _) ⟨wr.heap.size, 0, none⟩ 1 1 [.int .i64 x.kd, .int .i64 x.tm, .int .i64 x.ke, .int .i64 x.va, .int .i64 x.nn, .int .i64 y.a, .int .i64 y.b] (by simp [Act.eval]) rfl (cells_atLp _ x.kd x.tm x.ke x.va x.nn y.a y.b _ rfl) (by simp [Value.oneCell']) (by unfold maxLen; omega) (by omega) (by have h9 := hb2.size; simp at h9 ⊢; omega) ?_; intro v' w1 hown' hgrow hblk; have HS1 : ((w1.cell? ⟨g, o + i * 5, none⟩ = some (.int .i64 x.kd) ∧ w1.cell? ⟨g, o + i * 5 + 1, none⟩ = some (.int .i64 x.tm) ∧ w1.cell? ⟨g, o + i * 5 + 2, none⟩ = some (.int .i64 x.ke) ∧ w1.cell? ⟨g, o + i * 5 + 3, none⟩ = some (.int .i64 x.va) ∧ w1.cell? ⟨g, o + i * 5 + 4, none⟩ = some (.int .i64 x.nn) ∧ w1.cell? ⟨gl, ol + m * 2, none⟩ = some (.int .i64 y.a) ∧ w1.cell? ⟨gl, ol + m * 2 + 1, none⟩ = some (.int .i64 y.b)) ∧ g < w1.heap.size ∧ gl < w1.heap.size) := pr_keep HS (show Below wr.heap.size wr _ from (belA)) hgrow (fun e9 => by have := unhide hge _ e9.symm; omega) (fun e9 => unhide hne gl e9.symm rfl); have hb1 : Below (w.heap.size + 1) (w.alloc (.cells #[.int .i64 s, .int .i64 t, .int .i64 k, .int .i64 z, .int .i64 p, .int .i64 l, .int .i64 e, .bool b, .int .i64 v, .int .i64 r] 28)) w1 := (((hb2.trans ⟨rfl, rfl, rfl, Nat.le_refl _, fun _ _ => rfl⟩ : Below (w.heap.size + 1) (w.alloc (.cells #[.int .i64 s, .int .i64 t, .int .i64 k, .int .i64 z, .int .i64 p, .int .i64 l, .int .i64 e, .bool b, .int .i64 v, .int .i64 r] 28)) wr.drew).alloc (by have h9 := hb2.size; simpa using h9) _)).grown hgrow (by have h9 := hb2.size; simp at h9 ⊢; omega) (unhide hge)))
          all_goals
            go_wp2
            go_roundw
            case rel => exact ⟨m + 1, by omega, by go_num, keepP (unhide hY) hown', ⟨rfl, by unfold maxLen; omega, Or.inr ⟨gl, ol, rfl, fun q y' hy' => ((unhide HLr q y' hy').below (bel_alloc (bel_drew (Below.refl _ _)) _) hgl).grown hgrow (fun e9 => unhide hne gl e9.symm rfl)⟩⟩, (fun q hq gl' ol' hp ha => hblk.elim (fun e => unhide HNB q (by rw [← e]; exact hq) gl' ol' hp ha) (fun e => by rw [e] at hq; simp at hq ha; omega)), hb1⟩
            case measure => simp [intOf]; omega
        · obtain rfl : m = (winsOf k z p x.tm).length := by omega
          have HQ : Hid (prsT k z p (xs.take i) ++ ((winsOf k z p x.tm).take (winsOf k z p x.tm).length).map (mkP x) = prsT k z p (xs.take (i + 1))) := hide (by rw [prsT_snoc hxk, List.take_of_length_le (Nat.le_refl _)]; rfl)
          go_wp2
          go_roundw
          case rel => exact ⟨i + 1, by omega, by go_num, by rw [← unhide HQ]; exact unhide HO, hb2⟩
          case measure => simp [intOf]; omega
    · have HQ : Hid (prsT k z p (xs.take i) = prsT k z p xs) := hide (by rw [List.take_of_length_le (by omega)])
      go_wp2
      go_ret
      refine ⟨_, rfl, ?_, hb0⟩
      rw [← unhide HQ]
      exact World.ownsRow.mono (unhide HO) (by omega)
end Go.Proofs.YtikidpcgnmffcaaGreat
