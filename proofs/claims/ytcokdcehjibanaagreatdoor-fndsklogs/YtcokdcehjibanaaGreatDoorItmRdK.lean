/- Proved here: an item is read by the program. -/
import Derived.Test.YtcokdcehjibanaaGreatDoorItmRdJ
namespace Go.Proofs.YtcokdcehjibanaaGreatDoor
open Go.ChangeShapes Go.WideShapes Go.ChangeAt Go.RowKit
set_option linter.unusedVariables false


theorem stL_tail {W : World} {g n : Nat} {x : ByteArray} {M : List ByteArray} (h : StRs W (some ⟨g, 0, none⟩) n (stL (x :: M))) : StRs W (if n = 1 then some ⟨g, 0, none⟩ else some ⟨g, 1, none⟩) (n - 1) (stL M) := by
  obtain ⟨h1, h2, h3⟩ := h
  have hl := stL_len (x :: M)
  have hM := stL_len M
  have hc : (x :: M).length = M.length + 1 := rfl
  refine ⟨by omega, by omega, ?_⟩
  by_cases hn : n = 1
  · exact Or.inl (by omega)
  · rw [if_neg hn]
    obtain ⟨g', o, e, hh⟩ := h3.resolve_left (by omega)
    cases e
    refine Or.inr ⟨g, 1, rfl, fun i y hy => ?_⟩
    have := hh (i + 1) y (by simpa [stL] using hy)
    rw [show 1 + i * 1 = 0 + (i + 1) * 1 by omega]
    exact this
set_option linter.unusedSimpArgs false in
set_option maxRecDepth 20000 in
set_option maxHeartbeats 2000000 in
theorem implitmread_any {tp1 tp2 : TypeId} {p1 p2 : Value} {m : Int} (s : ByteArray) (w : World) (hE : Env tp1 tp2 p1 p2 m w) : Calls Tryz.prog 36 #[.string s] w fun e w' => ItP s w e w' := by
  have HE := hide hE
  clear hE
  go_enter Tryz.func36, Tryz.ntmps36
  by_cases hs : s.size ≤ 100
  · have hs2 : ¬ (100 : Int) < s.size := by omega
    have hbZ : Below w.heap.size w (w.alloc (.cells #[.int .i64 0, .int .i64 0, .int .i64 0, .int .i64 0, .int .i64 0] 45)) := bel_one _ _
    go_wp2_with fail
    refine (split_any ((unhide HE).bel hbZ) hs).mono ?_
    rintro e w1 ⟨L, rfl, hS, hW, ⟨hL0, hL1⟩, hX, hb1⟩
    have z1 : w.heap.size < w1.heap.size := by have h9 := hb1.size; simp at h9; omega
    have hR1 : w1.heap[w.heap.size]? = some (.cells #[.int .i64 0, .int .i64 0, .int .i64 0, .int .i64 0, .int .i64 0] 45 (0, 0)) := (hb1.block _ (by simp)).trans blk_at0
    have hbA : Below w.heap.size w w1 := bel_trans hbZ hb1
    clear hb1 hbZ
    generalize (w.alloc (.cells #[.int .i64 0, .int .i64 0, .int .i64 0, .int .i64 0, .int .i64 0] 45)).heap.size = g at hS ⊢
    obtain ⟨x, M, rfl⟩ : ∃ x M, L = x :: M := by
      cases L with
      | nil => simp at hL0
      | cons x M => exact ⟨x, M, rfl⟩
    have hc0 : w1.cell? ⟨g, 0, none⟩ = some (.string x) := st_cell hS (k := 0) rfl
    have hM : ∀ y ∈ M, y.size ≤ 100 := fun y hy => hX y (List.mem_cons_of_mem _ hy)
    have hK := stL_tail hS
    generalize (x :: M).length = n at hK hL0 hL1 ⊢
    obtain ⟨da, hda⟩ : ∃ da, (if n = 1 then (some ⟨g, 0, none⟩ : Option Addr) else some ⟨g, 1, none⟩) = da := ⟨_, rfl⟩
    rw [hda] at hK
    have HW := hide hW
    have HK := hide hK
    have HM := hide hM
    clear hW hK hM hX hS
    go_wp2_with fail
    refine (readnums_any da (n - 1) (n - 1) M _ ((unhide HE).bel hbA) (unhide HK) (unhide HM) (by omega)).mono ?_
    rintro e w2 ⟨v, ns, b, rfl, hO, hT, hF, hb2⟩
    have z2 := hb2.size
    have hR2 := (hb2.block w.heap.size (by omega)).trans hR1
    have hbB : Below w.heap.size w w2 := bel_trans hbA hb2
    have hc2 := cell_keep hb2 hc0
    clear hb2 hR1 hbA hc0 HK HM hda
    cases b with
    | false =>
      have HI : Hid (ItR s 0 0 0 0 0 false) := hide (Or.inr ⟨rfl, ⟨rfl, rfl, rfl, rfl, rfl⟩, fun q t k v n ho e => by
        have h1 := words_itm (unhide HW) ho e
        obtain ⟨y, hy, z, hr⟩ := hF rfl
        exact itw_rd h1 ho y hy z hr⟩)
      clear hF hT hO hc2
      have z3 : w.heap.size < w2.heap.size := by omega
      have r0 : w2.cell? ⟨w.heap.size, 0, none⟩ = some (.int .i64 0) := by simp [World.cell?, hR2, go_sem]
      have rf0 : w2.frozen? ⟨w.heap.size, 0, none⟩ = false := by simp [World.frozen?, hR2, go_sem]
      have r1 : w2.cell? ⟨w.heap.size, 1, none⟩ = some (.int .i64 0) := by simp [World.cell?, hR2, go_sem]
      have rf1 : w2.frozen? ⟨w.heap.size, 1, none⟩ = false := by simp [World.frozen?, hR2, go_sem]
      have r2 : w2.cell? ⟨w.heap.size, 2, none⟩ = some (.int .i64 0) := by simp [World.cell?, hR2, go_sem]
      have rf2 : w2.frozen? ⟨w.heap.size, 2, none⟩ = false := by simp [World.frozen?, hR2, go_sem]
      have r3 : w2.cell? ⟨w.heap.size, 3, none⟩ = some (.int .i64 0) := by simp [World.cell?, hR2, go_sem]
      have rf3 : w2.frozen? ⟨w.heap.size, 3, none⟩ = false := by simp [World.frozen?, hR2, go_sem]
      have r4 : w2.cell? ⟨w.heap.size, 4, none⟩ = some (.int .i64 0) := by simp [World.cell?, hR2, go_sem]
      have rf4 : w2.frozen? ⟨w.heap.size, 4, none⟩ = false := by simp [World.frozen?, hR2, go_sem]
      go_wp2
      refine bodyPost_ret (v := .tuple #[.agg #[.int .i64 0, .int .i64 0, .int .i64 0, .int .i64 0, .int .i64 0], .bool false]) (by simp (maxDischargeDepth := 9) [results, Tryz.results36, go_sem, *]) rfl ⟨0, 0, 0, 0, 0, false, rfl, unhide HI, (by repeat (first | (with_reducible exact Below.refl _ _) | (with_reducible assumption) | (with_reducible refine bel_set ?_ (by first | (simp; done) | (simp; omega)) _) | (with_reducible refine bel_alloc ?_ _) | (with_reducible refine bel_drew ?_) | (with_reducible refine bel_drewN ?_ _) | (with_reducible refine bel_trans ?_ (by with_reducible assumption))))⟩
    | true =>
      obtain ⟨av, cv, rfl, hN⟩ := numsAt_of hO
      have HT : Hid (NsOf M ns) := hide (hT rfl)
      clear hT hF hO
      obtain ⟨nl, hnl⟩ : ∃ nl, ns.length = nl := ⟨_, rfl⟩
      have HNL := hide hnl
      have HN := hide hN
      rw [hnl]
      clear hnl hN
      go_wp2_with fail
      refine (itemof_any _ (unhide HNL) (unhide HN)).mono ?_
      rintro e w3 ⟨q, t, k, v, n, rfl, hIX, hb3⟩
      have HIX := hide hIX
      have z3 := hb3.size
      have hR3 := (hb3.block w.heap.size (by omega)).trans hR2
      have hbC : Below w.heap.size w w3 := bel_trans hbB hb3
      clear hb3 hR2 hbB hc2 hIX HN HNL
      have zr3 : w.heap.size < w3.heap.size := by omega
      go_wp2_with fail
      have hX3 : (w3.alloc (.cells #[.int .i64 q, .int .i64 t, .int .i64 k, .int .i64 v, .int .i64 n] 45)).heap[w3.heap.size]? = some (.cells #[.int .i64 q, .int .i64 t, .int .i64 k, .int .i64 v, .int .i64 n] 45 (0, 0)) := blk_at0
      have hR4 := ((bel_one w3 (.cells #[.int .i64 q, .int .i64 t, .int .i64 k, .int .i64 v, .int .i64 n] 45)).block _ zr3).trans hR3
      have hbD : Below w.heap.size w (w3.alloc (.cells #[.int .i64 q, .int .i64 t, .int .i64 k, .int .i64 v, .int .i64 n] 45)) := bel_alloc hbC _
      have z4 : w3.heap.size < (w3.alloc (.cells #[.int .i64 q, .int .i64 t, .int .i64 k, .int .i64 v, .int .i64 n] 45)).heap.size := by simp
      generalize (w3.alloc (.cells #[.int .i64 q, .int .i64 t, .int .i64 k, .int .i64 v, .int .i64 n] 45)) = W3 at hX3 hR4 hbD z4 ⊢
      refine (implitm_any q t k v n _).mono ?_
      rintro e w4 ⟨rfl, hb4⟩
      have z5 := hb4.size
      have hX4 := (hb4.block w3.heap.size (by omega)).trans hX3
      have hR5 := (hb4.block w.heap.size (by omega)).trans hR4
      have hbE : Below w.heap.size w w4 := bel_trans hbD hb4
      have zr5 : w.heap.size < w4.heap.size := by omega
      have zx5 : w3.heap.size < w4.heap.size := by omega
      clear hb4 hX3 hR4 hbD hbC hR3
      cases ho : okItm q t k v n
      · have HI : Hid (ItR s 0 0 0 0 0 false) := hide (Or.inr ⟨rfl, ⟨rfl, rfl, rfl, rfl, rfl⟩, fun q' t' k' v' n' ho' e => by
          have h1 := (unhide HIX).symm.trans (itX_fwd (unhide HT) (words_itm (unhide HW) ho' e) ho')
          simp only [Prod.mk.injEq] at h1
          obtain ⟨rfl, rfl, rfl, rfl, rfl⟩ := h1
          rw [ho] at ho'
          cases ho'⟩)
        clear ho hX4
        have r0 : w4.cell? ⟨w.heap.size, 0, none⟩ = some (.int .i64 0) := by simp [World.cell?, hR5, go_sem]
        have rf0 : w4.frozen? ⟨w.heap.size, 0, none⟩ = false := by simp [World.frozen?, hR5, go_sem]
        have r1 : w4.cell? ⟨w.heap.size, 1, none⟩ = some (.int .i64 0) := by simp [World.cell?, hR5, go_sem]
        have rf1 : w4.frozen? ⟨w.heap.size, 1, none⟩ = false := by simp [World.frozen?, hR5, go_sem]
        have r2 : w4.cell? ⟨w.heap.size, 2, none⟩ = some (.int .i64 0) := by simp [World.cell?, hR5, go_sem]
        have rf2 : w4.frozen? ⟨w.heap.size, 2, none⟩ = false := by simp [World.frozen?, hR5, go_sem]
        have r3 : w4.cell? ⟨w.heap.size, 3, none⟩ = some (.int .i64 0) := by simp [World.cell?, hR5, go_sem]
        have rf3 : w4.frozen? ⟨w.heap.size, 3, none⟩ = false := by simp [World.frozen?, hR5, go_sem]
        have r4 : w4.cell? ⟨w.heap.size, 4, none⟩ = some (.int .i64 0) := by simp [World.cell?, hR5, go_sem]
        have rf4 : w4.frozen? ⟨w.heap.size, 4, none⟩ = false := by simp [World.frozen?, hR5, go_sem]
        go_wp2
        refine bodyPost_ret (v := .tuple #[.agg #[.int .i64 0, .int .i64 0, .int .i64 0, .int .i64 0, .int .i64 0], .bool false]) (by simp (maxDischargeDepth := 9) [results, Tryz.results36, go_sem, *]) rfl ⟨0, 0, 0, 0, 0, false, rfl, unhide HI, (by repeat (first | (with_reducible exact Below.refl _ _) | (with_reducible assumption) | (with_reducible refine bel_set ?_ (by first | (simp; done) | (simp; omega)) _) | (with_reducible refine bel_alloc ?_ _) | (with_reducible refine bel_drew ?_) | (with_reducible refine bel_drewN ?_ _) | (with_reducible refine bel_trans ?_ (by with_reducible assumption))))⟩
      · have HI : Hid (ItR s q t k v n true) := hide (Or.inl ⟨rfl, ho, text_words (unhide HW) (okItm_bd ho).1 (itX_back (unhide HT) (unhide HIX) ho)⟩)
        clear ho
        have x0 : w4.cell? ⟨w3.heap.size, 0, none⟩ = some (.int .i64 q) := by simp [World.cell?, hX4, go_sem]
        have x1 : w4.cell? ⟨w3.heap.size, 1, none⟩ = some (.int .i64 t) := by simp [World.cell?, hX4, go_sem]
        have x2 : w4.cell? ⟨w3.heap.size, 2, none⟩ = some (.int .i64 k) := by simp [World.cell?, hX4, go_sem]
        have x3 : w4.cell? ⟨w3.heap.size, 3, none⟩ = some (.int .i64 v) := by simp [World.cell?, hX4, go_sem]
        have x4 : w4.cell? ⟨w3.heap.size, 4, none⟩ = some (.int .i64 n) := by simp [World.cell?, hX4, go_sem]
        have r0 : w4.cell? ⟨w.heap.size, 0, none⟩ = some (.int .i64 0) := by simp [World.cell?, hR5, go_sem]
        have rf0 : w4.frozen? ⟨w.heap.size, 0, none⟩ = false := by simp [World.frozen?, hR5, go_sem]
        have r1 : w4.cell? ⟨w.heap.size, 1, none⟩ = some (.int .i64 0) := by simp [World.cell?, hR5, go_sem]
        have rf1 : w4.frozen? ⟨w.heap.size, 1, none⟩ = false := by simp [World.frozen?, hR5, go_sem]
        have r2 : w4.cell? ⟨w.heap.size, 2, none⟩ = some (.int .i64 0) := by simp [World.cell?, hR5, go_sem]
        have rf2 : w4.frozen? ⟨w.heap.size, 2, none⟩ = false := by simp [World.frozen?, hR5, go_sem]
        have r3 : w4.cell? ⟨w.heap.size, 3, none⟩ = some (.int .i64 0) := by simp [World.cell?, hR5, go_sem]
        have rf3 : w4.frozen? ⟨w.heap.size, 3, none⟩ = false := by simp [World.frozen?, hR5, go_sem]
        have r4 : w4.cell? ⟨w.heap.size, 4, none⟩ = some (.int .i64 0) := by simp [World.cell?, hR5, go_sem]
        have rf4 : w4.frozen? ⟨w.heap.size, 4, none⟩ = false := by simp [World.frozen?, hR5, go_sem]
        go_wp2
        refine bodyPost_ret (v := .tuple #[.agg #[.int .i64 q, .int .i64 t, .int .i64 k, .int .i64 v, .int .i64 n], .bool true]) (by simp (maxDischargeDepth := 9) [results, Tryz.results36, go_sem, *]) rfl ⟨q, t, k, v, n, true, rfl, unhide HI, (by repeat (first | (with_reducible exact Below.refl _ _) | (with_reducible assumption) | (with_reducible refine bel_set ?_ (by first | (simp; done) | (simp; omega)) _) | (with_reducible refine bel_alloc ?_ _) | (with_reducible refine bel_drew ?_) | (with_reducible refine bel_drewN ?_ _) | (with_reducible refine bel_trans ?_ (by with_reducible assumption))))⟩
  · have hs2 : (100 : Int) < s.size := by omega
    have HI : Hid (ItR s 0 0 0 0 0 false) := hide (itR_of (L := []) (q := 0) (t := 0) (k := 0) (v := 0) (n := 0) (fun h => absurd h hs) (fun _ => rfl) rfl (fun h => by have := (okItm_bd h.1).1; omega))
    go_wp2
    refine bodyPost_ret (v := .tuple #[.agg #[.int .i64 0, .int .i64 0, .int .i64 0, .int .i64 0, .int .i64 0], .bool false]) (by simp (maxDischargeDepth := 9) [results, Tryz.results36, go_sem, *]) rfl ⟨0, 0, 0, 0, 0, false, rfl, unhide HI, (by repeat (first | (with_reducible exact Below.refl _ _) | (with_reducible assumption) | (with_reducible refine bel_set ?_ (by first | (simp; done) | (simp; omega)) _) | (with_reducible refine bel_alloc ?_ _) | (with_reducible refine bel_drew ?_) | (with_reducible refine bel_drewN ?_ _) | (with_reducible refine bel_trans ?_ (by with_reducible assumption))))⟩
end Go.Proofs.YtcokdcehjibanaaGreatDoor
