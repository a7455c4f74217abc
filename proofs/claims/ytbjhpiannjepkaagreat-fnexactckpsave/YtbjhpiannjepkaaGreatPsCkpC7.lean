/- Laid together: what the claim needs of the texts that were built one by one. -/
import Derived.Test.YtbjhpiannjepkaaGreatPsCkpC6
import Derived.Test.YtbjhpiannjepkaaGreatPsBase
namespace Go.Proofs.YtbjhpiannjepkaaGreat
open Go.ChangeShapes Go.WideShapes Go.ChangeAt Go.RowKit Go.Deep
set_option linter.unusedVariables false

set_option linter.unusedSimpArgs false in
set_option maxRecDepth 20000 in
set_option maxHeartbeats 4000000 in
theorem specsnaps_any (a : Option Addr) (n cap B0 : Nat) (xs : List SnD) (w : World) (h : SnB w B0 a n xs) (hn : n ≤ 1048576) (hsm : ∀ y ∈ xs, y.rows.length ≤ 1048576 ∧ y.marks.length ≤ 1048576) : Calls Tryz.prog 22 #[.slice a n cap] w fun e w' => ∃ v l, e = .returned v ∧ OwnSn w' w.heap.size v l ∧ CopS w' w.heap.size l xs ∧ Below w.heap.size w w' := by
  obtain ⟨i3, hi3, hz30, hz31, hz32⟩ := info_parts Tryz.infoSn1
  have hxl := h.1
  go_enter Tryz.func22, Tryz.ntmps22
  go_wp2
  go_loopw [3, 4] (fun v iv wr => ∃ (i : Nat) (l : List (Int × SnV)), iv = .int .i64 i ∧ i ≤ n ∧ OwnSn wr w.heap.size v l ∧ Hid (CopS wr w.heap.size l (xs.take i)) ∧ Below w.heap.size w wr) (fun _ iv _ => n - (intOf iv).toNat)
  case atStart => exact ⟨0, [], rfl, Nat.zero_le _, World.ownsRow_lit (base := w.heap.size) (size := 3) w #[] 0 (Nat.le_refl _) (by decide) (by simp), hide (CopS.nil _ _), bel_one _ _⟩
  case round =>
    obtain ⟨i, l, rfl, hi, hO, HC, hbw⟩ := hrel
    have zr := hbw.size
    by_cases hlt : (i : Int) < (n : Int)
    · obtain ⟨x, hx⟩ : ∃ x, xs[i]? = some x := ⟨_, List.getElem?_eq_getElem (by omega)⟩
      have hll : l.length = i := by have := (unhide HC).len; rw [this, List.length_take]; omega
      obtain ⟨_, _, h3⟩ := h
      obtain ⟨g, o, rfl, _, hat⟩ := h3.resolve_left (by omega)
      obtain ⟨a1, l1, c1, a2, l2, c2, ⟨p0, p1, p2⟩, q1, q2⟩ := hat i x hx
      have hg : g < w.heap.size := World.block_lt_of_cell? w ⟨g, _, none⟩ p0
      replace p0 := (hbw.cell (p := ⟨g, _, none⟩) hg).trans p0
      replace p1 := (hbw.cell (p := ⟨g, _, none⟩) hg).trans p1
      replace p2 := (hbw.cell (p := ⟨g, _, none⟩) hg).trans p2
      have hs := hsm x (List.mem_of_getElem? hx)
      have e1 := rows_len q1
      have e2 := marks_len q2
      have Q1 := hide ((q1.1.below hbw))
      have Q2 := hide ((q2.1.below hbw))
      have HX := hide hx
      have HO := hide hO
      clear hat h3 hx q1 q2 hO
      go_wp2_with fail
      refine (l9snapC_any x.ma a1 l1 c1 a2 l2 c2 x.rows x.marks _ (unhide Q1) (unhide Q2) (by omega) (by omega)).mono ?_
      rintro e' wc ⟨v1, v2, rfl, o1, o2, hbc⟩
      obtain ⟨b1, d1, rfl⟩ := sliceC o1
      obtain ⟨b2, d2, rfl⟩ := sliceC o2
      have hbAc : Below wr.heap.size wr wc := hbc
      have HO2 := hide (own_bel (unhide HO) hbAc)
      have zc : wr.heap.size ≤ wc.heap.size := hbAc.size
      have HC2 := hide (CopS.snoc (p := (x.ma, ⟨b1, l1, d1, b2, l2, d2⟩)) (x := x) (unhide HC) hbAc zr ⟨rfl, e1.symm, e2.symm⟩ (o1.mono (by simp)) (o2.mono (by simp)))
      have hge := hide (own_geV (unhide HO2))
      clear HO HC o1 o2 Q1 Q2
      go_wp2_with (at_builtin; go_loud (refine wpList_append_own _ rfl _ _ 32 rfl w.heap.size 80 i3 _ 3 56 Tryz.underlying32 hi3 hz30 hz31 hz32 rfl (by decide) u3 _ _ rfl (World.ownsRow.alloc (unhide HO2) _) ⟨wc.heap.size, 0, none⟩ 1 1 [.int .i64 x.ma, .slice b1 l1 d1, .slice b2 l2 d2] rfl rfl (cell_new3 _ rfl _ _ _ _) (by simp [Value.oneCell']) (by unfold maxLen; omega) (by omega) (by simp; omega) ?_); intro v' w5 hown hgrow _)
      have hb5 : Below w.heap.size wc w5 := ((Below.refl _ wc).alloc (by omega) _).grown hgrow (by simp; omega) (unhide hge)
      have O5 : OwnSn w5 w.heap.size v' (l ++ [(x.ma, ⟨b1, l1, d1, b2, l2, d2⟩)]) := by
        unfold OwnSn
        rw [flatSV_snoc, List.length_append]
        exact hown
      have C5 : Hid (CopS w5 w.heap.size (l ++ [(x.ma, ⟨b1, l1, d1, b2, l2, d2⟩)]) (xs.take (i + 1))) := hide (by
        have ht : xs.take (i + 1) = xs.take i ++ [x] := by rw [List.take_add_one, unhide HX]; rfl
        rw [ht]
        exact (unhide HC2).step (unhide HO2) hgrow)
      have hbF : Below w.heap.size w w5 := hbw.trans ((hbAc.mono zr).trans hb5)
      refine ⟨⟨i + 1, l ++ [(x.ma, ⟨b1, l1, d1, b2, l2, d2⟩)], by simp, by omega, O5, C5, hbF⟩, ?_⟩
      simp [intOf]; omega
    · have hin : i = n := by omega
      subst hin
      have HC2 : CopS wr w.heap.size l xs := by have h9 := unhide HC; rw [← hxl, List.take_length] at h9; exact h9
      clear HC
      go_wp2
      go_ret
      exact ⟨_, rfl, l, hO, HC2, hbw⟩
end Go.Proofs.YtbjhpiannjepkaaGreat
