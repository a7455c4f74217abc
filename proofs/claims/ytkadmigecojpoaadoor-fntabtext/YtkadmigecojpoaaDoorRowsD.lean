/- Proved here: rows are drawn, in memory of their own. -/
import Derived.Test.YtkadmigecojpoaaDoorTabOfS
import Derived.Test.YtkadmigecojpoaaDoorPaneD
namespace Go.Proofs.YtkadmigecojpoaaDoor
open Go.ChangeShapes Go.WideShapes Go.ChangeAt Go.RowKit
set_option linter.unusedVariables false

theorem ownTb_kp {R B : Nat} {W W' : World} {v : Value} {xs : List TbR} (h : OwnTb W B v xs) (k : Kp R W W') (hR : R < B) : OwnTb W' B v xs := pn_upB h (fun b hv => k.all b (World.ownsRow.lt h b hv).2 (by have := (World.ownsRow.lt h b hv).1; omega))
/-- Rows that are drawn. -/
def RowsP (R : Nat) (w : World) (a : Option Addr) (len cap p : Nat) (e' : Ending) (w' : World) : Prop := ∃ (v : Value) (xs : List TbR), e' = .returned v ∧ OwnTb w' w.heap.size v xs ∧ xs.length ≤ 9 ∧ Kp R w w' ∧ ∃ p', p' ≤ p + 410 ∧ Rd R w' a len cap p'

set_option linter.unusedSimpArgs false in
set_option maxRecDepth 20000 in
set_option maxHeartbeats 4000000 in
theorem rows_any (R : Nat) (a : Option Addr) (len cap p : Nat) (w : World) (hp : p ≤ 500000) (hR0 : R < w.heap.size) (h : Rd R w a len cap p) : Calls Tryd.prog 37 #[.pointer (some ⟨R, 0, none⟩)] w fun e w' => RowsP R w a len cap p e w' := by
  obtain ⟨i0, hi, hz0, hz1, hz2⟩ := info_parts Tryd.infoTb
  go_enter Tryd.func37, Tryd.ntmps37
  go_wp2_with fail
  refine (panes_any R a len cap p _ (by omega) hR0 h).mono ?_
  rintro e' w1 ⟨v1, ps, rfl, hO1, hpl, k1, p1, hp1, rd1⟩
  have z1 : R < w1.heap.size := Nat.lt_of_lt_of_le hR0 k1.low.size
  have HO1 := hide hO1
  clear hO1
  go_wp2_with fail
  refine (pick_any R a len cap p1 2 _ (by decide) (by decide) rd1).mono ?_
  rintro e' w2 ⟨x, rfl, _, _, k2, r2⟩
  have rd2 := r2 (by omega)
  have hO2 := ownPn_kp (unhide HO1) k2 hR0
  obtain ⟨a2, c2, rfl, HP2, _, _⟩ := holdPn hO2 (by omega)
  have hk02 : Kp R w w2 := k1.trans k2
  have z2 : R < w2.heap.size := Nat.lt_of_lt_of_le z1 k2.low.size
  have HPh := hide HP2
  clear HO1 hO2 HP2 r2 rd1
  obtain ⟨pc, hpc⟩ : ∃ pc, (x == 0) = pc := ⟨_, rfl⟩
  go_wp2_with fail
  refine (spectabof_any pc a2 ps.length c2 ps _ (unhide HPh) (by omega)).mono ?_
  rintro e' w3 ⟨v3, rfl, hO3, hb3⟩
  clear hpc
  have hl3 := tabOfL_len pc ps
  obtain ⟨L, hL⟩ : ∃ L, tabOfL pc ps = L := ⟨_, rfl⟩
  rw [hL] at hO3 hl3
  clear hL HPh
  have HO3 := hide (World.ownsRow.mono hO3 hk02.low.size : OwnTb w3 w.heap.size v3 L)
  have HK3 := hide (hk02.trans (Kp.of_bel (Nat.le_of_lt z2) hb3))
  have rd3 := rd2.up (hb3.mono (by omega))
  have z3 : w.heap.size ≤ w3.heap.size := Nat.le_trans hk02.low.size hb3.size
  clear hO3 rd2 k1 k2 hk02
  go_wp2_with fail
  refine (pick_any R a len cap (p1 + 1) 8 _ (by decide) (by decide) rd3).mono ?_
  rintro e' w4 ⟨y, rfl, _, _, k4, r4⟩
  have HD4 := hide (r4 (by omega))
  have hO4 := ownTb_kp (unhide HO3) k4 hR0
  have HK4 := hide ((unhide HK3).trans k4)
  have z4 : w.heap.size ≤ w4.heap.size := Nat.le_trans z3 k4.low.size
  clear HO3 HK3 rd3 k4 r4
  have hO4' := hO4
  obtain ⟨a4, c4, rfl, HT4, _, _⟩ := holdTb hO4 (by omega)
  have HO4 := hide hO4'
  clear hO4 hO4'
  by_cases hy : y = 0
  · subst hy
    by_cases hL0 : L.length = 0
    · have hLI : ¬ (0 : Int) < (L.length : Int) := by omega
      clear HT4
      have hLN : ¬ 0 < L.length := by omega
      have hLd : decide (0 < L.length) = false := decide_eq_false hLN
      clear hL0
      go_wp2
      go_ret
      exact ⟨_, L, rfl, by have h9 := unhide HO4; exact h9, by omega, unhide HK4, p1 + 1 + 1, by omega, unhide HD4⟩
    · have hLI : (0 : Int) < (L.length : Int) := by omega
      have hLN : 0 < L.length := by omega
      have hLd : decide (0 < L.length) = true := decide_eq_true hLN
      obtain ⟨_, _, h3⟩ := HT4
      obtain ⟨g, o, rfl, hat⟩ := h3.resolve_left hL0
      obtain ⟨r, hr⟩ : ∃ r, L[0]? = some r := ⟨_, List.getElem?_eq_getElem (by omega)⟩
      obtain ⟨c0, c1, c2', c3, c5, c6, c7⟩ := hat 0 r hr
      clear h3 hat hr
      simp only [Nat.zero_mul, Nat.add_zero] at c0 c1 c2' c3 c5 c6 c7
      have hge := hide (fun b (hb : (Value.slice (some ⟨g, o, none⟩) L.length c4).ownBlock = some b) => (World.ownsRow.lt (unhide HO4) b hb).1)
      go_wp2_with (at_builtin; go_loud (refine wpList_append_own _ rfl _ _ 32 rfl w.heap.size 64 i0 _ 7 56 Tryd.underlying32 hi hz0 hz1 hz2 rfl (by decide) (.slice (some ⟨g, o, none⟩) L.length c4) L.length (flatTb L) rfl (World.ownsRow.alloc (unhide HO4) _) ⟨w4.heap.size, 0, none⟩ 1 1 [.int .i64 r.ky, .int .i64 r.st, .int .i64 r.en, .int .i64 r.n, .int .i64 r.su, .int .i64 r.le, .int .i64 r.mo] rfl rfl (cells_atTb _ r.ky r.st r.en r.n r.su r.le r.mo _ (by simp)) (by simp [Value.oneCell']) (by unfold maxLen; omega) (by omega) (by simp; omega) ?_); intro v' w5 hown hgrow _)
      have hb5 : Below w.heap.size w4 w5 := ((Below.refl _ w4).alloc z4 _).grown hgrow (by simp; omega) (unhide hge)
      have O5 : OwnTb w5 w.heap.size v' (L ++ [r]) := ownTb_snoc hown
      have K5 := hide (kp_upP hR0 (unhide HK4) hb5)
      have D5 := hide ((unhide HD4).up (hb5.mono (by omega)))
      clear hown hgrow
      go_wp2
      go_ret
      exact ⟨_, _, rfl, O5, by simp; omega, unhide K5, p1 + 1 + 1, by omega, unhide D5⟩
  · have hy' : (y == 0) = false := by simp [hy]
    clear HT4
    go_wp2
    go_ret
    exact ⟨_, L, rfl, unhide HO4, by omega, unhide HK4, p1 + 1 + 1, by omega, unhide HD4⟩
end Go.Proofs.YtkadmigecojpoaaDoor
