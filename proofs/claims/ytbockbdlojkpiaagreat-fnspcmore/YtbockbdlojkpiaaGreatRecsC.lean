/- Proved here: records are drawn, in memory of their own, their numbers within bounds. -/
import Derived.Test.YtbockbdlojkpiaaGreatDrawItmC
import Derived.Test.YtbockbdlojkpiaaGreatRwaItm
import Derived.Deep.Onto
namespace Go.Proofs.YtbockbdlojkpiaaGreat
open Go.ChangeShapes Go.WideShapes Go.ChangeAt Go.RowKit
set_option linter.unusedVariables false

theorem iw_upB {W W' : World} {B : Nat} {e : TypeId} {size n : Nat} {v : Value} {xs : List Value} (h : W.ownsRow B e size v n xs) (hb : ∀ b, v.ownBlock = some b → W'.heap[b]? = W.heap[b]?) : W'.ownsRow B e size v n xs := by
  rcases h with ⟨hl, h | ⟨g, cap, cur, rfl, hB, hblk, r⟩⟩
  · exact ⟨hl, Or.inl h⟩
  · exact ⟨hl, Or.inr ⟨g, cap, cur, rfl, hB, (hb g rfl).trans hblk, r⟩⟩
/-- Records of one's own stay while others draw. -/
theorem ownIw_kp {R B : Nat} {W W' : World} {v : Value} {xs : List IwR} (h : OwnIw W B v xs) (k : Kp R W W') (hR : R < B) : OwnIw W' B v xs := iw_upB h (fun b hv => k.all b (World.ownsRow.lt h b hv).2 (by have := (World.ownsRow.lt h b hv).1; omega))
theorem kp_upR {R : Nat} {w W W' : World} (hR : R < w.heap.size) (h : Kp R w W) (hb : Below w.heap.size W W') : Kp R w W' := ⟨h.low.trans (hb.mono (Nat.le_of_lt hR)), fun b hb' hn => (hb.block b hb').trans (h.all b hb' hn)⟩
theorem own_setR {W : World} {p : Addr} {u : Value} {B : Nat} {e : TypeId} {size n : Nat} {v : Value} {xs : List Value} (h : W.ownsRow B e size v n xs) (hp : p.block < B) : (W.setCell p u).ownsRow B e size v n xs := iw_upB h (fun b hv => Below.heap_setCell _ _ _ _ (fun e => by have := (World.ownsRow.lt h b hv).1; omega))
theorem snoc_ok {xs : List IwR} {y : IwR} (h : ∀ x ∈ xs, x.ok64) (hy : y.ok64) : ∀ x ∈ xs ++ [y], x.ok64 := fun x hx => by
  rcases List.mem_append.1 hx with hx | hx
  · exact h x hx
  · rw [List.mem_singleton.1 hx]; exact hy
/-- Records that are drawn. -/
def RecsC (R : Nat) (w : World) (a : Option Addr) (len cap p : Nat) (e' : Ending) (w' : World) : Prop := ∃ (v : Value) (xs : List IwR), e' = .returned v ∧ OwnIw w' w.heap.size v xs ∧ v ≠ .slice none 0 0 ∧ (∀ x ∈ xs, x.ok64) ∧ xs.length ≤ 14 ∧ Kp R w w' ∧ ∃ p', p' ≤ p + 90 ∧ Rd R w' a len cap p'

set_option linter.unusedSimpArgs false in
set_option maxRecDepth 20000 in
set_option maxHeartbeats 4000000 in
theorem recsC_any (R : Nat) (a : Option Addr) (len cap p : Nat) (n : Int) (w : World) (hn : 1 ≤ n) (hn2 : n ≤ 100000) (hp : p ≤ 600000) (hR0 : R < w.heap.size) (h : Rd R w a len cap p) : Calls Tryz.prog 42 #[.pointer (some ⟨R, 0, none⟩), .int .i64 n] w fun e w' => RecsC R w a len cap p e w' := by
  obtain ⟨i0, hi, hz0, hz1, hz2⟩ := info_parts Tryz.infoIw
  have hb0 : Below w.heap.size w (w.alloc (.cells #[] 41)) := bel_one _ _
  go_enter Tryz.func42, Tryz.ntmps42
  go_wp2_with fail
  refine (pick_any R a len cap p 14 _ (by decide) (by decide) (h.kp hR0 hb0)).mono ?_
  rintro e' wb ⟨x, rfl, xl, xu, k9, r9⟩
  obtain ⟨kx, rfl⟩ := Int.eq_ofNat_of_zero_le xl
  have O0 : OwnIw wb w.heap.size (.slice (some ⟨w.heap.size, 0, none⟩) 0 0) [] := ownIw_kp (World.ownsRow_lit (base := w.heap.size) (size := 5) w #[] 0 (Nat.le_refl _) (by decide) (by simp)) k9 hR0
  have HK0 := hide ((Kp.of_bel (Nat.le_of_lt hR0) hb0).trans k9)
  have HD0 := hide (r9 (by omega))
  clear k9 r9
  go_wp2
  go_loopw [5, 6] (fun v kv wr => ∃ (k : Nat) (xs : List IwR) (p' : Nat), kv = .int .i64 k ∧ xs.length + k ≤ 13 ∧ OwnIw wr w.heap.size v xs ∧ Hid (v ≠ .slice none 0 0) ∧ Hid (∀ x ∈ xs, x.ok64) ∧ Hid (Kp R w wr) ∧ p' ≤ p + 1 + 5 * xs.length ∧ Hid (Rd R wr a len cap p')) (fun _ kv _ => (intOf kv).toNat)
  case atStart => exact ⟨kx, [], p + 1, rfl, by simp; omega, O0, hide (by simp), hide (fun x hx => by cases hx), HK0, by simp, HD0⟩
  case round =>
    clear O0 HK0 HD0
    obtain ⟨k, xs, p', rfl, hk, hO, HNn, HOk, HK, hp', HD⟩ := hrel
    have zr : w.heap.size ≤ wr.heap.size := (unhide HK).low.size
    by_cases hlt : 0 < (k : Int)
    · have HO := hide hO
      clear hO
      go_wp2_with fail
      refine (rec_any R a len cap p' _ (by omega) (by omega) (unhide HD)).mono ?_
      rintro e' wc ⟨t, ke, v, rfl, bt, bk, bv, kc, rc⟩
      have zc : w.heap.size ≤ wc.heap.size := Nat.le_trans zr kc.low.size
      have hRc : R < wc.heap.size := by omega
      have hbc : Below wc.heap.size wc (wc.alloc (.cells #[.int .i64 1, .int .i64 t, .int .i64 ke, .int .i64 v, .int .i64 0] 41)) := bel_one _ _
      have HOc := hide (ownIw_kp (unhide HO) kc hR0)
      have HKc := hide ((unhide HK).trans kc)
      clear HO HK HD kc
      go_wp2_with fail
      refine (pick_any R a len cap (p' + 4) 2 _ (by decide) (by decide) (rc.kp hRc hbc)).mono ?_
      rintro e' wd ⟨x, rfl, xl, xu, kd, rd⟩
      have d0 : wd.cell? ⟨wc.heap.size, 0, none⟩ = some (.int .i64 1) := (kd.cell (by simp) (by omega)).trans (by simp [go_sem])
      have d1 : wd.cell? ⟨wc.heap.size, 1, none⟩ = some (.int .i64 t) := (kd.cell (by simp) (by omega)).trans (by simp [go_sem])
      have d2 : wd.cell? ⟨wc.heap.size, 2, none⟩ = some (.int .i64 ke) := (kd.cell (by simp) (by omega)).trans (by simp [go_sem])
      have d3 : wd.cell? ⟨wc.heap.size, 3, none⟩ = some (.int .i64 v) := (kd.cell (by simp) (by omega)).trans (by simp [go_sem])
      have d4 : wd.cell? ⟨wc.heap.size, 4, none⟩ = some (.int .i64 0) := (kd.cell (by simp) (by omega)).trans (by simp [go_sem])
      have f2 : wd.frozen? ⟨wc.heap.size, 2, none⟩ = false := (kd.frozen (by simp) (by omega)).trans (by simp [go_sem])
      have zd : wc.heap.size < wd.heap.size := by have h9 := kd.low.size; simp at h9; omega
      have KB : Kp R wc wd := (Kp.of_bel (Nat.le_of_lt hRc) hbc).trans kd
      have KC : Kp R wc (wd.setCell ⟨wc.heap.size, 2, none⟩ (.int .i64 x)) := kp_setN KB (Nat.le_refl _) hRc _
      have HO2 := hide (ownIw_kp (unhide HOc) KC hR0)
      have HK2 := hide ((unhide HKc).trans KC)
      have HD2 := hide ((rd (by omega)).up ((Below.refl (R + 1) wd).setCell (p := ⟨wc.heap.size, 2, none⟩) (by simp; omega) (.int .i64 x)))
      have hge := hide (fun b (hb : u5.ownBlock = some b) => (World.ownsRow.lt (unhide HO2) b hb).1)
      clear HOc HKc KB KC kd rd rc
      go_wp2_with (at_builtin; go_loud (refine wpList_append_own _ rfl _ _ 25 rfl w.heap.size 41 i0 _ 5 40 Tryz.underlying25 hi hz0 hz1 hz2 rfl (by decide) u5 _ _ rfl (World.ownsRow.alloc (unhide HO2) _) ⟨wd.heap.size, 0, none⟩ 1 1 [.int .i64 1, .int .i64 t, .int .i64 x, .int .i64 v, .int .i64 0] rfl rfl (cells_atIw _ 1 t x v 0 _ (by simp)) (by simp [Value.oneCell']) (by unfold maxLen; omega) (by omega) (by simp; omega) ?_); intro v' w5 hown hgrow hnn)
      have hb5 : Below w.heap.size (wd.setCell ⟨wc.heap.size, 2, none⟩ (.int .i64 x)) w5 := ((Below.refl _ _).alloc (by simp; omega) _).grown hgrow (by simp; omega) (unhide hge)
      have O5 : OwnIw w5 w.heap.size v' (xs ++ [⟨1, t, x, v, 0⟩]) := ownIw_snoc hown
      have K5 := hide (kp_upR hR0 (unhide HK2) hb5)
      have D5 := hide ((unhide HD2).up (hb5.mono (by omega)))
      refine ⟨⟨k - 1, xs ++ [⟨1, t, x, v, 0⟩], p' + 4 + 1, ?_, by simp; omega, O5, hide (fun e9 => unhide HNn (hnn.1 e9).1), hide (snoc_ok (unhide HOk) (by refine ⟨⟨?_, ?_⟩, ⟨?_, ?_⟩, ⟨?_, ?_⟩, ⟨?_, ?_⟩, ⟨?_, ?_⟩⟩ <;> (try dsimp only) <;> omega)), K5, by simp; omega, D5⟩, ?_⟩
      · have : ((k - 1 : Nat) : Int) = (k : Int) - 1 := by omega
        rw [this]
      · simp [intOf]; omega
    · have HO := hide hO
      clear hO
      go_wp2_with fail
      refine (pick_any R a len cap p' n _ hn hn2 (unhide HD)).mono ?_
      rintro e' wc ⟨x, rfl, xl, xu, kc, rc⟩
      have rc' := rc (by omega)
      have zc : w.heap.size ≤ wc.heap.size := Nat.le_trans zr kc.low.size
      have HOc := hide (ownIw_kp (unhide HO) kc hR0)
      have HKc := hide ((unhide HK).trans kc)
      clear HO HK HD rc kc
      by_cases hx : x = 0
      · subst hx
        go_wp2_with fail
        refine (itemC_any R a len cap (p' + 1) 2 _ (by decide) (by decide) (by omega) (by omega) rc').mono ?_
        rintro e' wd ⟨q, t, ke, v, m, rfl, hbd, kd, p2, hp2, rd⟩
        have zd : w.heap.size ≤ wd.heap.size := Nat.le_trans zc kd.low.size
        have HO2 := hide (ownIw_kp (unhide HOc) kd hR0)
        have HK2 := hide ((unhide HKc).trans kd)
        have HD2 := hide rd
        have hge := hide (fun b (hb : u5.ownBlock = some b) => (World.ownsRow.lt (unhide HO2) b hb).1)
        clear HOc HKc kd rd rc'
        go_wp2_with (at_builtin; go_loud (refine wpList_append_own _ rfl _ _ 25 rfl w.heap.size 41 i0 _ 5 40 Tryz.underlying25 hi hz0 hz1 hz2 rfl (by decide) u5 _ _ rfl (World.ownsRow.alloc (unhide HO2) _) ⟨wd.heap.size, 0, none⟩ 1 1 [.int .i64 q, .int .i64 t, .int .i64 ke, .int .i64 v, .int .i64 m] rfl rfl (cells_atIw _ q t ke v m _ (by simp)) (by simp [Value.oneCell']) (by unfold maxLen; omega) (by omega) (by simp; omega) ?_); intro v' w5 hown hgrow hnn)
        have hb5 : Below w.heap.size wd w5 := ((Below.refl _ wd).alloc zd _).grown hgrow (by simp; omega) (unhide hge)
        have O5 : OwnIw w5 w.heap.size v' (xs ++ [⟨q, t, ke, v, m⟩]) := ownIw_snoc hown
        have K5 := hide (kp_upR hR0 (unhide HK2) hb5)
        have D5 := hide ((unhide HD2).up (hb5.mono (by omega)))
        have HNN := hide hnn
        have HBD := hide hbd
        clear hown hgrow hnn hbd
        go_wp2
        go_ret
        exact ⟨_, _, rfl, O5, fun e9 => unhide HNn ((unhide HNN).1 e9).1, snoc_ok (unhide HOk) (by obtain ⟨b1, b2, b3, b4, b5⟩ := unhide HBD; refine ⟨⟨?_, ?_⟩, ⟨?_, ?_⟩, ⟨?_, ?_⟩, ⟨?_, ?_⟩, ⟨?_, ?_⟩⟩ <;> (try dsimp only) <;> omega), by simp; omega, unhide K5, p2, by omega, unhide D5⟩
      · have hx' : (x == 0) = false := by simp [hx]
        go_wp2
        go_ret
        exact ⟨_, xs, rfl, unhide HOc, unhide HNn, unhide HOk, by omega, unhide HKc, p' + 1, by omega, rc'⟩
end Go.Proofs.YtbockbdlojkpiaaGreat
