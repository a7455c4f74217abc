/- Laid together: what the claim needs of the texts that were built one by one. -/
import Derived.Test.YtblmhpngaccllaaPkDrawPaneB
import Derived.Test.YtblmhpngaccllaaPkRwaPan
import Derived.Test.YtblmhpngaccllaaPkBase
namespace Go.Proofs.Ytblmhpngaccllaa
open Go.ChangeShapes Go.WideShapes Go.ChangeAt Go.RowKit
set_option linter.unusedVariables false

theorem pn_upB {W W' : World} {B : Nat} {e : TypeId} {size n : Nat} {v : Value} {xs : List Value} (h : W.ownsRow B e size v n xs) (hb : ∀ b, v.ownBlock = some b → W'.heap[b]? = W.heap[b]?) : W'.ownsRow B e size v n xs := by
  rcases h with ⟨hl, h | ⟨g, cap, cur, rfl, hB, hblk, r⟩⟩
  · exact ⟨hl, Or.inl h⟩
  · exact ⟨hl, Or.inr ⟨g, cap, cur, rfl, hB, (hb g rfl).trans hblk, r⟩⟩

/-- Panes of one's own stay while others draw. -/
theorem ownPn_kp {R B : Nat} {W W' : World} {v : Value} {xs : List PnR} (h : OwnPn W B v xs) (k : Kp R W W') (hR : R < B) : OwnPn W' B v xs := pn_upB h (fun b hv => k.all b (World.ownsRow.lt h b hv).2 (by have := (World.ownsRow.lt h b hv).1; omega))

theorem kp_upP {R : Nat} {w W W' : World} (hR : R < w.heap.size) (h : Kp R w W) (hb : Below w.heap.size W W') : Kp R w W' := ⟨h.low.trans (hb.mono (Nat.le_of_lt hR)), fun b hb' hn => (hb.block b hb').trans (h.all b hb' hn)⟩

def PnB (x : PnR) : Prop := (-1 ≤ x.ky ∧ x.ky ≤ 4) ∧ WB x.st x.en

theorem snoc_pb {xs : List PnR} {y : PnR} (h : ∀ x ∈ xs, PnB x) (hy : PnB y) : ∀ x ∈ xs ++ [y], PnB x := fun x hx => by
  rcases List.mem_append.1 hx with hx | hx
  · exact h x hx
  · rw [List.mem_singleton.1 hx]; exact hy

/-- Panes that are drawn. -/
def PanesP (R : Nat) (w : World) (a : Option Addr) (len cap p : Nat) (e' : Ending) (w' : World) : Prop := ∃ (v : Value) (xs : List PnR), e' = .returned v ∧ OwnPn w' w.heap.size v xs ∧ xs.length ≤ 8 ∧ (∀ x ∈ xs, PnB x) ∧ Kp R w w' ∧ ∃ p', p' ≤ p + 400 ∧ Rd R w' a len cap p'

set_option linter.unusedSimpArgs false in
set_option maxRecDepth 20000 in
set_option maxHeartbeats 4000000 in
theorem panes_any (R : Nat) (a : Option Addr) (len cap p : Nat) (w : World) (hp : p ≤ 600000) (hR0 : R < w.heap.size) (h : Rd R w a len cap p) : Calls Try.prog 14 #[.pointer (some ⟨R, 0, none⟩)] w fun e w' => PanesP R w a len cap p e w' := by
  obtain ⟨i0, hi, hz0, hz1, hz2⟩ := info_parts Try.infoPn
  have hb0 : Below w.heap.size w (w.alloc (.cells #[] 35)) := bel_one _ _
  go_enter Try.func14, Try.ntmps14
  go_wp2_with fail
  refine (pick_any R a len cap p 9 _ (by decide) (by decide) (h.kp hR0 hb0)).mono ?_
  rintro e' wb ⟨x, rfl, xl, xu, k9, r9⟩
  obtain ⟨kx, rfl⟩ := Int.eq_ofNat_of_zero_le xl
  have O0 : OwnPn wb w.heap.size (.slice (some ⟨w.heap.size, 0, none⟩) 0 0) [] := ownPn_kp (World.ownsRow_lit (base := w.heap.size) (size := 9) w #[] 0 (Nat.le_refl _) (by decide) (by simp)) k9 hR0
  have HK0 := hide ((Kp.of_bel (Nat.le_of_lt hR0) hb0).trans k9)
  have HD0 := hide (r9 (by omega))
  clear k9 r9
  go_wp2
  go_loopw [3, 4] (fun v kv wr => ∃ (k : Nat) (xs : List PnR) (p' : Nat), kv = .int .i64 k ∧ xs.length + k ≤ 8 ∧ OwnPn wr w.heap.size v xs ∧ Hid (∀ x ∈ xs, PnB x) ∧ Hid (Kp R w wr) ∧ p' ≤ p + 1 + 40 * xs.length ∧ Hid (Rd R wr a len cap p')) (fun _ kv _ => (intOf kv).toNat)
  case atStart => exact ⟨kx, [], p + 1, rfl, by simp; omega, O0, hide (fun x hx => by cases hx), HK0, by simp, HD0⟩
  case round =>
    clear O0 HK0 HD0
    obtain ⟨k, xs, p', rfl, hk, hO, HPB, HK, hp', HD⟩ := hrel
    have zr : w.heap.size ≤ wr.heap.size := (unhide HK).low.size
    by_cases hlt : 0 < (k : Int)
    · have HO := hide hO
      clear hO
      go_wp2_with fail
      refine (pane_any R a len cap p' 30 _ (by decide) (by decide) (by omega) (by omega) (unhide HD)).mono ?_
      rintro e' wc ⟨c0, c1, c2, c3, c4, c5, c6, c7, c8, rfl, kc, p2, hp2, rc, hcb, hwb⟩
      have HPY : Hid (PnB ⟨c0, c1, c2, c3, c4, c5, c6, c7, c8⟩) := hide ⟨hcb, hwb⟩
      clear hcb hwb
      have HO2 := hide (ownPn_kp (unhide HO) kc hR0)
      have HK2 := hide ((unhide HK).trans kc)
      have HD2 := hide rc
      have zc : w.heap.size ≤ wc.heap.size := Nat.le_trans zr kc.low.size
      have hge := hide (fun b (hb : u3.ownBlock = some b) => (World.ownsRow.lt (unhide HO2) b hb).1)
      clear HO HK HD kc rc
      go_wp2_with (at_builtin; go_loud (refine wpList_append_own _ rfl _ _ 23 rfl w.heap.size 35 i0 _ 9 72 Try.underlying23 hi hz0 hz1 hz2 rfl (by decide) u3 _ _ rfl (World.ownsRow.alloc (unhide HO2) _) ⟨wc.heap.size, 0, none⟩ 1 1 [.int .i64 c0, .int .i64 c1, .int .i64 c2, .int .i64 c3, .int .i64 c4, .int .i64 c5, .int .i64 c6, .int .i64 c7, .int .i64 c8] rfl rfl (cells_newPn wc c0 c1 c2 c3 c4 c5 c6 c7 c8 _) (by simp [Value.oneCell']) (by unfold maxLen; omega) (by omega) (by simp; omega) ?_); intro v' w5 hown hgrow _)
      have hb5 : Below w.heap.size wc w5 := ((Below.refl _ wc).alloc zc _).grown hgrow (by simp; omega) (unhide hge)
      have O5 : OwnPn w5 w.heap.size v' (xs ++ [⟨c0, c1, c2, c3, c4, c5, c6, c7, c8⟩]) := ownPn_snoc hown
      have K5 := hide (kp_upP hR0 (unhide HK2) hb5)
      have D5 := hide ((unhide HD2).up (hb5.mono (by omega)))
      refine ⟨⟨k - 1, xs ++ [⟨c0, c1, c2, c3, c4, c5, c6, c7, c8⟩], p2, ?_, by simp; omega, O5, hide (snoc_pb (unhide HPB) (unhide HPY)), K5, by simp; omega, D5⟩, ?_⟩
      · have : ((k - 1 : Nat) : Int) = (k : Int) - 1 := by omega
        rw [this]
      · simp [intOf]; omega
    · go_wp2
      go_ret
      exact ⟨_, xs, rfl, hO, by omega, unhide HPB, unhide HK, p', by omega, unhide HD⟩
end Go.Proofs.Ytblmhpngaccllaa
