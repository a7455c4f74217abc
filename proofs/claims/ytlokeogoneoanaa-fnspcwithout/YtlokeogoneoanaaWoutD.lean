/- Proved here: records, and others, are drawn, each in memory of its own, their numbers within bounds. -/
import Derived.Test.YtlokeogoneoanaaRecsC
namespace Go.Proofs.Ytlokeogoneoanaa
open Go.ChangeShapes Go.WideShapes Go.ChangeAt Go.RowKit
set_option linter.unusedVariables false

/-- What is drawn: two slices of items. -/
def DrawWO (w : World) (e' : Ending) (w' : World) : Prop := ∃ (u v : Value) (xs gs : List IwR), e' = .returned (.tuple #[u, v]) ∧ OwnIw w' w.heap.size u xs ∧ u ≠ .slice none 0 0 ∧ OwnIw w' w.heap.size v gs ∧ (∀ x ∈ xs, x.ok64) ∧ (∀ x ∈ gs, x.ok64) ∧ xs.length ≤ 14 ∧ gs.length ≤ 28 ∧ Below w.heap.size w w'

set_option linter.unusedSimpArgs false in
set_option maxRecDepth 20000 in
set_option maxHeartbeats 4000000 in
theorem drawwo_any (a : Option Addr) (len cap : Nat) (w : World) (hlc : len ≤ cap) (hm : len ≤ 1048576) (hb : BytesAt w a len) (hl : ∀ g o, a = some ⟨g, o, none⟩ → 0 < len → g < w.heap.size) (hn : a = none → cap = 0) : Calls Try.prog 4 #[.slice a len cap] w fun e w' => DrawWO w e w' := by
  obtain ⟨i0, hi, hz0, hz1, hz2⟩ := info_parts Try.infoIw
  go_enter Try.func4, Try.ntmps4
  go_wp2_with fail
  refine (open_any a len cap _ hlc hm hb hl hn).mono ?_
  rintro e' w1 ⟨R, ln, cp, rfl, hR1, hR2, hb1, hrd⟩
  clear hb hl hn
  go_wp2_with fail
  refine (recsC_any R a ln cp 0 16 _ (by decide) (by decide) (by omega) hR2 hrd).mono ?_
  rintro e' w2 ⟨u, xs, rfl, hO, hnn, hok, hxl, k2, p2, hp2, rd2⟩
  have z2 : w1.heap.size ≤ w2.heap.size := k2.low.size
  clear hrd
  obtain ⟨ar, cr, rfl, HR0, _, hge0⟩ := holdIw hO (by omega)
  have HO := hide hO
  have HOK := hide hok
  clear hO hok
  go_wp2_with fail
  refine (recsC_any R a ln cp p2 16 _ (by decide) (by decide) (by omega) (by omega) rd2).mono ?_
  rintro e' w3 ⟨v, gs, rfl, hO3, hnn3, hok3, hgl, k3, p3, hp3, rd3⟩
  have HO3 := hide hO3
  have HOK3 := hide hok3
  have HK3 := hide k3
  have HD3 := hide rd3
  clear rd2 hO3 hok3 k3 rd3 hnn3
  go_wp2
  go_loopw [6, 7] (fun v iv wr => ∃ (i : Nat) (ys : List IwR) (p' : Nat), iv = .int .i64 i ∧ i ≤ xs.length ∧ ys.length ≤ 14 + i ∧ Hid (OwnIw wr w2.heap.size v ys) ∧ Hid (∀ x ∈ ys, x.ok64) ∧ Hid (Kp R w2 wr) ∧ p' ≤ p3 + i ∧ Hid (Rd R wr a ln cp p')) (fun _ iv _ => xs.length - (intOf iv).toNat)
  case atStart => exact ⟨0, gs, p3, rfl, Nat.zero_le _, hgl, HO3, HOK3, HK3, Nat.le_refl _, HD3⟩
  case round =>
    clear HO3 HOK3 HK3 HD3
    obtain ⟨i, ys, p', rfl, hil, hyl, HY, HYK, HK, hp', HD⟩ := hrel
    by_cases hlt : i < xs.length
    · go_wp2_with fail
      refine (pick_any R a ln cp p' 2 _ (by decide) (by decide) (unhide HD)).mono ?_
      rintro e' wc ⟨x, rfl, xl, xu, kc, rc⟩
      have rc' := hide (rc (by omega))
      have HYc := hide (ownIw_kp (unhide HY) kc (by omega))
      have HKc := hide ((unhide HK).trans kc)
      have zc : w2.heap.size ≤ wc.heap.size := (unhide HKc).low.size
      clear HY HK HD rc kc
      by_cases hx : x = 0
      · subst hx
        obtain ⟨_, _, hy⟩ := HR0
        obtain ⟨g, o, rfl, hr⟩ := hy.resolve_left (by omega)
        have hgl2 : g < w2.heap.size := hr.lt (by omega)
        have hgR : w1.heap.size ≤ g := hge0 g o (by omega) rfl
        obtain ⟨y, hxk⟩ : ∃ y, xs[i]? = some y := ⟨_, List.getElem?_eq_getElem hlt⟩
        have hyo := unhide HOK y (List.mem_of_getElem? hxk)
        obtain ⟨c0, c1, c2, c3, c4⟩ := hr i _ hxk
        have d0 := ((unhide HKc).cell hgl2 (by omega)).trans c0
        have d1 := ((unhide HKc).cell hgl2 (by omega)).trans c1
        have d2 := ((unhide HKc).cell hgl2 (by omega)).trans c2
        have d3 := ((unhide HKc).cell hgl2 (by omega)).trans c3
        have d4 := ((unhide HKc).cell hgl2 (by omega)).trans c4
        have HYO := hide hyo
        clear c0 c1 c2 c3 c4 hxk hr hy hyo hge0
        obtain ⟨q, t, ke, v, m⟩ := y
        dsimp only at d0 d1 d2 d3 d4
        have hge := hide (fun b (hb : u6.ownBlock = some b) => (World.ownsRow.lt (unhide HYc) b hb).1)
        go_wp2_with (at_builtin; go_loud (refine wpList_append_own _ rfl _ _ 23 rfl w2.heap.size 35 i0 _ 5 40 Try.underlying23 hi hz0 hz1 hz2 rfl (by decide) u6 _ _ rfl (World.ownsRow.alloc (unhide HYc) _) ⟨wc.heap.size, 0, none⟩ 1 1 [.int .i64 q, .int .i64 t, .int .i64 ke, .int .i64 v, .int .i64 m] rfl rfl (cells_atIw _ q t ke v m _ (by simp)) (by simp [Value.oneCell']) (by unfold maxLen; omega) (by omega) (by simp; omega) ?_); intro v' w5 hown hgrow hnn5)
        have hb5 : Below w2.heap.size wc w5 := ((Below.refl _ wc).alloc zc _).grown hgrow (by simp; omega) (unhide hge)
        have O5 : OwnIw w5 w2.heap.size v' (ys ++ [⟨q, t, ke, v, m⟩]) := ownIw_snoc hown
        have K5 := hide (kp_upR (by omega) (unhide HKc) hb5)
        have D5 := hide ((unhide rc').up (hb5.mono (by omega)))
        refine ⟨⟨i + 1, ys ++ [⟨q, t, ke, v, m⟩], p' + 1, by go_num, by omega, by simp; omega, hide O5, hide (snoc_ok (unhide HYK) (unhide HYO)), K5, by omega, D5⟩, ?_⟩
        simp [intOf]; omega
      · have hx' : (x == 0) = false := by simp [hx]
        go_wp2
        refine ⟨⟨i + 1, ys, p' + 1, by go_num, by omega, by omega, HYc, HYK, HKc, by omega, rc'⟩, ?_⟩
        simp [intOf]; omega
    · go_wp2
      go_ret2
      have hbF : Below w.heap.size w wr := hb1.trans ((k2.low.mono (by omega)).trans ((unhide HK).low.mono (by omega)))
      exact ⟨_, _, xs, ys, rfl, World.ownsRow.mono (ownIw_kp (unhide HO) (unhide HK) (by omega)) hb1.size, hnn, World.ownsRow.mono (unhide HY) (by have := hb1.size; omega), unhide HOK, unhide HYK, hxl, by omega, hbF⟩
end Go.Proofs.Ytlokeogoneoanaa
