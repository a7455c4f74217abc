/- Proved here: a record is drawn. -/
import Derived.Test.YtcokdcehjibanaaGreatDoorDraw2
import Derived.Deep.RegionHeld3
namespace Go.Proofs.YtcokdcehjibanaaGreatDoor
open Go.ChangeShapes Go.WideShapes Go.ChangeAt Go.RowKit
set_option linter.unusedVariables false

theorem Kp.frozen {R b o : Nat} {w w' : World} (h : Kp R w w') (hb : b < w.heap.size) (hn : b ≠ R) : w'.frozen? ⟨b, o, none⟩ = w.frozen? ⟨b, o, none⟩ := by
  have := h.all b hb hn
  simp only [World.frozen?, this]

theorem BytesAt.up {B : Nat} {w w' : World} {a : Option Addr} {len : Nat} (h : BytesAt w a len) (hl : ∀ g o, a = some ⟨g, o, none⟩ → 0 < len → g < B) (hb : Below B w w') : BytesAt w' a len := by
  rcases h with h | ⟨g, o, ha, h⟩
  · exact Or.inl h
  · refine Or.inr ⟨g, o, ha, fun i hi => ?_⟩
    obtain ⟨z, hz, h2⟩ := h i hi
    exact ⟨z, (hb.cell (p := ⟨g, o + i, none⟩) (hl g o ha (by omega))).trans hz, h2⟩

theorem Rd.up {R : Nat} {w w' : World} {a : Option Addr} {len cap p : Nat} (h : Rd R w a len cap p) (hb : Below (R + 1) w w') : Rd R w' a len cap p := by
  obtain ⟨h1, h2, h3, h4, h5, h6, h7⟩ := h
  exact ⟨(hb.cell (p := ⟨R, 0, none⟩) (Nat.lt_succ_self R)).trans h1, (hb.cell (p := ⟨R, 1, none⟩) (Nat.lt_succ_self R)).trans h2, (hb.frozen (p := ⟨R, 1, none⟩) (Nat.lt_succ_self R)).trans h3, h4, h5, BytesAt.up h6 (fun g o e h => Nat.lt_succ_of_lt (h7 g o e h)) hb, h7⟩

theorem up_alloc {B : Nat} {w W : World} (h : Below B w W) (hB : B ≤ W.heap.size) (o : Obj) : Below B w (W.alloc o) := h.alloc hB o

theorem kp_setN {R : Nat} {w W : World} {p : Addr} (h : Kp R w W) (hp : w.heap.size ≤ p.block) (hR : R < w.heap.size) (v : Value) : Kp R w (W.setCell p v) :=
  ⟨h.low.setCell (Nat.le_trans (Nat.le_of_lt hR) hp) v, fun b hb hn => (Below.heap_setCell _ _ _ _ (by omega)).trans (h.all b hb hn)⟩

theorem kp_alloc {R : Nat} {w W : World} (hR : R < w.heap.size) (h : Kp R w W) (o : Obj) : Kp R w (W.alloc o) := h.trans (Kp.of_bel (Nat.le_of_lt (Nat.lt_of_lt_of_le hR h.low.size)) (bel_one _ _))

theorem kp_drew {R : Nat} {w W : World} (h : Kp R w W) : Kp R w W.drew := ⟨h.low.drew, h.all⟩

theorem kp_drewN {R : Nat} {w W : World} (h : Kp R w W) (n : Nat) : Kp R w (W.drewN n) := h.trans (Kp.draws R W n)

theorem kp_set {R o : Nat} {w W : World} (h : Kp R w W) (v : Value) : Kp R w (W.setCell ⟨R, o, none⟩ v) := h.trans (Kp.set v)

theorem six (x y : Int) (h1 : 0 ≤ x) (h2 : x < 61) (h3 : 0 ≤ y) (h4 : y < 6) : ∃ t : Int, (#[Value.int .i64 0, .int .i64 1, .int .i64 5, .int .i64 20, .int .i64 60, .int .i64 x] : Array Value)[y.toNat]? = some (.int .i64 t) ∧ ([Value.int .i64 0, .int .i64 1, .int .i64 5, .int .i64 20, .int .i64 60, .int .i64 x] : List Value)[y.toNat]? = some (.int .i64 t) ∧ (∀ h, ([Value.int .i64 0, .int .i64 1, .int .i64 5, .int .i64 20, .int .i64 60, .int .i64 x] : List Value)[y.toNat]'h = .int .i64 t) ∧ 0 ≤ t ∧ t ≤ 60 := by
  have : y = 0 ∨ y = 1 ∨ y = 2 ∨ y = 3 ∨ y = 4 ∨ y = 5 := by omega
  rcases this with rfl | rfl | rfl | rfl | rfl | rfl
  · exact ⟨0, rfl, rfl, fun _ => rfl, by omega, by omega⟩
  · exact ⟨1, rfl, rfl, fun _ => rfl, by omega, by omega⟩
  · exact ⟨5, rfl, rfl, fun _ => rfl, by omega, by omega⟩
  · exact ⟨20, rfl, rfl, fun _ => rfl, by omega, by omega⟩
  · exact ⟨60, rfl, rfl, fun _ => rfl, by omega, by omega⟩
  · exact ⟨x, rfl, rfl, fun _ => rfl, h1, by omega⟩

set_option maxRecDepth 20000 in
set_option maxHeartbeats 4000000 in
theorem rec_any (R : Nat) (a : Option Addr) (len cap p : Nat) (w : World) (hp : p ≤ 999000) (hR : R < w.heap.size) (h : Rd R w a len cap p) : Calls Tryz.prog 30 #[.pointer (some ⟨R, 0, none⟩)] w fun e w' => RecP R w a len cap p e w' := by
  have r0 := hide h
  have hn0 : w.heap.size ≠ R := by omega
  clear h
  go_enter Tryz.func30, Tryz.ntmps30
  go_wp2_with fail
  go_region_with (first
    | (go_at_call 14; (with_reducible refine (pick_any R a len cap p 61 _ (by omega) (by omega) ((unhide r0).kp hR (by repeat (first | (with_reducible exact Below.refl _ _) | (with_reducible refine bel_alloc ?_ _) | (with_reducible refine bel_drew ?_) | (with_reducible refine bel_drewN ?_ _))))).mono ?_); rintro e wa ⟨x, rfl, bx1, bx2, kwa, qwa⟩; have rwa := hide (qwa (by omega)); clear qwa; have zwa := kwa.low.size; have hRwa : R < wa.heap.size := (by (try simp at zwa); omega); have hnwa : wa.heap.size ≠ R := (by omega); have hcwa := (fun b o hb hn => kwa.cell (b := b) (o := o) hb hn); have hfwa := (fun b o hb hn => kwa.frozen (b := b) (o := o) hb hn); have hzwa : w.heap.size < wa.heap.size := (by (try simp at zwa); omega))
    | (go_at_call 14; (with_reducible refine (pick_any R a len cap (p + 1) 6 _ (by omega) (by omega) ((unhide rwa).kp hRwa (by repeat (first | (with_reducible exact Below.refl _ _) | (with_reducible refine bel_alloc ?_ _) | (with_reducible refine bel_drew ?_) | (with_reducible refine bel_drewN ?_ _))))).mono ?_); rintro e wb ⟨y, rfl, by1, by2, kwb, qwb⟩; have rwb := hide (qwb (by omega)); clear qwb; have zwb := kwb.low.size; have hRwb : R < wb.heap.size := (by (try simp at zwb); omega); have hnwb : wb.heap.size ≠ R := (by omega); have hcwb := (fun b o hb hn => kwb.cell (b := b) (o := o) hb hn); have hfwb := (fun b o hb hn => kwb.frozen (b := b) (o := o) hb hn); have hzwb : w.heap.size < wb.heap.size := (by (try simp at zwb); omega); (try have ywawb : wa.heap.size < wb.heap.size := (by (try simp at zwb); omega)); obtain ⟨t, ht, ht', ht'', bt1, bt2⟩ := six x y bx1 bx2 by1 by2)
    | (go_at_call 14; (with_reducible refine (pick_any R a len cap (p + 2) 4 _ (by omega) (by omega) ((unhide rwb).kp hRwb (by repeat (first | (with_reducible exact Below.refl _ _) | (with_reducible refine bel_alloc ?_ _) | (with_reducible refine bel_drew ?_) | (with_reducible refine bel_drewN ?_ _))))).mono ?_); rintro e wc ⟨k, rfl, bk1, bk2, kwc, qwc⟩; have rwc := hide (qwc (by omega)); clear qwc; have zwc := kwc.low.size; have hRwc : R < wc.heap.size := (by (try simp at zwc); omega); have hnwc : wc.heap.size ≠ R := (by omega); have hcwc := (fun b o hb hn => kwc.cell (b := b) (o := o) hb hn); have hfwc := (fun b o hb hn => kwc.frozen (b := b) (o := o) hb hn); have hzwc : w.heap.size < wc.heap.size := (by (try simp at zwc); omega); (try have ywbwc : wb.heap.size < wc.heap.size := (by (try simp at zwc); omega)); (try have ywawc : wa.heap.size < wc.heap.size := (by (try simp at zwc); omega)))
    | (go_at_call 14; (with_reducible refine (pick_any R a len cap (p + 3) 19 _ (by omega) (by omega) ((unhide rwc).kp hRwc (by repeat (first | (with_reducible exact Below.refl _ _) | (with_reducible refine bel_alloc ?_ _) | (with_reducible refine bel_drew ?_) | (with_reducible refine bel_drewN ?_ _))))).mono ?_); rintro e wd ⟨v, rfl, bv1, bv2, kwd, qwd⟩; have rwd := hide (qwd (by omega)); clear qwd; have zwd := kwd.low.size; have hRwd : R < wd.heap.size := (by (try simp at zwd); omega); have hnwd : wd.heap.size ≠ R := (by omega); have hcwd := (fun b o hb hn => kwd.cell (b := b) (o := o) hb hn); have hfwd := (fun b o hb hn => kwd.frozen (b := b) (o := o) hb hn); have hzwd : w.heap.size < wd.heap.size := (by (try simp at zwd); omega); (try have ywcwd : wc.heap.size < wd.heap.size := (by (try simp at zwd); omega)); (try have ywbwd : wb.heap.size < wd.heap.size := (by (try simp at zwd); omega)); (try have ywawd : wa.heap.size < wd.heap.size := (by (try simp at zwd); omega)); have hwv : IntKind.i64.wrap (v - 9) = v - 9 := IntWalk.i64_in _ (by omega)))
  all_goals
    go_wp2
    refine bodyPost_ret (v := .agg #[.int .i64 1, .int .i64 t, .int .i64 k, .int .i64 (v - 9), .int .i64 0]) (by simp (maxDischargeDepth := 9) [results, Tryz.results30, go_sem, *]) rfl ⟨t, k, v - 9, rfl, ⟨bt1, bt2⟩, by omega, by omega, (by repeat (first | (with_reducible refine kp_setN ?_ (by first | (simp; done) | (simp; omega)) (by with_reducible assumption) _) | (with_reducible assumption) | (with_reducible exact Kp.refl _ _) | (with_reducible refine kp_set ?_ _) | (with_reducible refine kp_alloc (by with_reducible assumption) ?_ _) | (with_reducible refine kp_drew ?_) | (with_reducible refine kp_drewN ?_ _) | (with_reducible refine Kp.trans ?_ (by with_reducible assumption)))), (unhide rwd).up (by repeat (first | (with_reducible exact Below.refl _ _) | (with_reducible refine Below.setCell ?_ (by first | (simp; omega) | omega) _) | (with_reducible refine up_alloc ?_ (by first | omega | (simp; omega)) _) | (with_reducible refine Below.drew ?_)))⟩
end Go.Proofs.YtcokdcehjibanaaGreatDoor
