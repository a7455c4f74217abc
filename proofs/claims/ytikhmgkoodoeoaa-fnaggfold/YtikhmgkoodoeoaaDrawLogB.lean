/- Proved here: a log is drawn: items in new memory; but for the reader's place nothing turns. -/
import Derived.Test.YtikhmgkoodoeoaaDrawItmB
import Derived.Test.YtikhmgkoodoeoaaRecs
namespace Go.Proofs.Ytikhmgkoodoeoaa
open Go.ChangeShapes Go.WideShapes Go.ChangeAt Go.RowKit
set_option linter.unusedVariables false

theorem el6b  (y : Int) (h3 : 0 ≤ y) (h4 : y < 6) : ∃ t : Int, (#[Value.int .i64 0, .int .i64 0, .int .i64 1, .int .i64 3, .int .i64 7, .int .i64 12] : Array Value)[y.toNat]? = some (.int .i64 t) ∧ ([Value.int .i64 0, .int .i64 0, .int .i64 1, .int .i64 3, .int .i64 7, .int .i64 12] : List Value)[y.toNat]? = some (.int .i64 t) ∧ (∀ h, ([Value.int .i64 0, .int .i64 0, .int .i64 1, .int .i64 3, .int .i64 7, .int .i64 12] : List Value)[y.toNat]'h = .int .i64 t) ∧ 0 ≤ t ∧ t ≤ 12 := by
  have : y = 0 ∨ y = 1 ∨ y = 2 ∨ y = 3 ∨ y = 4 ∨ y = 5 := by omega
  rcases this with rfl | rfl | rfl | rfl | rfl | rfl
  · exact ⟨0, rfl, rfl, fun _ => rfl, by omega, by omega⟩
  · exact ⟨0, rfl, rfl, fun _ => rfl, by omega, by omega⟩
  · exact ⟨1, rfl, rfl, fun _ => rfl, by omega, by omega⟩
  · exact ⟨3, rfl, rfl, fun _ => rfl, by omega, by omega⟩
  · exact ⟨7, rfl, rfl, fun _ => rfl, by omega, by omega⟩
  · exact ⟨12, rfl, rfl, fun _ => rfl, by omega, by omega⟩
theorem el7d (x : Int) (bx1 : 0 ≤ x) (bx2 : x ≤ 20) (y : Int) (h3 : 0 ≤ y) (h4 : y < 7) : ∃ t : Int, (#[Value.int .i64 0, .int .i64 0, .int .i64 1, .int .i64 2, .int .i64 4, .int .i64 8, .int .i64 x] : Array Value)[y.toNat]? = some (.int .i64 t) ∧ ([Value.int .i64 0, .int .i64 0, .int .i64 1, .int .i64 2, .int .i64 4, .int .i64 8, .int .i64 x] : List Value)[y.toNat]? = some (.int .i64 t) ∧ (∀ h, ([Value.int .i64 0, .int .i64 0, .int .i64 1, .int .i64 2, .int .i64 4, .int .i64 8, .int .i64 x] : List Value)[y.toNat]'h = .int .i64 t) ∧ 0 ≤ t ∧ t ≤ 20 := by
  have : y = 0 ∨ y = 1 ∨ y = 2 ∨ y = 3 ∨ y = 4 ∨ y = 5 ∨ y = 6 := by omega
  rcases this with rfl | rfl | rfl | rfl | rfl | rfl | rfl
  · exact ⟨0, rfl, rfl, fun _ => rfl, by omega, by omega⟩
  · exact ⟨0, rfl, rfl, fun _ => rfl, by omega, by omega⟩
  · exact ⟨1, rfl, rfl, fun _ => rfl, by omega, by omega⟩
  · exact ⟨2, rfl, rfl, fun _ => rfl, by omega, by omega⟩
  · exact ⟨4, rfl, rfl, fun _ => rfl, by omega, by omega⟩
  · exact ⟨8, rfl, rfl, fun _ => rfl, by omega, by omega⟩
  · exact ⟨x, rfl, rfl, fun _ => rfl, by omega, by omega⟩
theorem ownK {R : Nat} {W W' : World} {B : Nat} {e : TypeId} {size n : Nat} {v : Value} {xs : List Value} (h : W.ownsRow B e size v n xs) (hB : R < B) (hb : Kp R W W') : W'.ownsRow B e size v n xs := by
  rcases h with ⟨hl, h | ⟨g, cap, cur, hv, hB', hblk, r⟩⟩
  · exact ⟨hl, Or.inl h⟩
  · exact ⟨hl, Or.inr ⟨g, cap, cur, hv, hB', (hb.all g (Array.getElem?_eq_some_iff.1 hblk).1 (by omega)).trans hblk, r⟩⟩
theorem kp_up {R : Nat} {w W W' : World} (hR : R < w.heap.size) (h : Kp R w W) (hb : Below w.heap.size W W') : Kp R w W' := ⟨h.low.trans (hb.mono (Nat.le_of_lt hR)), fun b hb' hn => (hb.block b hb').trans (h.all b hb' hn)⟩
theorem its_snoc {W : World} {B : Nat} {v' : Value} {xs : List It} {q t k v n : Int} (h : W.ownsRow B 35 5 v' (xs.length + 1) (flat xs ++ [.int .i64 q, .int .i64 t, .int .i64 k, .int .i64 v, .int .i64 n])) : OwnIts W B v' (xs ++ [⟨q, t, k, v, n⟩]) := by
  unfold OwnIts
  rw [flat_snoc]
  simpa [It.cells] using h
theorem cells_new5g (w : World) {g : Nat} (hg : g = w.heap.size) (q t k v n : Int) (ty : Nat) : ∀ j u, ([.int .i64 q, .int .i64 t, .int .i64 k, .int .i64 v, .int .i64 n] : List Value)[j]? = some u → (w.alloc (.cells #[.int .i64 q, .int .i64 t, .int .i64 k, .int .i64 v, .int .i64 n] ty)).cell? ((⟨g, 0, none⟩ : Addr).add j) = some u := by
  subst hg
  exact cells_new5 w q t k v n ty
/-- Items whose times and values are small. -/
def BdI (x : It) : Prop := (-2000 ≤ x.t ∧ x.t ≤ 2000) ∧ (-2000 ≤ x.v ∧ x.v ≤ 2000)
def BdL (xs : List It) : Prop := ∀ x ∈ xs, BdI x
theorem BdL.nil : BdL [] := fun x hx => by simp at hx
theorem BdL.snoc {xs : List It} {q t k v n : Int} (h : BdL xs) (hb : (-2000 ≤ t ∧ t ≤ 2000) ∧ (-2000 ≤ v ∧ v ≤ 2000)) : BdL (xs ++ [⟨q, t, k, v, n⟩]) := by
  intro x hx
  rcases List.mem_append.1 hx with h1 | h1
  · exact h x h1
  · simp at h1; subst h1; exact hb
/-- What a drawn log is. -/
def LogB (R : Nat) (w : World) (a : Option Addr) (len cap p n : Nat) (e : Ending) (w' : World) : Prop := ∃ (v : Value) (xs : List It), e = .returned v ∧ OwnIts w' w.heap.size v xs ∧ BdL xs ∧ (1 ≤ xs.length ∧ xs.length ≤ n + 1) ∧ Kp R w w' ∧ ∃ p', p' ≤ p + 2 + 10 * n ∧ Rd R w' a len cap p'

set_option maxRecDepth 20000 in
set_option maxHeartbeats 16000000 in
theorem logB_any (R : Nat) (a : Option Addr) (len cap p n : Nat) (w : World) (hn : n ≤ 1000) (hp : p ≤ 500000) (hR : R < w.heap.size) (h : Rd R w a len cap p) : Calls Try.prog 29 #[.pointer (some ⟨R, 0, none⟩), .int .i64 n] w fun e w' => LogB R w a len cap p n e w' := by
  obtain ⟨i0, hi, hz0, hz1, hz2⟩ := info_parts Try.infoItm
  have r0 := hide h
  have hn0 : w.heap.size ≠ R := by omega
  have hO0 : OwnIts (w.alloc (.cells #[] 35)) w.heap.size (.slice (some ⟨w.heap.size, 0, none⟩) 0 0) [] := World.ownsRow_lit (base := w.heap.size) (size := 5) w #[] 0 (Nat.le_refl _) (Nat.zero_le _) rfl
  have HO0 := hide hO0
  clear h hO0
  go_enter Try.func29, Try.ntmps29
  go_wp2_with fail
  (with_reducible refine (pick_any R a len cap p 5 _ (by omega) (by omega) ((unhide r0).kpS hR (by repeat (first | (with_reducible exact Below.refl _ _) | (with_reducible refine Below.setCell ?_ (by first | (simp; omega) | omega) _) | (with_reducible refine up_alloc ?_ (by first | omega | (simp; omega)) _) | (with_reducible refine Below.drew ?_))))).mono ?_)
  rintro e wa ⟨t0, rfl, bt01, bt02, kwa, qwa⟩
  have rwa := hide (qwa (by omega))
  clear qwa
  have zwa := kwa.low.size
  have hRwa : R < wa.heap.size := (by have h9 := kwa.low.size; (try simp at h9); omega)
  have hnwa : wa.heap.size ≠ R := (by omega)
  have hcwa := (fun b o hb hn => kwa.cell (b := b) (o := o) hb hn)
  have hfwa := (fun b o hb hn => kwa.frozen (b := b) (o := o) hb hn)
  have hn2wa : wa.heap.size + 1 ≠ R := (by omega)
  go_wp2_with fail
  (with_reducible refine (pick_any R a len cap (p + 1) 6 _ (by omega) (by omega) ((unhide rwa).kpS hRwa (by repeat (first | (with_reducible exact Below.refl _ _) | (with_reducible refine Below.setCell ?_ (by first | (simp; omega) | omega) _) | (with_reducible refine up_alloc ?_ (by first | omega | (simp; omega)) _) | (with_reducible refine Below.drew ?_))))).mono ?_)
  rintro e wb ⟨y, rfl, by1, by2, kwb, qwb⟩
  have rwb := hide (qwb (by omega))
  clear qwb
  have zwb := kwb.low.size
  have hRwb : R < wb.heap.size := (by have h9 := kwb.low.size; (try simp at h9); omega)
  have hnwb : wb.heap.size ≠ R := (by omega)
  have hcwb := (fun b o hb hn => kwb.cell (b := b) (o := o) hb hn)
  have hfwb := (fun b o hb hn => kwb.frozen (b := b) (o := o) hb hn)
  have yzwb : wa.heap.size < wb.heap.size := (by (try simp at zwb); omega)
  have yywb : wa.heap.size ≤ wb.heap.size := (by omega)
  have y0wb : wb.cell? ⟨wa.heap.size, 0, none⟩ = some (.int .i64 0) := ((hcwb _ 0 (by first | (with_reducible assumption) | (simp; done) | (simp; omega)) hnwa).trans (by first | (with_reducible assumption) | (simp (maxDischargeDepth := 9) [go_sem, *]; done)))
  have yf0wb : wb.frozen? ⟨wa.heap.size, 0, none⟩ = false := ((hfwb _ 0 (by first | (with_reducible assumption) | (simp; done) | (simp; omega)) hnwa).trans (by first | (with_reducible assumption) | (simp (maxDischargeDepth := 9) [go_sem, *]; done)))
  have y1wb : wb.cell? ⟨wa.heap.size, 1, none⟩ = some (.int .i64 0) := ((hcwb _ 1 (by first | (with_reducible assumption) | (simp; done) | (simp; omega)) hnwa).trans (by first | (with_reducible assumption) | (simp (maxDischargeDepth := 9) [go_sem, *]; done)))
  have yf1wb : wb.frozen? ⟨wa.heap.size, 1, none⟩ = false := ((hfwb _ 1 (by first | (with_reducible assumption) | (simp; done) | (simp; omega)) hnwa).trans (by first | (with_reducible assumption) | (simp (maxDischargeDepth := 9) [go_sem, *]; done)))
  have y2wb : wb.cell? ⟨wa.heap.size, 2, none⟩ = some (.int .i64 1) := ((hcwb _ 2 (by first | (with_reducible assumption) | (simp; done) | (simp; omega)) hnwa).trans (by first | (with_reducible assumption) | (simp (maxDischargeDepth := 9) [go_sem, *]; done)))
  have yf2wb : wb.frozen? ⟨wa.heap.size, 2, none⟩ = false := ((hfwb _ 2 (by first | (with_reducible assumption) | (simp; done) | (simp; omega)) hnwa).trans (by first | (with_reducible assumption) | (simp (maxDischargeDepth := 9) [go_sem, *]; done)))
  have y3wb : wb.cell? ⟨wa.heap.size, 3, none⟩ = some (.int .i64 3) := ((hcwb _ 3 (by first | (with_reducible assumption) | (simp; done) | (simp; omega)) hnwa).trans (by first | (with_reducible assumption) | (simp (maxDischargeDepth := 9) [go_sem, *]; done)))
  have yf3wb : wb.frozen? ⟨wa.heap.size, 3, none⟩ = false := ((hfwb _ 3 (by first | (with_reducible assumption) | (simp; done) | (simp; omega)) hnwa).trans (by first | (with_reducible assumption) | (simp (maxDischargeDepth := 9) [go_sem, *]; done)))
  have y4wb : wb.cell? ⟨wa.heap.size, 4, none⟩ = some (.int .i64 7) := ((hcwb _ 4 (by first | (with_reducible assumption) | (simp; done) | (simp; omega)) hnwa).trans (by first | (with_reducible assumption) | (simp (maxDischargeDepth := 9) [go_sem, *]; done)))
  have yf4wb : wb.frozen? ⟨wa.heap.size, 4, none⟩ = false := ((hfwb _ 4 (by first | (with_reducible assumption) | (simp; done) | (simp; omega)) hnwa).trans (by first | (with_reducible assumption) | (simp (maxDischargeDepth := 9) [go_sem, *]; done)))
  have y5wb : wb.cell? ⟨wa.heap.size, 5, none⟩ = some (.int .i64 12) := ((hcwb _ 5 (by first | (with_reducible assumption) | (simp; done) | (simp; omega)) hnwa).trans (by first | (with_reducible assumption) | (simp (maxDischargeDepth := 9) [go_sem, *]; done)))
  have yf5wb : wb.frozen? ⟨wa.heap.size, 5, none⟩ = false := ((hfwb _ 5 (by first | (with_reducible assumption) | (simp; done) | (simp; omega)) hnwa).trans (by first | (with_reducible assumption) | (simp (maxDischargeDepth := 9) [go_sem, *]; done)))
  have hn2wb : wb.heap.size + 1 ≠ R := (by omega)
  obtain ⟨bh, hm, hm', hm'', bm1, bm2⟩ := el6b y by1 by2
  have hRe : R < (w.alloc (.cells #[] 35)).heap.size := by simp; omega
  have hOb : Hid (OwnIts wb w.heap.size (.slice (some ⟨w.heap.size, 0, none⟩) 0 0) []) := hide (ownK (unhide HO0) hR (by repeat (first | (with_reducible refine kp_setN ?_ (by first | (simp; done) | (simp; omega)) (by with_reducible assumption) _) | (with_reducible assumption) | (with_reducible exact Kp.refl _ _) | (with_reducible refine kp_set ?_ _) | (with_reducible refine kp_alloc (by with_reducible assumption) ?_ _) | (with_reducible refine kp_drew ?_) | (with_reducible refine kp_drewN ?_ _) | (with_reducible refine Kp.trans ?_ (by with_reducible assumption)))))
  have kb : Kp R w wb := (by repeat (first | (with_reducible refine kp_setN ?_ (by first | (simp; done) | (simp; omega)) (by with_reducible assumption) _) | (with_reducible assumption) | (with_reducible exact Kp.refl _ _) | (with_reducible refine kp_set ?_ _) | (with_reducible refine kp_alloc (by with_reducible assumption) ?_ _) | (with_reducible refine kp_drew ?_) | (with_reducible refine kp_drewN ?_ _) | (with_reducible refine Kp.trans ?_ (by with_reducible assumption))))
  go_wp2
  clear hm hm' hm'' hcwa hfwa hcwb hfwb y0wb yf0wb y1wb yf1wb y2wb yf2wb y3wb yf3wb y4wb yf4wb y5wb yf5wb
  go_loopw [5, 6, 7, 9] (fun v' tv mv iv wr => ∃ (j : Nat) (xs : List It) (p' : Nat) (tt mm : Int), tv = .int .i64 tt ∧ mv = .int .i64 mm ∧ iv = .int .i64 j ∧ j ≤ n ∧ xs.length ≤ j ∧ (0 ≤ tt ∧ tt ≤ 4 + 5 * (j : Int)) ∧ (0 ≤ mm ∧ mm ≤ 60) ∧ p' ≤ p + 2 + 10 * j ∧ BdL xs ∧ OwnIts wr w.heap.size v' xs ∧ Hid (Rd R wr a len cap p') ∧ Kp R w wr) (fun _ _ _ i _ => n - (intOf i).toNat)
  case atStart => exact ⟨0, [], p + 2, t0, 0, rfl, rfl, rfl, by omega, by simp, ⟨by omega, by omega⟩, ⟨by omega, by omega⟩, by omega, BdL.nil, unhide hOb, rwb, kb⟩
  case round =>
    obtain ⟨j, xs, p', tt, mm, rfl, rfl, rfl, hj, hxl, ⟨ht1, ht2⟩, ⟨hm1, hm2⟩, hp', hBd, hO, rwr, kwr⟩ := hrel
    clear hOb kb HO0 r0 rwa rwb kwa kwb
    have HO := hide hO
    have hge := hide (own_ge hO)
    clear hO
    have zwr := kwr.low.size
    have hwr : w.heap.size ≤ wr.heap.size := zwr
    have hRwr : R < wr.heap.size := by omega
    by_cases hlt : (j : Int) < (n : Int)
    · skip
      go_wp2_with fail
      (with_reducible refine (pick_any R a len cap p' 6 _ (by omega) (by omega) ((unhide rwr).kpS hRwr (by repeat (first | (with_reducible exact Below.refl _ _) | (with_reducible refine Below.setCell ?_ (by first | (simp; omega) | omega) _) | (with_reducible refine up_alloc ?_ (by first | omega | (simp; omega)) _) | (with_reducible refine Below.drew ?_))))).mono ?_)
      rintro e wc ⟨x, rfl, bx1, bx2, kwc, qwc⟩
      have rwc := hide (qwc (by omega))
      clear qwc
      have zwc := kwc.low.size
      have hRwc : R < wc.heap.size := (by have h9 := kwc.low.size; (try simp at h9); omega)
      have hnwc : wc.heap.size ≠ R := (by omega)
      have hcwc := (fun b o hb hn => kwc.cell (b := b) (o := o) hb hn)
      have hfwc := (fun b o hb hn => kwc.frozen (b := b) (o := o) hb hn)
      have hn2wc : wc.heap.size + 1 ≠ R := (by omega)
      clear hcwc hfwc
      go_wp2_with fail
      (with_reducible refine (pick_any R a len cap (p' + 1) 4 _ (by omega) (by omega) ((unhide rwc).kpS hRwc (by repeat (first | (with_reducible exact Below.refl _ _) | (with_reducible refine Below.setCell ?_ (by first | (simp; omega) | omega) _) | (with_reducible refine up_alloc ?_ (by first | omega | (simp; omega)) _) | (with_reducible refine Below.drew ?_))))).mono ?_)
      rintro e wd ⟨z, rfl, bz1, bz2, kwd, qwd⟩
      have rwd := hide (qwd (by omega))
      clear qwd
      have zwd := kwd.low.size
      have hRwd : R < wd.heap.size := (by have h9 := kwd.low.size; (try simp at h9); omega)
      have hnwd : wd.heap.size ≠ R := (by omega)
      have hcwd := (fun b o hb hn => kwd.cell (b := b) (o := o) hb hn)
      have hfwd := (fun b o hb hn => kwd.frozen (b := b) (o := o) hb hn)
      have hn2wd : wd.heap.size + 1 ≠ R := (by omega)
      clear hcwd hfwd
      have hwd : w.heap.size ≤ wd.heap.size := by (try simp at zwc zwd); omega
      by_cases hz : z = 0
      · subst hz
        by_cases q1 : 60 < tt + x - bh
        · skip
          by_cases q2 : mm < 60
          · go_wp2_with (first | (at_builtin; go_loud (refine wpList_append_own _ rfl _ _ 23 rfl w.heap.size 35 i0 _ 5 40 Try.underlying23 hi hz0 hz1 hz2 rfl (by decide) u5 _ _ rfl (World.ownsRow.alloc (ownK (unhide HO) hR (by repeat (first | (with_reducible refine kp_setN ?_ (by first | (simp; done) | (simp; omega)) (by with_reducible assumption) _) | (with_reducible assumption) | (with_reducible exact Kp.refl _ _) | (with_reducible refine kp_set ?_ _) | (with_reducible refine kp_alloc (by with_reducible assumption) ?_ _) | (with_reducible refine kp_drew ?_) | (with_reducible refine kp_drewN ?_ _) | (with_reducible refine Kp.trans ?_ (by with_reducible assumption))))) _) ⟨wd.heap.size, 0, none⟩ 1 1 [.int .i64 2, .int .i64 60, .int .i64 0, .int .i64 0, .int .i64 0] rfl rfl (cells_new5g _ (by simp) (2) (60) (0) (0) (0) _) (by simp [Value.oneCell']) (by unfold maxLen; omega) (by omega) (by simp; omega) ?_); intro v' w5 hown' hgrow _))
            have hO5 := its_snoc hown'
            have hb5 : Below w.heap.size _ w5 := (Below.refl _ _).grown hgrow (by simp; omega) (unhide hge)
            have k5 : Kp R w w5 := kp_up hR (by repeat (first | (with_reducible refine kp_setN ?_ (by first | (simp; done) | (simp; omega)) (by with_reducible assumption) _) | (with_reducible assumption) | (with_reducible exact Kp.refl _ _) | (with_reducible refine kp_set ?_ _) | (with_reducible refine kp_alloc (by with_reducible assumption) ?_ _) | (with_reducible refine kp_drew ?_) | (with_reducible refine kp_drewN ?_ _) | (with_reducible refine Kp.trans ?_ (by with_reducible assumption)))) hb5
            have r5 : Hid (Rd R w5 a len cap (p' + 2)) := hide (((unhide rwd).up (by repeat (first | (with_reducible exact Below.refl _ _) | (with_reducible refine Below.setCell ?_ (by first | (simp; omega) | omega) _) | (with_reducible refine up_alloc ?_ (by first | omega | (simp; omega)) _) | (with_reducible refine Below.drew ?_)))).up (hb5.mono (by omega)))
            go_roundw
            case rel => exact ⟨j + 1, _, (p' + 2), (tt + x), 60, by go_num, by go_num, by go_num, by omega, by simp; omega, ⟨by omega, by omega⟩, ⟨by omega, by omega⟩, by omega, hBd.snoc (by refine ⟨⟨?_, ?_⟩, ⟨?_, ?_⟩⟩ <;> omega), hO5, r5, k5⟩
            case measure => simp [intOf]; omega
          · go_wp2
            go_roundw
            case rel => exact ⟨j + 1, xs, (p' + 2), (tt + x), mm, by go_num, by go_num, by go_num, by omega, by omega, ⟨by omega, by omega⟩, ⟨by omega, by omega⟩, by omega, hBd, ownK (unhide HO) hR (by repeat (first | (with_reducible refine kp_setN ?_ (by first | (simp; done) | (simp; omega)) (by with_reducible assumption) _) | (with_reducible assumption) | (with_reducible exact Kp.refl _ _) | (with_reducible refine kp_set ?_ _) | (with_reducible refine kp_alloc (by with_reducible assumption) ?_ _) | (with_reducible refine kp_drew ?_) | (with_reducible refine kp_drewN ?_ _) | (with_reducible refine Kp.trans ?_ (by with_reducible assumption)))), rwd, (by repeat (first | (with_reducible refine kp_setN ?_ (by first | (simp; done) | (simp; omega)) (by with_reducible assumption) _) | (with_reducible assumption) | (with_reducible exact Kp.refl _ _) | (with_reducible refine kp_set ?_ _) | (with_reducible refine kp_alloc (by with_reducible assumption) ?_ _) | (with_reducible refine kp_drew ?_) | (with_reducible refine kp_drewN ?_ _) | (with_reducible refine Kp.trans ?_ (by with_reducible assumption))))⟩
            case measure => simp [intOf]; omega
        · skip
          by_cases q2 : mm < (tt + x - bh)
          · go_wp2_with (first | (at_builtin; go_loud (refine wpList_append_own _ rfl _ _ 23 rfl w.heap.size 35 i0 _ 5 40 Try.underlying23 hi hz0 hz1 hz2 rfl (by decide) u5 _ _ rfl (World.ownsRow.alloc (ownK (unhide HO) hR (by repeat (first | (with_reducible refine kp_setN ?_ (by first | (simp; done) | (simp; omega)) (by with_reducible assumption) _) | (with_reducible assumption) | (with_reducible exact Kp.refl _ _) | (with_reducible refine kp_set ?_ _) | (with_reducible refine kp_alloc (by with_reducible assumption) ?_ _) | (with_reducible refine kp_drew ?_) | (with_reducible refine kp_drewN ?_ _) | (with_reducible refine Kp.trans ?_ (by with_reducible assumption))))) _) ⟨wd.heap.size, 0, none⟩ 1 1 [.int .i64 2, .int .i64 (tt + x - bh), .int .i64 0, .int .i64 0, .int .i64 0] rfl rfl (cells_new5g _ (by simp) (2) ((tt + x - bh)) (0) (0) (0) _) (by simp [Value.oneCell']) (by unfold maxLen; omega) (by omega) (by simp; omega) ?_); intro v' w5 hown' hgrow _))
            have hO5 := its_snoc hown'
            have hb5 : Below w.heap.size _ w5 := (Below.refl _ _).grown hgrow (by simp; omega) (unhide hge)
            have k5 : Kp R w w5 := kp_up hR (by repeat (first | (with_reducible refine kp_setN ?_ (by first | (simp; done) | (simp; omega)) (by with_reducible assumption) _) | (with_reducible assumption) | (with_reducible exact Kp.refl _ _) | (with_reducible refine kp_set ?_ _) | (with_reducible refine kp_alloc (by with_reducible assumption) ?_ _) | (with_reducible refine kp_drew ?_) | (with_reducible refine kp_drewN ?_ _) | (with_reducible refine Kp.trans ?_ (by with_reducible assumption)))) hb5
            have r5 : Hid (Rd R w5 a len cap (p' + 2)) := hide (((unhide rwd).up (by repeat (first | (with_reducible exact Below.refl _ _) | (with_reducible refine Below.setCell ?_ (by first | (simp; omega) | omega) _) | (with_reducible refine up_alloc ?_ (by first | omega | (simp; omega)) _) | (with_reducible refine Below.drew ?_)))).up (hb5.mono (by omega)))
            go_roundw
            case rel => exact ⟨j + 1, _, (p' + 2), (tt + x), (tt + x - bh), by go_num, by go_num, by go_num, by omega, by simp; omega, ⟨by omega, by omega⟩, ⟨by omega, by omega⟩, by omega, hBd.snoc (by refine ⟨⟨?_, ?_⟩, ⟨?_, ?_⟩⟩ <;> omega), hO5, r5, k5⟩
            case measure => simp [intOf]; omega
          · go_wp2
            go_roundw
            case rel => exact ⟨j + 1, xs, (p' + 2), (tt + x), mm, by go_num, by go_num, by go_num, by omega, by omega, ⟨by omega, by omega⟩, ⟨by omega, by omega⟩, by omega, hBd, ownK (unhide HO) hR (by repeat (first | (with_reducible refine kp_setN ?_ (by first | (simp; done) | (simp; omega)) (by with_reducible assumption) _) | (with_reducible assumption) | (with_reducible exact Kp.refl _ _) | (with_reducible refine kp_set ?_ _) | (with_reducible refine kp_alloc (by with_reducible assumption) ?_ _) | (with_reducible refine kp_drew ?_) | (with_reducible refine kp_drewN ?_ _) | (with_reducible refine Kp.trans ?_ (by with_reducible assumption)))), rwd, (by repeat (first | (with_reducible refine kp_setN ?_ (by first | (simp; done) | (simp; omega)) (by with_reducible assumption) _) | (with_reducible assumption) | (with_reducible exact Kp.refl _ _) | (with_reducible refine kp_set ?_ _) | (with_reducible refine kp_alloc (by with_reducible assumption) ?_ _) | (with_reducible refine kp_drew ?_) | (with_reducible refine kp_drewN ?_ _) | (with_reducible refine Kp.trans ?_ (by with_reducible assumption))))⟩
            case measure => simp [intOf]; omega
      · have hz' : (z == 0) = false := beq_eq_false_iff_ne.2 hz
        go_wp2_with fail
        (with_reducible refine (rec_any R a len cap (p' + 2) _ (by omega) (by first | (with_reducible assumption) | (simp; done) | (simp; omega)) ((unhide rwd).kpS hRwd (by repeat (first | (with_reducible exact Below.refl _ _) | (with_reducible refine Below.setCell ?_ (by first | (simp; omega) | omega) _) | (with_reducible refine up_alloc ?_ (by first | omega | (simp; omega)) _) | (with_reducible refine Below.drew ?_))))).mono ?_)
        rintro e we ⟨t1, k1, v, rfl, ⟨bt1, bt2⟩, bk, bv, kwe, qwe⟩
        have rwe := hide qwe
        clear qwe
        have zwe := kwe.low.size
        have hRwe : R < we.heap.size := (by have h9 := kwe.low.size; (try simp at h9); omega)
        have hnwe : we.heap.size ≠ R := (by omega)
        have hcwe := (fun b o hb hn => kwe.cell (b := b) (o := o) hb hn)
        have hfwe := (fun b o hb hn => kwe.frozen (b := b) (o := o) hb hn)
        have hn2we : we.heap.size + 1 ≠ R := (by omega)
        clear hcwe hfwe
        go_wp2_with fail
        (with_reducible refine (pick_any R a len cap (p' + 6) 20 _ (by omega) (by omega) ((unhide rwe).kpS hRwe (by repeat (first | (with_reducible exact Below.refl _ _) | (with_reducible refine Below.setCell ?_ (by first | (simp; omega) | omega) _) | (with_reducible refine up_alloc ?_ (by first | omega | (simp; omega)) _) | (with_reducible refine Below.drew ?_))))).mono ?_)
        rintro e wf ⟨d0, rfl, bd01, bd02, kwf, qwf⟩
        have rwf := hide (qwf (by omega))
        clear qwf
        have zwf := kwf.low.size
        have hRwf : R < wf.heap.size := (by have h9 := kwf.low.size; (try simp at h9); omega)
        have hnwf : wf.heap.size ≠ R := (by omega)
        have hcwf := (fun b o hb hn => kwf.cell (b := b) (o := o) hb hn)
        have hfwf := (fun b o hb hn => kwf.frozen (b := b) (o := o) hb hn)
        have xzwf : we.heap.size < wf.heap.size := (by (try simp at zwf); omega)
        have xywf : we.heap.size ≤ wf.heap.size := (by omega)
        have x0wf : wf.cell? ⟨we.heap.size, 0, none⟩ = some (.int .i64 1) := ((hcwf _ 0 (by first | (with_reducible assumption) | (simp; done) | (simp; omega)) hnwe).trans (by first | (with_reducible assumption) | (simp (maxDischargeDepth := 9) [go_sem, *]; done)))
        have xf0wf : wf.frozen? ⟨we.heap.size, 0, none⟩ = false := ((hfwf _ 0 (by first | (with_reducible assumption) | (simp; done) | (simp; omega)) hnwe).trans (by first | (with_reducible assumption) | (simp (maxDischargeDepth := 9) [go_sem, *]; done)))
        have x1wf : wf.cell? ⟨we.heap.size, 1, none⟩ = some (.int .i64 t1) := ((hcwf _ 1 (by first | (with_reducible assumption) | (simp; done) | (simp; omega)) hnwe).trans (by first | (with_reducible assumption) | (simp (maxDischargeDepth := 9) [go_sem, *]; done)))
        have xf1wf : wf.frozen? ⟨we.heap.size, 1, none⟩ = false := ((hfwf _ 1 (by first | (with_reducible assumption) | (simp; done) | (simp; omega)) hnwe).trans (by first | (with_reducible assumption) | (simp (maxDischargeDepth := 9) [go_sem, *]; done)))
        have x2wf : wf.cell? ⟨we.heap.size, 2, none⟩ = some (.int .i64 k1) := ((hcwf _ 2 (by first | (with_reducible assumption) | (simp; done) | (simp; omega)) hnwe).trans (by first | (with_reducible assumption) | (simp (maxDischargeDepth := 9) [go_sem, *]; done)))
        have xf2wf : wf.frozen? ⟨we.heap.size, 2, none⟩ = false := ((hfwf _ 2 (by first | (with_reducible assumption) | (simp; done) | (simp; omega)) hnwe).trans (by first | (with_reducible assumption) | (simp (maxDischargeDepth := 9) [go_sem, *]; done)))
        have x3wf : wf.cell? ⟨we.heap.size, 3, none⟩ = some (.int .i64 v) := ((hcwf _ 3 (by first | (with_reducible assumption) | (simp; done) | (simp; omega)) hnwe).trans (by first | (with_reducible assumption) | (simp (maxDischargeDepth := 9) [go_sem, *]; done)))
        have xf3wf : wf.frozen? ⟨we.heap.size, 3, none⟩ = false := ((hfwf _ 3 (by first | (with_reducible assumption) | (simp; done) | (simp; omega)) hnwe).trans (by first | (with_reducible assumption) | (simp (maxDischargeDepth := 9) [go_sem, *]; done)))
        have x4wf : wf.cell? ⟨we.heap.size, 4, none⟩ = some (.int .i64 0) := ((hcwf _ 4 (by first | (with_reducible assumption) | (simp; done) | (simp; omega)) hnwe).trans (by first | (with_reducible assumption) | (simp (maxDischargeDepth := 9) [go_sem, *]; done)))
        have xf4wf : wf.frozen? ⟨we.heap.size, 4, none⟩ = false := ((hfwf _ 4 (by first | (with_reducible assumption) | (simp; done) | (simp; omega)) hnwe).trans (by first | (with_reducible assumption) | (simp (maxDischargeDepth := 9) [go_sem, *]; done)))
        have hn2wf : wf.heap.size + 1 ≠ R := (by omega)
        go_wp2_with fail
        (with_reducible refine (pick_any R a len cap (p' + 7) 7 _ (by omega) (by omega) ((unhide rwf).kpS hRwf (by repeat (first | (with_reducible exact Below.refl _ _) | (with_reducible refine Below.setCell ?_ (by first | (simp; omega) | omega) _) | (with_reducible refine up_alloc ?_ (by first | omega | (simp; omega)) _) | (with_reducible refine Below.drew ?_))))).mono ?_)
        rintro e wg ⟨d1, rfl, bd11, bd12, kwg, qwg⟩
        have rwg := hide (qwg (by omega))
        clear qwg
        have zwg := kwg.low.size
        have hRwg : R < wg.heap.size := (by have h9 := kwg.low.size; (try simp at h9); omega)
        have hnwg : wg.heap.size ≠ R := (by omega)
        have hcwg := (fun b o hb hn => kwg.cell (b := b) (o := o) hb hn)
        have hfwg := (fun b o hb hn => kwg.frozen (b := b) (o := o) hb hn)
        have xzwg : we.heap.size < wg.heap.size := (by (try simp at zwg); omega)
        have xywg : we.heap.size ≤ wg.heap.size := (by omega)
        have x0wg : wg.cell? ⟨we.heap.size, 0, none⟩ = some (.int .i64 1) := ((hcwg _ 0 (by first | (with_reducible assumption) | (simp; done) | (simp; omega)) hnwe).trans (by first | (with_reducible assumption) | (simp (maxDischargeDepth := 9) [go_sem, *]; done)))
        have xf0wg : wg.frozen? ⟨we.heap.size, 0, none⟩ = false := ((hfwg _ 0 (by first | (with_reducible assumption) | (simp; done) | (simp; omega)) hnwe).trans (by first | (with_reducible assumption) | (simp (maxDischargeDepth := 9) [go_sem, *]; done)))
        have x1wg : wg.cell? ⟨we.heap.size, 1, none⟩ = some (.int .i64 t1) := ((hcwg _ 1 (by first | (with_reducible assumption) | (simp; done) | (simp; omega)) hnwe).trans (by first | (with_reducible assumption) | (simp (maxDischargeDepth := 9) [go_sem, *]; done)))
        have xf1wg : wg.frozen? ⟨we.heap.size, 1, none⟩ = false := ((hfwg _ 1 (by first | (with_reducible assumption) | (simp; done) | (simp; omega)) hnwe).trans (by first | (with_reducible assumption) | (simp (maxDischargeDepth := 9) [go_sem, *]; done)))
        have x2wg : wg.cell? ⟨we.heap.size, 2, none⟩ = some (.int .i64 k1) := ((hcwg _ 2 (by first | (with_reducible assumption) | (simp; done) | (simp; omega)) hnwe).trans (by first | (with_reducible assumption) | (simp (maxDischargeDepth := 9) [go_sem, *]; done)))
        have xf2wg : wg.frozen? ⟨we.heap.size, 2, none⟩ = false := ((hfwg _ 2 (by first | (with_reducible assumption) | (simp; done) | (simp; omega)) hnwe).trans (by first | (with_reducible assumption) | (simp (maxDischargeDepth := 9) [go_sem, *]; done)))
        have x3wg : wg.cell? ⟨we.heap.size, 3, none⟩ = some (.int .i64 v) := ((hcwg _ 3 (by first | (with_reducible assumption) | (simp; done) | (simp; omega)) hnwe).trans (by first | (with_reducible assumption) | (simp (maxDischargeDepth := 9) [go_sem, *]; done)))
        have xf3wg : wg.frozen? ⟨we.heap.size, 3, none⟩ = false := ((hfwg _ 3 (by first | (with_reducible assumption) | (simp; done) | (simp; omega)) hnwe).trans (by first | (with_reducible assumption) | (simp (maxDischargeDepth := 9) [go_sem, *]; done)))
        have x4wg : wg.cell? ⟨we.heap.size, 4, none⟩ = some (.int .i64 0) := ((hcwg _ 4 (by first | (with_reducible assumption) | (simp; done) | (simp; omega)) hnwe).trans (by first | (with_reducible assumption) | (simp (maxDischargeDepth := 9) [go_sem, *]; done)))
        have xf4wg : wg.frozen? ⟨we.heap.size, 4, none⟩ = false := ((hfwg _ 4 (by first | (with_reducible assumption) | (simp; done) | (simp; omega)) hnwe).trans (by first | (with_reducible assumption) | (simp (maxDischargeDepth := 9) [go_sem, *]; done)))
        have hn2wg : wg.heap.size + 1 ≠ R := (by omega)
        obtain ⟨d, hd, hd', hd'', bd1, bd2⟩ := el7d d0 bd01 (by omega) d1 bd11 bd12
        have hwd1 : IntKind.i64.wrap (tt + x - d) = tt + x - d := IntWalk.i64_in _ (by omega)
        · skip
          go_wp2_with fail
          (with_reducible refine (pick_any R a len cap (p' + 8) 3 _ (by omega) (by omega) ((unhide rwg).kpS hRwg (by repeat (first | (with_reducible exact Below.refl _ _) | (with_reducible refine Below.setCell ?_ (by first | (simp; omega) | omega) _) | (with_reducible refine up_alloc ?_ (by first | omega | (simp; omega)) _) | (with_reducible refine Below.drew ?_))))).mono ?_)
          rintro e wh ⟨kk, rfl, bkk1, bkk2, kwh, qwh⟩
          have rwh := hide (qwh (by omega))
          clear qwh
          have zwh := kwh.low.size
          have hRwh : R < wh.heap.size := (by have h9 := kwh.low.size; (try simp at h9); omega)
          have hnwh : wh.heap.size ≠ R := (by omega)
          have hcwh := (fun b o hb hn => kwh.cell (b := b) (o := o) hb hn)
          have hfwh := (fun b o hb hn => kwh.frozen (b := b) (o := o) hb hn)
          have xzwh : we.heap.size < wh.heap.size := (by (try simp at zwh); omega)
          have xywh : we.heap.size ≤ wh.heap.size := (by omega)
          have x0wh : wh.cell? ⟨we.heap.size, 0, none⟩ = some (.int .i64 1) := ((hcwh _ 0 (by first | (with_reducible assumption) | (simp; done) | (simp; omega)) hnwe).trans (by first | (with_reducible assumption) | (simp (maxDischargeDepth := 9) [go_sem, *]; done)))
          have xf0wh : wh.frozen? ⟨we.heap.size, 0, none⟩ = false := ((hfwh _ 0 (by first | (with_reducible assumption) | (simp; done) | (simp; omega)) hnwe).trans (by first | (with_reducible assumption) | (simp (maxDischargeDepth := 9) [go_sem, *]; done)))
          have x1wh : wh.cell? ⟨we.heap.size, 1, none⟩ = some (.int .i64 (tt + x - d)) := ((hcwh _ 1 (by first | (with_reducible assumption) | (simp; done) | (simp; omega)) hnwe).trans (by first | (with_reducible assumption) | (simp (maxDischargeDepth := 9) [go_sem, *]; done)))
          have xf1wh : wh.frozen? ⟨we.heap.size, 1, none⟩ = false := ((hfwh _ 1 (by first | (with_reducible assumption) | (simp; done) | (simp; omega)) hnwe).trans (by first | (with_reducible assumption) | (simp (maxDischargeDepth := 9) [go_sem, *]; done)))
          have x2wh : wh.cell? ⟨we.heap.size, 2, none⟩ = some (.int .i64 k1) := ((hcwh _ 2 (by first | (with_reducible assumption) | (simp; done) | (simp; omega)) hnwe).trans (by first | (with_reducible assumption) | (simp (maxDischargeDepth := 9) [go_sem, *]; done)))
          have xf2wh : wh.frozen? ⟨we.heap.size, 2, none⟩ = false := ((hfwh _ 2 (by first | (with_reducible assumption) | (simp; done) | (simp; omega)) hnwe).trans (by first | (with_reducible assumption) | (simp (maxDischargeDepth := 9) [go_sem, *]; done)))
          have x3wh : wh.cell? ⟨we.heap.size, 3, none⟩ = some (.int .i64 v) := ((hcwh _ 3 (by first | (with_reducible assumption) | (simp; done) | (simp; omega)) hnwe).trans (by first | (with_reducible assumption) | (simp (maxDischargeDepth := 9) [go_sem, *]; done)))
          have xf3wh : wh.frozen? ⟨we.heap.size, 3, none⟩ = false := ((hfwh _ 3 (by first | (with_reducible assumption) | (simp; done) | (simp; omega)) hnwe).trans (by first | (with_reducible assumption) | (simp (maxDischargeDepth := 9) [go_sem, *]; done)))
          have x4wh : wh.cell? ⟨we.heap.size, 4, none⟩ = some (.int .i64 0) := ((hcwh _ 4 (by first | (with_reducible assumption) | (simp; done) | (simp; omega)) hnwe).trans (by first | (with_reducible assumption) | (simp (maxDischargeDepth := 9) [go_sem, *]; done)))
          have xf4wh : wh.frozen? ⟨we.heap.size, 4, none⟩ = false := ((hfwh _ 4 (by first | (with_reducible assumption) | (simp; done) | (simp; omega)) hnwe).trans (by first | (with_reducible assumption) | (simp (maxDischargeDepth := 9) [go_sem, *]; done)))
          have hn2wh : wh.heap.size + 1 ≠ R := (by omega)
          have hwh : w.heap.size ≤ wh.heap.size := by (try simp at zwe zwf zwg zwh); omega
          by_cases q3 : tt + x - d < 0
          · skip
            go_wp2_with (first | (at_builtin; go_loud (refine wpList_append_own _ rfl _ _ 23 rfl w.heap.size 35 i0 _ 5 40 Try.underlying23 hi hz0 hz1 hz2 rfl (by decide) u5 _ _ rfl (World.ownsRow.alloc (ownK (unhide HO) hR (by repeat (first | (with_reducible refine kp_setN ?_ (by first | (simp; done) | (simp; omega)) (by with_reducible assumption) _) | (with_reducible assumption) | (with_reducible exact Kp.refl _ _) | (with_reducible refine kp_set ?_ _) | (with_reducible refine kp_alloc (by with_reducible assumption) ?_ _) | (with_reducible refine kp_drew ?_) | (with_reducible refine kp_drewN ?_ _) | (with_reducible refine Kp.trans ?_ (by with_reducible assumption))))) _) ⟨wh.heap.size, 0, none⟩ 1 1 [.int .i64 1, .int .i64 0, .int .i64 kk, .int .i64 v, .int .i64 0] rfl rfl (cells_new5g _ (by simp) (1) (0) (kk) (v) (0) _) (by simp [Value.oneCell']) (by unfold maxLen; omega) (by omega) (by simp; omega) ?_); intro v' w5 hown' hgrow _))
            have hO5 := its_snoc hown'
            have hb5 : Below w.heap.size _ w5 := (Below.refl _ _).grown hgrow (by simp; omega) (unhide hge)
            have k5 : Kp R w w5 := kp_up hR (by repeat (first | (with_reducible refine kp_setN ?_ (by first | (simp; done) | (simp; omega)) (by with_reducible assumption) _) | (with_reducible assumption) | (with_reducible exact Kp.refl _ _) | (with_reducible refine kp_set ?_ _) | (with_reducible refine kp_alloc (by with_reducible assumption) ?_ _) | (with_reducible refine kp_drew ?_) | (with_reducible refine kp_drewN ?_ _) | (with_reducible refine Kp.trans ?_ (by with_reducible assumption)))) hb5
            have r5 : Hid (Rd R w5 a len cap (p' + 9)) := hide (((unhide rwh).up (by repeat (first | (with_reducible exact Below.refl _ _) | (with_reducible refine Below.setCell ?_ (by first | (simp; omega) | omega) _) | (with_reducible refine up_alloc ?_ (by first | omega | (simp; omega)) _) | (with_reducible refine Below.drew ?_)))).up (hb5.mono (by omega)))
            go_roundw
            case rel => exact ⟨j + 1, _, (p' + 9), (tt + x), mm, by go_num, by go_num, by go_num, by omega, by simp; omega, ⟨by omega, by omega⟩, ⟨by omega, by omega⟩, by omega, hBd.snoc (by refine ⟨⟨?_, ?_⟩, ⟨?_, ?_⟩⟩ <;> omega), hO5, r5, k5⟩
            case measure => simp [intOf]; omega
          · by_cases q4 : 60 < tt + x - d
            · skip
              go_wp2_with (first | (at_builtin; go_loud (refine wpList_append_own _ rfl _ _ 23 rfl w.heap.size 35 i0 _ 5 40 Try.underlying23 hi hz0 hz1 hz2 rfl (by decide) u5 _ _ rfl (World.ownsRow.alloc (ownK (unhide HO) hR (by repeat (first | (with_reducible refine kp_setN ?_ (by first | (simp; done) | (simp; omega)) (by with_reducible assumption) _) | (with_reducible assumption) | (with_reducible exact Kp.refl _ _) | (with_reducible refine kp_set ?_ _) | (with_reducible refine kp_alloc (by with_reducible assumption) ?_ _) | (with_reducible refine kp_drew ?_) | (with_reducible refine kp_drewN ?_ _) | (with_reducible refine Kp.trans ?_ (by with_reducible assumption))))) _) ⟨wh.heap.size, 0, none⟩ 1 1 [.int .i64 1, .int .i64 60, .int .i64 kk, .int .i64 v, .int .i64 0] rfl rfl (cells_new5g _ (by simp) (1) (60) (kk) (v) (0) _) (by simp [Value.oneCell']) (by unfold maxLen; omega) (by omega) (by simp; omega) ?_); intro v' w5 hown' hgrow _))
              have hO5 := its_snoc hown'
              have hb5 : Below w.heap.size _ w5 := (Below.refl _ _).grown hgrow (by simp; omega) (unhide hge)
              have k5 : Kp R w w5 := kp_up hR (by repeat (first | (with_reducible refine kp_setN ?_ (by first | (simp; done) | (simp; omega)) (by with_reducible assumption) _) | (with_reducible assumption) | (with_reducible exact Kp.refl _ _) | (with_reducible refine kp_set ?_ _) | (with_reducible refine kp_alloc (by with_reducible assumption) ?_ _) | (with_reducible refine kp_drew ?_) | (with_reducible refine kp_drewN ?_ _) | (with_reducible refine Kp.trans ?_ (by with_reducible assumption)))) hb5
              have r5 : Hid (Rd R w5 a len cap (p' + 9)) := hide (((unhide rwh).up (by repeat (first | (with_reducible exact Below.refl _ _) | (with_reducible refine Below.setCell ?_ (by first | (simp; omega) | omega) _) | (with_reducible refine up_alloc ?_ (by first | omega | (simp; omega)) _) | (with_reducible refine Below.drew ?_)))).up (hb5.mono (by omega)))
              go_roundw
              case rel => exact ⟨j + 1, _, (p' + 9), (tt + x), mm, by go_num, by go_num, by go_num, by omega, by simp; omega, ⟨by omega, by omega⟩, ⟨by omega, by omega⟩, by omega, hBd.snoc (by refine ⟨⟨?_, ?_⟩, ⟨?_, ?_⟩⟩ <;> omega), hO5, r5, k5⟩
              case measure => simp [intOf]; omega
            · skip
              go_wp2_with (first | (at_builtin; go_loud (refine wpList_append_own _ rfl _ _ 23 rfl w.heap.size 35 i0 _ 5 40 Try.underlying23 hi hz0 hz1 hz2 rfl (by decide) u5 _ _ rfl (World.ownsRow.alloc (ownK (unhide HO) hR (by repeat (first | (with_reducible refine kp_setN ?_ (by first | (simp; done) | (simp; omega)) (by with_reducible assumption) _) | (with_reducible assumption) | (with_reducible exact Kp.refl _ _) | (with_reducible refine kp_set ?_ _) | (with_reducible refine kp_alloc (by with_reducible assumption) ?_ _) | (with_reducible refine kp_drew ?_) | (with_reducible refine kp_drewN ?_ _) | (with_reducible refine Kp.trans ?_ (by with_reducible assumption))))) _) ⟨wh.heap.size, 0, none⟩ 1 1 [.int .i64 1, .int .i64 (tt + x - d), .int .i64 kk, .int .i64 v, .int .i64 0] rfl rfl (cells_new5g _ (by simp) (1) ((tt + x - d)) (kk) (v) (0) _) (by simp [Value.oneCell']) (by unfold maxLen; omega) (by omega) (by simp; omega) ?_); intro v' w5 hown' hgrow _))
              have hO5 := its_snoc hown'
              have hb5 : Below w.heap.size _ w5 := (Below.refl _ _).grown hgrow (by simp; omega) (unhide hge)
              have k5 : Kp R w w5 := kp_up hR (by repeat (first | (with_reducible refine kp_setN ?_ (by first | (simp; done) | (simp; omega)) (by with_reducible assumption) _) | (with_reducible assumption) | (with_reducible exact Kp.refl _ _) | (with_reducible refine kp_set ?_ _) | (with_reducible refine kp_alloc (by with_reducible assumption) ?_ _) | (with_reducible refine kp_drew ?_) | (with_reducible refine kp_drewN ?_ _) | (with_reducible refine Kp.trans ?_ (by with_reducible assumption)))) hb5
              have r5 : Hid (Rd R w5 a len cap (p' + 9)) := hide (((unhide rwh).up (by repeat (first | (with_reducible exact Below.refl _ _) | (with_reducible refine Below.setCell ?_ (by first | (simp; omega) | omega) _) | (with_reducible refine up_alloc ?_ (by first | omega | (simp; omega)) _) | (with_reducible refine Below.drew ?_)))).up (hb5.mono (by omega)))
              go_roundw
              case rel => exact ⟨j + 1, _, (p' + 9), (tt + x), mm, by go_num, by go_num, by go_num, by omega, by simp; omega, ⟨by omega, by omega⟩, ⟨by omega, by omega⟩, by omega, hBd.snoc (by refine ⟨⟨?_, ?_⟩, ⟨?_, ?_⟩⟩ <;> omega), hO5, r5, k5⟩
              case measure => simp [intOf]; omega
    · have hjn : j = n := by omega
      subst hjn
      go_wp2_with (first | (at_builtin; go_loud (refine wpList_append_own _ rfl _ _ 23 rfl w.heap.size 35 i0 _ 5 40 Try.underlying23 hi hz0 hz1 hz2 rfl (by decide) u5 _ _ rfl (World.ownsRow.alloc (ownK (unhide HO) hR (by repeat (first | (with_reducible refine kp_setN ?_ (by first | (simp; done) | (simp; omega)) (by with_reducible assumption) _) | (with_reducible assumption) | (with_reducible exact Kp.refl _ _) | (with_reducible refine kp_set ?_ _) | (with_reducible refine kp_alloc (by with_reducible assumption) ?_ _) | (with_reducible refine kp_drew ?_) | (with_reducible refine kp_drewN ?_ _) | (with_reducible refine Kp.trans ?_ (by with_reducible assumption))))) _) ⟨wr.heap.size, 0, none⟩ 1 1 [.int .i64 2, .int .i64 1000, .int .i64 0, .int .i64 0, .int .i64 0] rfl rfl (cells_new5g _ (by simp) (2) (1000) (0) (0) (0) _) (by simp [Value.oneCell']) (by unfold maxLen; omega) (by omega) (by simp; omega) ?_); intro v' w5 hown' hgrow _))
      have hO5 := its_snoc hown'
      have hb5 : Below w.heap.size _ w5 := (Below.refl _ _).grown hgrow (by simp; omega) (unhide hge)
      have k5 : Kp R w w5 := kp_up hR (by repeat (first | (with_reducible refine kp_setN ?_ (by first | (simp; done) | (simp; omega)) (by with_reducible assumption) _) | (with_reducible assumption) | (with_reducible exact Kp.refl _ _) | (with_reducible refine kp_set ?_ _) | (with_reducible refine kp_alloc (by with_reducible assumption) ?_ _) | (with_reducible refine kp_drew ?_) | (with_reducible refine kp_drewN ?_ _) | (with_reducible refine Kp.trans ?_ (by with_reducible assumption)))) hb5
      have r5 : Hid (Rd R w5 a len cap p') := hide (((unhide rwr).up (by repeat (first | (with_reducible exact Below.refl _ _) | (with_reducible refine Below.setCell ?_ (by first | (simp; omega) | omega) _) | (with_reducible refine up_alloc ?_ (by first | omega | (simp; omega)) _) | (with_reducible refine Below.drew ?_)))).up (hb5.mono (by omega)))
      go_wp2
      go_ret
      exact ⟨_, _, rfl, hO5, hBd.snoc (by refine ⟨⟨?_, ?_⟩, ⟨?_, ?_⟩⟩ <;> omega), ⟨by simp, by simp; omega⟩, k5, p', by omega, unhide r5⟩
end Go.Proofs.Ytikhmgkoodoeoaa
