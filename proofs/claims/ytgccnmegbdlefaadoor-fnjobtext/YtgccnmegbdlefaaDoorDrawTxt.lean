/- Proved here: a text is bent at a drawn place. -/
import Derived.Test.YtgccnmegbdlefaaDoorDraw3
import Derived.Test.YtgccnmegbdlefaaDoorDig
import Derived.BigQuiet
namespace Go.Proofs.YtgccnmegbdlefaaDoor
open Go.ChangeShapes Go.WideShapes Go.ChangeAt Go.RowKit
set_option linter.unusedVariables false

theorem el8 (x : Int) (bx1 : 0 ≤ x) (bx2 : x ≤ 255) (y : Int) (h3 : 0 ≤ y) (h4 : y < 8) : ∃ t : Int, (#[Value.int .i64 32, .int .i64 48, .int .i64 49, .int .i64 46, .int .i64 45, .int .i64 97, .int .i64 0, .int .i64 x] : Array Value)[y.toNat]? = some (.int .i64 t) ∧ ([Value.int .i64 32, .int .i64 48, .int .i64 49, .int .i64 46, .int .i64 45, .int .i64 97, .int .i64 0, .int .i64 x] : List Value)[y.toNat]? = some (.int .i64 t) ∧ (∀ h, ([Value.int .i64 32, .int .i64 48, .int .i64 49, .int .i64 46, .int .i64 45, .int .i64 97, .int .i64 0, .int .i64 x] : List Value)[y.toNat]'h = .int .i64 t) ∧ 0 ≤ t ∧ t ≤ 255 := by
  have : y = 0 ∨ y = 1 ∨ y = 2 ∨ y = 3 ∨ y = 4 ∨ y = 5 ∨ y = 6 ∨ y = 7 := by omega
  rcases this with rfl | rfl | rfl | rfl | rfl | rfl | rfl | rfl
  · exact ⟨32, rfl, rfl, fun _ => rfl, by omega, by omega⟩
  · exact ⟨48, rfl, rfl, fun _ => rfl, by omega, by omega⟩
  · exact ⟨49, rfl, rfl, fun _ => rfl, by omega, by omega⟩
  · exact ⟨46, rfl, rfl, fun _ => rfl, by omega, by omega⟩
  · exact ⟨45, rfl, rfl, fun _ => rfl, by omega, by omega⟩
  · exact ⟨97, rfl, rfl, fun _ => rfl, by omega, by omega⟩
  · exact ⟨0, rfl, rfl, fun _ => rfl, by omega, by omega⟩
  · exact ⟨x, rfl, rfl, fun _ => rfl, by omega, by omega⟩
/-- A text that is drawn. -/
def TxtP (n : Nat) (R : Nat) (w : World) (a : Option Addr) (len cap p : Nat) (e : Ending) (w' : World) : Prop := ∃ s : ByteArray, e = .returned (.string s) ∧ s.size ≤ n ∧ Kp R w w' ∧ ∃ p', p' ≤ p + 6 ∧ Rd R w' a len cap p'
theorem u8_in {t : Int} (h0 : 0 ≤ t) (h1 : t ≤ 255) : IntKind.u8.wrap t = t := by
  have h2 : (t % 256 : Int) = t := by omega
  simp [IntKind.wrap, IntKind.bits, IntKind.signed, h2]

set_option maxRecDepth 20000 in
set_option maxHeartbeats 4000000 in
theorem bent_any (R : Nat) (a : Option Addr) (len cap p : Nat) (s : ByteArray) (w : World) (hs : s.size ≤ 1000) (hp : p ≤ 900000) (hR : R < w.heap.size) (h : Rd R w a len cap p) : Calls Tryd.prog 41 #[.pointer (some ⟨R, 0, none⟩), .string s] w fun e w' => TxtP (s.size + 1) R w a len cap p e w' := by
  have r0 := hide h
  have hn0 : w.heap.size ≠ R := by omega
  clear h
  go_enter Tryd.func41, Tryd.ntmps41
  go_wp2_with (first
    | (go_at_call 37; (with_reducible refine (pick_any R a len cap p ((s.size : Int) + 1) _ (by omega) (by omega) ((unhide r0).kp hR (by repeat (first | (with_reducible exact Below.refl _ _) | (with_reducible refine bel_alloc ?_ _) | (with_reducible refine bel_drew ?_) | (with_reducible refine bel_drewN ?_ _))))).mono ?_); rintro e wa ⟨k, rfl, bk1, bk2, kwa, qwa⟩; have rwa := hide (qwa (by omega)); clear qwa; have zwa := kwa.low.size; have hRwa : R < wa.heap.size := (by (try simp at zwa); omega); have hnwa : wa.heap.size ≠ R := (by omega); have hcwa := (fun b o hb hn => kwa.cell (b := b) (o := o) hb hn); have hfwa := (fun b o hb hn => kwa.frozen (b := b) (o := o) hb hn); have hzwa : w.heap.size ≤ wa.heap.size := (by (try simp at zwa); omega); obtain ⟨kN, rfl⟩ : ∃ n : Nat, k = n := ⟨k.toNat, by omega⟩; have hkN : kN ≤ s.size := (by omega))
    | (go_at_call 37; (with_reducible refine (pick_any R a len cap (p + 1) 256 _ (by omega) (by omega) ((unhide rwa).kp hRwa (by repeat (first | (with_reducible exact Below.refl _ _) | (with_reducible refine bel_alloc ?_ _) | (with_reducible refine bel_drew ?_) | (with_reducible refine bel_drewN ?_ _))))).mono ?_); rintro e wb ⟨x, rfl, bx1, bx2, kwb, qwb⟩; have rwb := hide (qwb (by omega)); clear qwb; have zwb := kwb.low.size; have hRwb : R < wb.heap.size := (by (try simp at zwb); omega); have hnwb : wb.heap.size ≠ R := (by omega); have hcwb := (fun b o hb hn => kwb.cell (b := b) (o := o) hb hn); have hfwb := (fun b o hb hn => kwb.frozen (b := b) (o := o) hb hn); have hzwb : w.heap.size ≤ wb.heap.size := (by (try simp at zwb); omega); (try have ywawb : wa.heap.size < wb.heap.size := (by (try simp at zwb); omega)))
    | (go_at_call 37; (with_reducible refine (pick_any R a len cap (p + 2) 8 _ (by omega) (by omega) ((unhide rwb).kp hRwb (by repeat (first | (with_reducible exact Below.refl _ _) | (with_reducible refine bel_alloc ?_ _) | (with_reducible refine bel_drew ?_) | (with_reducible refine bel_drewN ?_ _))))).mono ?_); rintro e wc ⟨y, rfl, by1, by2, kwc, qwc⟩; have rwc := hide (qwc (by omega)); clear qwc; have zwc := kwc.low.size; have hRwc : R < wc.heap.size := (by (try simp at zwc); omega); have hnwc : wc.heap.size ≠ R := (by omega); have hcwc := (fun b o hb hn => kwc.cell (b := b) (o := o) hb hn); have hfwc := (fun b o hb hn => kwc.frozen (b := b) (o := o) hb hn); have hzwc : w.heap.size ≤ wc.heap.size := (by (try simp at zwc); omega); (try have ywbwc : wb.heap.size < wc.heap.size := (by (try simp at zwc); omega)); (try have ywawc : wa.heap.size < wc.heap.size := (by (try simp at zwc); omega)); obtain ⟨t, ht, ht', ht'', bt1, bt2⟩ := el8 x (by omega) (by omega) y by1 by2; have hwt := u8_in bt1 bt2; obtain ⟨c, hcc, hcv⟩ := conv1c t bt1 bt2 wc))
  have e1 : (s.extract 0 kN).size = kN := by rw [ByteArray.size_extract]; omega
  have e2 : (s.extract kN s.size).size = s.size - kN := by rw [ByteArray.size_extract]; omega
  have e3 : (s.extract (kN + 1) s.size).size = s.size - (kN + 1) := by rw [ByteArray.size_extract]; omega
  have e4 : (⟨#[c]⟩ : ByteArray).size = 1 := rfl
  go_wp2_with (first
    | (go_at_call 37; (with_reducible refine (pick_any R a len cap (p + 3) 3 _ (by omega) (by omega) ((unhide rwc).kp hRwc (by repeat (first | (with_reducible exact Below.refl _ _) | (with_reducible refine bel_alloc ?_ _) | (with_reducible refine bel_drew ?_) | (with_reducible refine bel_drewN ?_ _))))).mono ?_); rintro e wd ⟨v, rfl, bv1, bv2, kwd, qwd⟩; have rwd := hide (qwd (by omega)); clear qwd; have zwd := kwd.low.size; have hRwd : R < wd.heap.size := (by (try simp at zwd); omega); have hnwd : wd.heap.size ≠ R := (by omega); have hcwd := (fun b o hb hn => kwd.cell (b := b) (o := o) hb hn); have hfwd := (fun b o hb hn => kwd.frozen (b := b) (o := o) hb hn); have hzwd : w.heap.size ≤ wd.heap.size := (by (try simp at zwd); omega); (try have ywcwd : wc.heap.size < wd.heap.size := (by (try simp at zwd); omega)); (try have ywbwd : wb.heap.size < wd.heap.size := (by (try simp at zwd); omega)); (try have ywawd : wa.heap.size < wd.heap.size := (by (try simp at zwd); omega))))
  · go_quiet (fail)
    go_wp2
    go_ret
    exact ⟨_, rfl, (by simp only [ByteArray.size_append]; omega), (by repeat (first | (with_reducible refine kp_setN ?_ (by first | (simp; done) | (simp; omega)) (by with_reducible assumption) _) | (with_reducible assumption) | (with_reducible exact Kp.refl _ _) | (with_reducible refine kp_set ?_ _) | (with_reducible refine kp_alloc (by with_reducible assumption) ?_ _) | (with_reducible refine kp_drew ?_) | (with_reducible refine kp_drewN ?_ _) | (with_reducible refine Kp.trans ?_ (by with_reducible assumption)))), p + 4, by omega, ((unhide rwd).draws _)⟩
  · go_ret
    exact ⟨_, rfl, (by simp only [ByteArray.size_append]; omega), (by repeat (first | (with_reducible refine kp_setN ?_ (by first | (simp; done) | (simp; omega)) (by with_reducible assumption) _) | (with_reducible assumption) | (with_reducible exact Kp.refl _ _) | (with_reducible refine kp_set ?_ _) | (with_reducible refine kp_alloc (by with_reducible assumption) ?_ _) | (with_reducible refine kp_drew ?_) | (with_reducible refine kp_drewN ?_ _) | (with_reducible refine Kp.trans ?_ (by with_reducible assumption)))), p + 4, by omega, (unhide rwd)⟩
  · have hk3 : kN + 1 ≤ s.size := by
      have h8 : ((kN : Int) == (s.size : Int)) = false := by assumption
      rw [beq_eq_false_iff_ne] at h8
      omega
    go_wp2_with (first
      | (go_at_call 37; (with_reducible refine (pick_any R a len cap (p + 4) 2 _ (by omega) (by omega) ((unhide rwd).kp hRwd (by repeat (first | (with_reducible exact Below.refl _ _) | (with_reducible refine bel_alloc ?_ _) | (with_reducible refine bel_drew ?_) | (with_reducible refine bel_drewN ?_ _))))).mono ?_); rintro e wf ⟨u, rfl, bu1, bu2, kwf, qwf⟩; have rwf := hide (qwf (by omega)); clear qwf; have zwf := kwf.low.size; have hRwf : R < wf.heap.size := (by (try simp at zwf); omega); have hnwf : wf.heap.size ≠ R := (by omega); have hcwf := (fun b o hb hn => kwf.cell (b := b) (o := o) hb hn); have hfwf := (fun b o hb hn => kwf.frozen (b := b) (o := o) hb hn); have hzwf : w.heap.size ≤ wf.heap.size := (by (try simp at zwf); omega); (try have ywdwf : wd.heap.size < wf.heap.size := (by (try simp at zwf); omega)); (try have ywcwf : wc.heap.size < wf.heap.size := (by (try simp at zwf); omega)); (try have ywbwf : wb.heap.size < wf.heap.size := (by (try simp at zwf); omega)); (try have ywawf : wa.heap.size < wf.heap.size := (by (try simp at zwf); omega))))
    · go_quiet (fail)
      go_wp2
      go_ret
      exact ⟨_, rfl, (by simp only [ByteArray.size_append]; omega), (by repeat (first | (with_reducible refine kp_setN ?_ (by first | (simp; done) | (simp; omega)) (by with_reducible assumption) _) | (with_reducible assumption) | (with_reducible exact Kp.refl _ _) | (with_reducible refine kp_set ?_ _) | (with_reducible refine kp_alloc (by with_reducible assumption) ?_ _) | (with_reducible refine kp_drew ?_) | (with_reducible refine kp_drewN ?_ _) | (with_reducible refine Kp.trans ?_ (by with_reducible assumption)))), p + 5, by omega, ((unhide rwf).draws _)⟩
    · go_quiet (fail)
      go_wp2
      go_ret
      exact ⟨_, rfl, (by simp only [ByteArray.size_append]; omega), (by repeat (first | (with_reducible refine kp_setN ?_ (by first | (simp; done) | (simp; omega)) (by with_reducible assumption) _) | (with_reducible assumption) | (with_reducible exact Kp.refl _ _) | (with_reducible refine kp_set ?_ _) | (with_reducible refine kp_alloc (by with_reducible assumption) ?_ _) | (with_reducible refine kp_drew ?_) | (with_reducible refine kp_drewN ?_ _) | (with_reducible refine Kp.trans ?_ (by with_reducible assumption)))), p + 5, by omega, ((unhide rwf).draws _)⟩
end Go.Proofs.YtgccnmegbdlefaaDoor
