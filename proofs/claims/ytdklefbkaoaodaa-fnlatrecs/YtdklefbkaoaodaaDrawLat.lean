/- Proved here: pairs that came too late are drawn of a code. -/
import Derived.Test.YtdklefbkaoaodaaDrawItm
import Derived.Test.YtdklefbkaoaodaaLatRecs
namespace Go.Proofs.Ytdklefbkaoaodaa
open Go.ChangeShapes Go.WideShapes Go.ChangeAt Go.RowKit
set_option linter.unusedVariables false

/-- What a drawn pair is. -/
def LatP (R : Nat) (w : World) (a : Option Addr) (len cap p : Nat) (e : Ending) (w' : World) : Prop := ∃ q t k v nn st en : Int, e = .returned (.agg #[.int .i64 q, .int .i64 t, .int .i64 k, .int .i64 v, .int .i64 nn, .int .i64 st, .int .i64 en]) ∧ Kp R w w' ∧ ∃ p', p' ≤ p + 30 ∧ Rd R w' a len cap p'

set_option maxRecDepth 20000 in
set_option maxHeartbeats 4000000 in
theorem late_any (R : Nat) (a : Option Addr) (len cap p : Nat) (n : Int) (w : World) (hn : 1 ≤ n) (hn2 : n ≤ 100000) (hp : p ≤ 600000) (hR : R < w.heap.size) (h : Rd R w a len cap p) : Calls Try.prog 27 #[.pointer (some ⟨R, 0, none⟩), .int .i64 n] w fun e w' => LatP R w a len cap p e w' := by
  have r0 := hide h
  have hn0 : w.heap.size ≠ R := by omega
  clear h
  go_enter Try.func27, Try.ntmps27
  go_wp2_with fail
  (with_reducible refine (rec_any R a len cap p _ (by omega) (by first | (with_reducible assumption) | (simp; done) | (simp; omega)) ((unhide r0).kp hR (by repeat (first | (with_reducible exact Below.refl _ _) | (with_reducible refine bel_alloc ?_ _) | (with_reducible refine bel_drew ?_) | (with_reducible refine bel_drewN ?_ _))))).mono ?_)
  rintro e wa ⟨t, k, v, rfl, ⟨bt1, bt2⟩, bk, bv, kwa, qwa⟩
  have rwa := hide qwa
  clear qwa
  have zwa := kwa.low.size
  have hRwa : R < wa.heap.size := (by have h9 := kwa.low.size; (try simp at h9); omega)
  have hnwa : wa.heap.size ≠ R := (by omega)
  have hcwa := (fun b o hb hn => kwa.cell (b := b) (o := o) hb hn)
  have hfwa := (fun b o hb hn => kwa.frozen (b := b) (o := o) hb hn)
  have xzwa : w.heap.size < wa.heap.size := (by (try simp at zwa); omega)
  have xywa : w.heap.size ≤ wa.heap.size := (by omega)
  have x0wa : wa.cell? ⟨w.heap.size, 0, none⟩ = some (.int .i64 0) := ((hcwa _ 0 (by first | (with_reducible assumption) | (simp; done) | (simp; omega)) hn0).trans (by first | (with_reducible assumption) | (simp (maxDischargeDepth := 9) [go_sem, *]; done)))
  have xf0wa : wa.frozen? ⟨w.heap.size, 0, none⟩ = false := ((hfwa _ 0 (by first | (with_reducible assumption) | (simp; done) | (simp; omega)) hn0).trans (by first | (with_reducible assumption) | (simp (maxDischargeDepth := 9) [go_sem, *]; done)))
  have x1wa : wa.cell? ⟨w.heap.size, 1, none⟩ = some (.int .i64 0) := ((hcwa _ 1 (by first | (with_reducible assumption) | (simp; done) | (simp; omega)) hn0).trans (by first | (with_reducible assumption) | (simp (maxDischargeDepth := 9) [go_sem, *]; done)))
  have xf1wa : wa.frozen? ⟨w.heap.size, 1, none⟩ = false := ((hfwa _ 1 (by first | (with_reducible assumption) | (simp; done) | (simp; omega)) hn0).trans (by first | (with_reducible assumption) | (simp (maxDischargeDepth := 9) [go_sem, *]; done)))
  have x2wa : wa.cell? ⟨w.heap.size, 2, none⟩ = some (.int .i64 0) := ((hcwa _ 2 (by first | (with_reducible assumption) | (simp; done) | (simp; omega)) hn0).trans (by first | (with_reducible assumption) | (simp (maxDischargeDepth := 9) [go_sem, *]; done)))
  have xf2wa : wa.frozen? ⟨w.heap.size, 2, none⟩ = false := ((hfwa _ 2 (by first | (with_reducible assumption) | (simp; done) | (simp; omega)) hn0).trans (by first | (with_reducible assumption) | (simp (maxDischargeDepth := 9) [go_sem, *]; done)))
  have x3wa : wa.cell? ⟨w.heap.size, 3, none⟩ = some (.int .i64 0) := ((hcwa _ 3 (by first | (with_reducible assumption) | (simp; done) | (simp; omega)) hn0).trans (by first | (with_reducible assumption) | (simp (maxDischargeDepth := 9) [go_sem, *]; done)))
  have xf3wa : wa.frozen? ⟨w.heap.size, 3, none⟩ = false := ((hfwa _ 3 (by first | (with_reducible assumption) | (simp; done) | (simp; omega)) hn0).trans (by first | (with_reducible assumption) | (simp (maxDischargeDepth := 9) [go_sem, *]; done)))
  have x4wa : wa.cell? ⟨w.heap.size, 4, none⟩ = some (.int .i64 0) := ((hcwa _ 4 (by first | (with_reducible assumption) | (simp; done) | (simp; omega)) hn0).trans (by first | (with_reducible assumption) | (simp (maxDischargeDepth := 9) [go_sem, *]; done)))
  have xf4wa : wa.frozen? ⟨w.heap.size, 4, none⟩ = false := ((hfwa _ 4 (by first | (with_reducible assumption) | (simp; done) | (simp; omega)) hn0).trans (by first | (with_reducible assumption) | (simp (maxDischargeDepth := 9) [go_sem, *]; done)))
  have x5wa : wa.cell? ⟨w.heap.size, 5, none⟩ = some (.int .i64 0) := ((hcwa _ 5 (by first | (with_reducible assumption) | (simp; done) | (simp; omega)) hn0).trans (by first | (with_reducible assumption) | (simp (maxDischargeDepth := 9) [go_sem, *]; done)))
  have xf5wa : wa.frozen? ⟨w.heap.size, 5, none⟩ = false := ((hfwa _ 5 (by first | (with_reducible assumption) | (simp; done) | (simp; omega)) hn0).trans (by first | (with_reducible assumption) | (simp (maxDischargeDepth := 9) [go_sem, *]; done)))
  have x6wa : wa.cell? ⟨w.heap.size, 6, none⟩ = some (.int .i64 0) := ((hcwa _ 6 (by first | (with_reducible assumption) | (simp; done) | (simp; omega)) hn0).trans (by first | (with_reducible assumption) | (simp (maxDischargeDepth := 9) [go_sem, *]; done)))
  have xf6wa : wa.frozen? ⟨w.heap.size, 6, none⟩ = false := ((hfwa _ 6 (by first | (with_reducible assumption) | (simp; done) | (simp; omega)) hn0).trans (by first | (with_reducible assumption) | (simp (maxDischargeDepth := 9) [go_sem, *]; done)))
  have hn2wa : wa.heap.size + 1 ≠ R := (by omega)
  have hn1wa : wa.heap.size + 1 ≠ R := by omega
  have bm1 : 0 ≤ t % 5 := by omega
  have bm2 : t % 5 < 5 := by omega
  go_wp2_with fail
  (with_reducible refine (pick_any R a len cap (p + 4) n _ (by omega) (by omega) ((unhide rwa).kpS hRwa (by repeat (first | (with_reducible exact Below.refl _ _) | (with_reducible refine Below.setCell ?_ (by first | (simp; omega) | omega) _) | (with_reducible refine up_alloc ?_ (by first | omega | (simp; omega)) _) | (with_reducible refine Below.drew ?_))))).mono ?_)
  rintro e wb ⟨z, rfl, bz1, bz2, kwb, qwb⟩
  have rwb := hide (qwb (by omega))
  clear qwb
  have zwb := kwb.low.size
  have hRwb : R < wb.heap.size := (by have h9 := kwb.low.size; (try simp at h9); omega)
  have hnwb : wb.heap.size ≠ R := (by omega)
  have hcwb := (fun b o hb hn => kwb.cell (b := b) (o := o) hb hn)
  have hfwb := (fun b o hb hn => kwb.frozen (b := b) (o := o) hb hn)
  have xzwb : w.heap.size < wb.heap.size := (by (try simp at zwb); omega)
  have xywb : w.heap.size ≤ wb.heap.size := (by omega)
  have x0wb : wb.cell? ⟨w.heap.size, 0, none⟩ = some (.int .i64 0) := ((hcwb _ 0 (by first | (with_reducible assumption) | (simp; done) | (simp; omega)) hn0).trans (by first | (with_reducible assumption) | (simp (maxDischargeDepth := 9) [go_sem, *]; done)))
  have xf0wb : wb.frozen? ⟨w.heap.size, 0, none⟩ = false := ((hfwb _ 0 (by first | (with_reducible assumption) | (simp; done) | (simp; omega)) hn0).trans (by first | (with_reducible assumption) | (simp (maxDischargeDepth := 9) [go_sem, *]; done)))
  have x1wb : wb.cell? ⟨w.heap.size, 1, none⟩ = some (.int .i64 0) := ((hcwb _ 1 (by first | (with_reducible assumption) | (simp; done) | (simp; omega)) hn0).trans (by first | (with_reducible assumption) | (simp (maxDischargeDepth := 9) [go_sem, *]; done)))
  have xf1wb : wb.frozen? ⟨w.heap.size, 1, none⟩ = false := ((hfwb _ 1 (by first | (with_reducible assumption) | (simp; done) | (simp; omega)) hn0).trans (by first | (with_reducible assumption) | (simp (maxDischargeDepth := 9) [go_sem, *]; done)))
  have x2wb : wb.cell? ⟨w.heap.size, 2, none⟩ = some (.int .i64 0) := ((hcwb _ 2 (by first | (with_reducible assumption) | (simp; done) | (simp; omega)) hn0).trans (by first | (with_reducible assumption) | (simp (maxDischargeDepth := 9) [go_sem, *]; done)))
  have xf2wb : wb.frozen? ⟨w.heap.size, 2, none⟩ = false := ((hfwb _ 2 (by first | (with_reducible assumption) | (simp; done) | (simp; omega)) hn0).trans (by first | (with_reducible assumption) | (simp (maxDischargeDepth := 9) [go_sem, *]; done)))
  have x3wb : wb.cell? ⟨w.heap.size, 3, none⟩ = some (.int .i64 0) := ((hcwb _ 3 (by first | (with_reducible assumption) | (simp; done) | (simp; omega)) hn0).trans (by first | (with_reducible assumption) | (simp (maxDischargeDepth := 9) [go_sem, *]; done)))
  have xf3wb : wb.frozen? ⟨w.heap.size, 3, none⟩ = false := ((hfwb _ 3 (by first | (with_reducible assumption) | (simp; done) | (simp; omega)) hn0).trans (by first | (with_reducible assumption) | (simp (maxDischargeDepth := 9) [go_sem, *]; done)))
  have x4wb : wb.cell? ⟨w.heap.size, 4, none⟩ = some (.int .i64 0) := ((hcwb _ 4 (by first | (with_reducible assumption) | (simp; done) | (simp; omega)) hn0).trans (by first | (with_reducible assumption) | (simp (maxDischargeDepth := 9) [go_sem, *]; done)))
  have xf4wb : wb.frozen? ⟨w.heap.size, 4, none⟩ = false := ((hfwb _ 4 (by first | (with_reducible assumption) | (simp; done) | (simp; omega)) hn0).trans (by first | (with_reducible assumption) | (simp (maxDischargeDepth := 9) [go_sem, *]; done)))
  have x5wb : wb.cell? ⟨w.heap.size, 5, none⟩ = some (.int .i64 0) := ((hcwb _ 5 (by first | (with_reducible assumption) | (simp; done) | (simp; omega)) hn0).trans (by first | (with_reducible assumption) | (simp (maxDischargeDepth := 9) [go_sem, *]; done)))
  have xf5wb : wb.frozen? ⟨w.heap.size, 5, none⟩ = false := ((hfwb _ 5 (by first | (with_reducible assumption) | (simp; done) | (simp; omega)) hn0).trans (by first | (with_reducible assumption) | (simp (maxDischargeDepth := 9) [go_sem, *]; done)))
  have x6wb : wb.cell? ⟨w.heap.size, 6, none⟩ = some (.int .i64 0) := ((hcwb _ 6 (by first | (with_reducible assumption) | (simp; done) | (simp; omega)) hn0).trans (by first | (with_reducible assumption) | (simp (maxDischargeDepth := 9) [go_sem, *]; done)))
  have xf6wb : wb.frozen? ⟨w.heap.size, 6, none⟩ = false := ((hfwb _ 6 (by first | (with_reducible assumption) | (simp; done) | (simp; omega)) hn0).trans (by first | (with_reducible assumption) | (simp (maxDischargeDepth := 9) [go_sem, *]; done)))
  have yzwb : wa.heap.size + 1 < wb.heap.size := (by (try simp at zwb); omega)
  have yywb : wa.heap.size + 1 ≤ wb.heap.size := (by omega)
  have y0wb : wb.cell? ⟨wa.heap.size + 1, 0, none⟩ = some (.int .i64 1) := ((hcwb _ 0 (by first | (with_reducible assumption) | (simp; done) | (simp; omega)) hn1wa).trans (by first | (with_reducible assumption) | (simp (maxDischargeDepth := 9) [go_sem, *]; done)))
  have yf0wb : wb.frozen? ⟨wa.heap.size + 1, 0, none⟩ = false := ((hfwb _ 0 (by first | (with_reducible assumption) | (simp; done) | (simp; omega)) hn1wa).trans (by first | (with_reducible assumption) | (simp (maxDischargeDepth := 9) [go_sem, *]; done)))
  have y1wb : wb.cell? ⟨wa.heap.size + 1, 1, none⟩ = some (.int .i64 t) := ((hcwb _ 1 (by first | (with_reducible assumption) | (simp; done) | (simp; omega)) hn1wa).trans (by first | (with_reducible assumption) | (simp (maxDischargeDepth := 9) [go_sem, *]; done)))
  have yf1wb : wb.frozen? ⟨wa.heap.size + 1, 1, none⟩ = false := ((hfwb _ 1 (by first | (with_reducible assumption) | (simp; done) | (simp; omega)) hn1wa).trans (by first | (with_reducible assumption) | (simp (maxDischargeDepth := 9) [go_sem, *]; done)))
  have y2wb : wb.cell? ⟨wa.heap.size + 1, 2, none⟩ = some (.int .i64 k) := ((hcwb _ 2 (by first | (with_reducible assumption) | (simp; done) | (simp; omega)) hn1wa).trans (by first | (with_reducible assumption) | (simp (maxDischargeDepth := 9) [go_sem, *]; done)))
  have yf2wb : wb.frozen? ⟨wa.heap.size + 1, 2, none⟩ = false := ((hfwb _ 2 (by first | (with_reducible assumption) | (simp; done) | (simp; omega)) hn1wa).trans (by first | (with_reducible assumption) | (simp (maxDischargeDepth := 9) [go_sem, *]; done)))
  have y3wb : wb.cell? ⟨wa.heap.size + 1, 3, none⟩ = some (.int .i64 v) := ((hcwb _ 3 (by first | (with_reducible assumption) | (simp; done) | (simp; omega)) hn1wa).trans (by first | (with_reducible assumption) | (simp (maxDischargeDepth := 9) [go_sem, *]; done)))
  have yf3wb : wb.frozen? ⟨wa.heap.size + 1, 3, none⟩ = false := ((hfwb _ 3 (by first | (with_reducible assumption) | (simp; done) | (simp; omega)) hn1wa).trans (by first | (with_reducible assumption) | (simp (maxDischargeDepth := 9) [go_sem, *]; done)))
  have y4wb : wb.cell? ⟨wa.heap.size + 1, 4, none⟩ = some (.int .i64 0) := ((hcwb _ 4 (by first | (with_reducible assumption) | (simp; done) | (simp; omega)) hn1wa).trans (by first | (with_reducible assumption) | (simp (maxDischargeDepth := 9) [go_sem, *]; done)))
  have yf4wb : wb.frozen? ⟨wa.heap.size + 1, 4, none⟩ = false := ((hfwb _ 4 (by first | (with_reducible assumption) | (simp; done) | (simp; omega)) hn1wa).trans (by first | (with_reducible assumption) | (simp (maxDischargeDepth := 9) [go_sem, *]; done)))
  have y5wb : wb.cell? ⟨wa.heap.size + 1, 5, none⟩ = some (.int .i64 (t - t % 5)) := ((hcwb _ 5 (by first | (with_reducible assumption) | (simp; done) | (simp; omega)) hn1wa).trans (by first | (with_reducible assumption) | (simp (maxDischargeDepth := 9) [go_sem, *]; done)))
  have yf5wb : wb.frozen? ⟨wa.heap.size + 1, 5, none⟩ = false := ((hfwb _ 5 (by first | (with_reducible assumption) | (simp; done) | (simp; omega)) hn1wa).trans (by first | (with_reducible assumption) | (simp (maxDischargeDepth := 9) [go_sem, *]; done)))
  have y6wb : wb.cell? ⟨wa.heap.size + 1, 6, none⟩ = some (.int .i64 (t - t % 5 + 5)) := ((hcwb _ 6 (by first | (with_reducible assumption) | (simp; done) | (simp; omega)) hn1wa).trans (by first | (with_reducible assumption) | (simp (maxDischargeDepth := 9) [go_sem, *]; done)))
  have yf6wb : wb.frozen? ⟨wa.heap.size + 1, 6, none⟩ = false := ((hfwb _ 6 (by first | (with_reducible assumption) | (simp; done) | (simp; omega)) hn1wa).trans (by first | (with_reducible assumption) | (simp (maxDischargeDepth := 9) [go_sem, *]; done)))
  have hn2wb : wb.heap.size + 1 ≠ R := (by omega)
  by_cases hz : z = 0
  · subst hz
    go_wp2_with fail
    (with_reducible refine (pick_any R a len cap (p + 5) 2 _ (by omega) (by omega) ((unhide rwb).kpS hRwb (by repeat (first | (with_reducible exact Below.refl _ _) | (with_reducible refine Below.setCell ?_ (by first | (simp; omega) | omega) _) | (with_reducible refine up_alloc ?_ (by first | omega | (simp; omega)) _) | (with_reducible refine Below.drew ?_))))).mono ?_)
    rintro e wc ⟨y, rfl, by1, by2, kwc, qwc⟩
    have rwc := hide (qwc (by omega))
    clear qwc
    have zwc := kwc.low.size
    have hRwc : R < wc.heap.size := (by have h9 := kwc.low.size; (try simp at h9); omega)
    have hnwc : wc.heap.size ≠ R := (by omega)
    have hcwc := (fun b o hb hn => kwc.cell (b := b) (o := o) hb hn)
    have hfwc := (fun b o hb hn => kwc.frozen (b := b) (o := o) hb hn)
    have xzwc : w.heap.size < wc.heap.size := (by (try simp at zwc); omega)
    have xywc : w.heap.size ≤ wc.heap.size := (by omega)
    have x0wc : wc.cell? ⟨w.heap.size, 0, none⟩ = some (.int .i64 0) := ((hcwc _ 0 (by first | (with_reducible assumption) | (simp; done) | (simp; omega)) hn0).trans (by first | (with_reducible assumption) | (simp (maxDischargeDepth := 9) [go_sem, *]; done)))
    have xf0wc : wc.frozen? ⟨w.heap.size, 0, none⟩ = false := ((hfwc _ 0 (by first | (with_reducible assumption) | (simp; done) | (simp; omega)) hn0).trans (by first | (with_reducible assumption) | (simp (maxDischargeDepth := 9) [go_sem, *]; done)))
    have x1wc : wc.cell? ⟨w.heap.size, 1, none⟩ = some (.int .i64 0) := ((hcwc _ 1 (by first | (with_reducible assumption) | (simp; done) | (simp; omega)) hn0).trans (by first | (with_reducible assumption) | (simp (maxDischargeDepth := 9) [go_sem, *]; done)))
    have xf1wc : wc.frozen? ⟨w.heap.size, 1, none⟩ = false := ((hfwc _ 1 (by first | (with_reducible assumption) | (simp; done) | (simp; omega)) hn0).trans (by first | (with_reducible assumption) | (simp (maxDischargeDepth := 9) [go_sem, *]; done)))
    have x2wc : wc.cell? ⟨w.heap.size, 2, none⟩ = some (.int .i64 0) := ((hcwc _ 2 (by first | (with_reducible assumption) | (simp; done) | (simp; omega)) hn0).trans (by first | (with_reducible assumption) | (simp (maxDischargeDepth := 9) [go_sem, *]; done)))
    have xf2wc : wc.frozen? ⟨w.heap.size, 2, none⟩ = false := ((hfwc _ 2 (by first | (with_reducible assumption) | (simp; done) | (simp; omega)) hn0).trans (by first | (with_reducible assumption) | (simp (maxDischargeDepth := 9) [go_sem, *]; done)))
    have x3wc : wc.cell? ⟨w.heap.size, 3, none⟩ = some (.int .i64 0) := ((hcwc _ 3 (by first | (with_reducible assumption) | (simp; done) | (simp; omega)) hn0).trans (by first | (with_reducible assumption) | (simp (maxDischargeDepth := 9) [go_sem, *]; done)))
    have xf3wc : wc.frozen? ⟨w.heap.size, 3, none⟩ = false := ((hfwc _ 3 (by first | (with_reducible assumption) | (simp; done) | (simp; omega)) hn0).trans (by first | (with_reducible assumption) | (simp (maxDischargeDepth := 9) [go_sem, *]; done)))
    have x4wc : wc.cell? ⟨w.heap.size, 4, none⟩ = some (.int .i64 0) := ((hcwc _ 4 (by first | (with_reducible assumption) | (simp; done) | (simp; omega)) hn0).trans (by first | (with_reducible assumption) | (simp (maxDischargeDepth := 9) [go_sem, *]; done)))
    have xf4wc : wc.frozen? ⟨w.heap.size, 4, none⟩ = false := ((hfwc _ 4 (by first | (with_reducible assumption) | (simp; done) | (simp; omega)) hn0).trans (by first | (with_reducible assumption) | (simp (maxDischargeDepth := 9) [go_sem, *]; done)))
    have x5wc : wc.cell? ⟨w.heap.size, 5, none⟩ = some (.int .i64 0) := ((hcwc _ 5 (by first | (with_reducible assumption) | (simp; done) | (simp; omega)) hn0).trans (by first | (with_reducible assumption) | (simp (maxDischargeDepth := 9) [go_sem, *]; done)))
    have xf5wc : wc.frozen? ⟨w.heap.size, 5, none⟩ = false := ((hfwc _ 5 (by first | (with_reducible assumption) | (simp; done) | (simp; omega)) hn0).trans (by first | (with_reducible assumption) | (simp (maxDischargeDepth := 9) [go_sem, *]; done)))
    have x6wc : wc.cell? ⟨w.heap.size, 6, none⟩ = some (.int .i64 0) := ((hcwc _ 6 (by first | (with_reducible assumption) | (simp; done) | (simp; omega)) hn0).trans (by first | (with_reducible assumption) | (simp (maxDischargeDepth := 9) [go_sem, *]; done)))
    have xf6wc : wc.frozen? ⟨w.heap.size, 6, none⟩ = false := ((hfwc _ 6 (by first | (with_reducible assumption) | (simp; done) | (simp; omega)) hn0).trans (by first | (with_reducible assumption) | (simp (maxDischargeDepth := 9) [go_sem, *]; done)))
    have yzwc : wa.heap.size + 1 < wc.heap.size := (by (try simp at zwc); omega)
    have yywc : wa.heap.size + 1 ≤ wc.heap.size := (by omega)
    have y0wc : wc.cell? ⟨wa.heap.size + 1, 0, none⟩ = some (.int .i64 1) := ((hcwc _ 0 (by first | (with_reducible assumption) | (simp; done) | (simp; omega)) hn1wa).trans (by first | (with_reducible assumption) | (simp (maxDischargeDepth := 9) [go_sem, *]; done)))
    have yf0wc : wc.frozen? ⟨wa.heap.size + 1, 0, none⟩ = false := ((hfwc _ 0 (by first | (with_reducible assumption) | (simp; done) | (simp; omega)) hn1wa).trans (by first | (with_reducible assumption) | (simp (maxDischargeDepth := 9) [go_sem, *]; done)))
    have y1wc : wc.cell? ⟨wa.heap.size + 1, 1, none⟩ = some (.int .i64 t) := ((hcwc _ 1 (by first | (with_reducible assumption) | (simp; done) | (simp; omega)) hn1wa).trans (by first | (with_reducible assumption) | (simp (maxDischargeDepth := 9) [go_sem, *]; done)))
    have yf1wc : wc.frozen? ⟨wa.heap.size + 1, 1, none⟩ = false := ((hfwc _ 1 (by first | (with_reducible assumption) | (simp; done) | (simp; omega)) hn1wa).trans (by first | (with_reducible assumption) | (simp (maxDischargeDepth := 9) [go_sem, *]; done)))
    have y2wc : wc.cell? ⟨wa.heap.size + 1, 2, none⟩ = some (.int .i64 k) := ((hcwc _ 2 (by first | (with_reducible assumption) | (simp; done) | (simp; omega)) hn1wa).trans (by first | (with_reducible assumption) | (simp (maxDischargeDepth := 9) [go_sem, *]; done)))
    have yf2wc : wc.frozen? ⟨wa.heap.size + 1, 2, none⟩ = false := ((hfwc _ 2 (by first | (with_reducible assumption) | (simp; done) | (simp; omega)) hn1wa).trans (by first | (with_reducible assumption) | (simp (maxDischargeDepth := 9) [go_sem, *]; done)))
    have y3wc : wc.cell? ⟨wa.heap.size + 1, 3, none⟩ = some (.int .i64 v) := ((hcwc _ 3 (by first | (with_reducible assumption) | (simp; done) | (simp; omega)) hn1wa).trans (by first | (with_reducible assumption) | (simp (maxDischargeDepth := 9) [go_sem, *]; done)))
    have yf3wc : wc.frozen? ⟨wa.heap.size + 1, 3, none⟩ = false := ((hfwc _ 3 (by first | (with_reducible assumption) | (simp; done) | (simp; omega)) hn1wa).trans (by first | (with_reducible assumption) | (simp (maxDischargeDepth := 9) [go_sem, *]; done)))
    have y4wc : wc.cell? ⟨wa.heap.size + 1, 4, none⟩ = some (.int .i64 0) := ((hcwc _ 4 (by first | (with_reducible assumption) | (simp; done) | (simp; omega)) hn1wa).trans (by first | (with_reducible assumption) | (simp (maxDischargeDepth := 9) [go_sem, *]; done)))
    have yf4wc : wc.frozen? ⟨wa.heap.size + 1, 4, none⟩ = false := ((hfwc _ 4 (by first | (with_reducible assumption) | (simp; done) | (simp; omega)) hn1wa).trans (by first | (with_reducible assumption) | (simp (maxDischargeDepth := 9) [go_sem, *]; done)))
    have y5wc : wc.cell? ⟨wa.heap.size + 1, 5, none⟩ = some (.int .i64 (t - t % 5)) := ((hcwc _ 5 (by first | (with_reducible assumption) | (simp; done) | (simp; omega)) hn1wa).trans (by first | (with_reducible assumption) | (simp (maxDischargeDepth := 9) [go_sem, *]; done)))
    have yf5wc : wc.frozen? ⟨wa.heap.size + 1, 5, none⟩ = false := ((hfwc _ 5 (by first | (with_reducible assumption) | (simp; done) | (simp; omega)) hn1wa).trans (by first | (with_reducible assumption) | (simp (maxDischargeDepth := 9) [go_sem, *]; done)))
    have y6wc : wc.cell? ⟨wa.heap.size + 1, 6, none⟩ = some (.int .i64 (t - t % 5 + 5)) := ((hcwc _ 6 (by first | (with_reducible assumption) | (simp; done) | (simp; omega)) hn1wa).trans (by first | (with_reducible assumption) | (simp (maxDischargeDepth := 9) [go_sem, *]; done)))
    have yf6wc : wc.frozen? ⟨wa.heap.size + 1, 6, none⟩ = false := ((hfwc _ 6 (by first | (with_reducible assumption) | (simp; done) | (simp; omega)) hn1wa).trans (by first | (with_reducible assumption) | (simp (maxDischargeDepth := 9) [go_sem, *]; done)))
    have hn2wc : wc.heap.size + 1 ≠ R := (by omega)
    by_cases hy : y = 0
    · subst hy
      go_wp2_with fail
      (with_reducible refine (item_any R a len cap (p + 6) 2 _ (by omega) (by omega) (by omega) (by first | (with_reducible assumption) | (simp; done) | (simp; omega)) ((unhide rwc).kpS hRwc (by repeat (first | (with_reducible exact Below.refl _ _) | (with_reducible refine Below.setCell ?_ (by first | (simp; omega) | omega) _) | (with_reducible refine up_alloc ?_ (by first | omega | (simp; omega)) _) | (with_reducible refine Below.drew ?_))))).mono ?_)
      rintro e wd ⟨q1, t1, k1, v1, n1, rfl, kwd, pd, hpd, qwd⟩
      have rwd := hide qwd
      clear qwd
      have zwd := kwd.low.size
      have hRwd : R < wd.heap.size := (by have h9 := kwd.low.size; (try simp at h9); omega)
      have hnwd : wd.heap.size ≠ R := (by omega)
      have hcwd := (fun b o hb hn => kwd.cell (b := b) (o := o) hb hn)
      have hfwd := (fun b o hb hn => kwd.frozen (b := b) (o := o) hb hn)
      have xzwd : w.heap.size < wd.heap.size := (by (try simp at zwd); omega)
      have xywd : w.heap.size ≤ wd.heap.size := (by omega)
      have x0wd : wd.cell? ⟨w.heap.size, 0, none⟩ = some (.int .i64 0) := ((hcwd _ 0 (by first | (with_reducible assumption) | (simp; done) | (simp; omega)) hn0).trans (by first | (with_reducible assumption) | (simp (maxDischargeDepth := 9) [go_sem, *]; done)))
      have xf0wd : wd.frozen? ⟨w.heap.size, 0, none⟩ = false := ((hfwd _ 0 (by first | (with_reducible assumption) | (simp; done) | (simp; omega)) hn0).trans (by first | (with_reducible assumption) | (simp (maxDischargeDepth := 9) [go_sem, *]; done)))
      have x1wd : wd.cell? ⟨w.heap.size, 1, none⟩ = some (.int .i64 0) := ((hcwd _ 1 (by first | (with_reducible assumption) | (simp; done) | (simp; omega)) hn0).trans (by first | (with_reducible assumption) | (simp (maxDischargeDepth := 9) [go_sem, *]; done)))
      have xf1wd : wd.frozen? ⟨w.heap.size, 1, none⟩ = false := ((hfwd _ 1 (by first | (with_reducible assumption) | (simp; done) | (simp; omega)) hn0).trans (by first | (with_reducible assumption) | (simp (maxDischargeDepth := 9) [go_sem, *]; done)))
      have x2wd : wd.cell? ⟨w.heap.size, 2, none⟩ = some (.int .i64 0) := ((hcwd _ 2 (by first | (with_reducible assumption) | (simp; done) | (simp; omega)) hn0).trans (by first | (with_reducible assumption) | (simp (maxDischargeDepth := 9) [go_sem, *]; done)))
      have xf2wd : wd.frozen? ⟨w.heap.size, 2, none⟩ = false := ((hfwd _ 2 (by first | (with_reducible assumption) | (simp; done) | (simp; omega)) hn0).trans (by first | (with_reducible assumption) | (simp (maxDischargeDepth := 9) [go_sem, *]; done)))
      have x3wd : wd.cell? ⟨w.heap.size, 3, none⟩ = some (.int .i64 0) := ((hcwd _ 3 (by first | (with_reducible assumption) | (simp; done) | (simp; omega)) hn0).trans (by first | (with_reducible assumption) | (simp (maxDischargeDepth := 9) [go_sem, *]; done)))
      have xf3wd : wd.frozen? ⟨w.heap.size, 3, none⟩ = false := ((hfwd _ 3 (by first | (with_reducible assumption) | (simp; done) | (simp; omega)) hn0).trans (by first | (with_reducible assumption) | (simp (maxDischargeDepth := 9) [go_sem, *]; done)))
      have x4wd : wd.cell? ⟨w.heap.size, 4, none⟩ = some (.int .i64 0) := ((hcwd _ 4 (by first | (with_reducible assumption) | (simp; done) | (simp; omega)) hn0).trans (by first | (with_reducible assumption) | (simp (maxDischargeDepth := 9) [go_sem, *]; done)))
      have xf4wd : wd.frozen? ⟨w.heap.size, 4, none⟩ = false := ((hfwd _ 4 (by first | (with_reducible assumption) | (simp; done) | (simp; omega)) hn0).trans (by first | (with_reducible assumption) | (simp (maxDischargeDepth := 9) [go_sem, *]; done)))
      have x5wd : wd.cell? ⟨w.heap.size, 5, none⟩ = some (.int .i64 0) := ((hcwd _ 5 (by first | (with_reducible assumption) | (simp; done) | (simp; omega)) hn0).trans (by first | (with_reducible assumption) | (simp (maxDischargeDepth := 9) [go_sem, *]; done)))
      have xf5wd : wd.frozen? ⟨w.heap.size, 5, none⟩ = false := ((hfwd _ 5 (by first | (with_reducible assumption) | (simp; done) | (simp; omega)) hn0).trans (by first | (with_reducible assumption) | (simp (maxDischargeDepth := 9) [go_sem, *]; done)))
      have x6wd : wd.cell? ⟨w.heap.size, 6, none⟩ = some (.int .i64 0) := ((hcwd _ 6 (by first | (with_reducible assumption) | (simp; done) | (simp; omega)) hn0).trans (by first | (with_reducible assumption) | (simp (maxDischargeDepth := 9) [go_sem, *]; done)))
      have xf6wd : wd.frozen? ⟨w.heap.size, 6, none⟩ = false := ((hfwd _ 6 (by first | (with_reducible assumption) | (simp; done) | (simp; omega)) hn0).trans (by first | (with_reducible assumption) | (simp (maxDischargeDepth := 9) [go_sem, *]; done)))
      have yzwd : wa.heap.size + 1 < wd.heap.size := (by (try simp at zwd); omega)
      have yywd : wa.heap.size + 1 ≤ wd.heap.size := (by omega)
      have y0wd : wd.cell? ⟨wa.heap.size + 1, 0, none⟩ = some (.int .i64 1) := ((hcwd _ 0 (by first | (with_reducible assumption) | (simp; done) | (simp; omega)) hn1wa).trans (by first | (with_reducible assumption) | (simp (maxDischargeDepth := 9) [go_sem, *]; done)))
      have yf0wd : wd.frozen? ⟨wa.heap.size + 1, 0, none⟩ = false := ((hfwd _ 0 (by first | (with_reducible assumption) | (simp; done) | (simp; omega)) hn1wa).trans (by first | (with_reducible assumption) | (simp (maxDischargeDepth := 9) [go_sem, *]; done)))
      have y1wd : wd.cell? ⟨wa.heap.size + 1, 1, none⟩ = some (.int .i64 t) := ((hcwd _ 1 (by first | (with_reducible assumption) | (simp; done) | (simp; omega)) hn1wa).trans (by first | (with_reducible assumption) | (simp (maxDischargeDepth := 9) [go_sem, *]; done)))
      have yf1wd : wd.frozen? ⟨wa.heap.size + 1, 1, none⟩ = false := ((hfwd _ 1 (by first | (with_reducible assumption) | (simp; done) | (simp; omega)) hn1wa).trans (by first | (with_reducible assumption) | (simp (maxDischargeDepth := 9) [go_sem, *]; done)))
      have y2wd : wd.cell? ⟨wa.heap.size + 1, 2, none⟩ = some (.int .i64 k) := ((hcwd _ 2 (by first | (with_reducible assumption) | (simp; done) | (simp; omega)) hn1wa).trans (by first | (with_reducible assumption) | (simp (maxDischargeDepth := 9) [go_sem, *]; done)))
      have yf2wd : wd.frozen? ⟨wa.heap.size + 1, 2, none⟩ = false := ((hfwd _ 2 (by first | (with_reducible assumption) | (simp; done) | (simp; omega)) hn1wa).trans (by first | (with_reducible assumption) | (simp (maxDischargeDepth := 9) [go_sem, *]; done)))
      have y3wd : wd.cell? ⟨wa.heap.size + 1, 3, none⟩ = some (.int .i64 v) := ((hcwd _ 3 (by first | (with_reducible assumption) | (simp; done) | (simp; omega)) hn1wa).trans (by first | (with_reducible assumption) | (simp (maxDischargeDepth := 9) [go_sem, *]; done)))
      have yf3wd : wd.frozen? ⟨wa.heap.size + 1, 3, none⟩ = false := ((hfwd _ 3 (by first | (with_reducible assumption) | (simp; done) | (simp; omega)) hn1wa).trans (by first | (with_reducible assumption) | (simp (maxDischargeDepth := 9) [go_sem, *]; done)))
      have y4wd : wd.cell? ⟨wa.heap.size + 1, 4, none⟩ = some (.int .i64 0) := ((hcwd _ 4 (by first | (with_reducible assumption) | (simp; done) | (simp; omega)) hn1wa).trans (by first | (with_reducible assumption) | (simp (maxDischargeDepth := 9) [go_sem, *]; done)))
      have yf4wd : wd.frozen? ⟨wa.heap.size + 1, 4, none⟩ = false := ((hfwd _ 4 (by first | (with_reducible assumption) | (simp; done) | (simp; omega)) hn1wa).trans (by first | (with_reducible assumption) | (simp (maxDischargeDepth := 9) [go_sem, *]; done)))
      have y5wd : wd.cell? ⟨wa.heap.size + 1, 5, none⟩ = some (.int .i64 (t - t % 5)) := ((hcwd _ 5 (by first | (with_reducible assumption) | (simp; done) | (simp; omega)) hn1wa).trans (by first | (with_reducible assumption) | (simp (maxDischargeDepth := 9) [go_sem, *]; done)))
      have yf5wd : wd.frozen? ⟨wa.heap.size + 1, 5, none⟩ = false := ((hfwd _ 5 (by first | (with_reducible assumption) | (simp; done) | (simp; omega)) hn1wa).trans (by first | (with_reducible assumption) | (simp (maxDischargeDepth := 9) [go_sem, *]; done)))
      have y6wd : wd.cell? ⟨wa.heap.size + 1, 6, none⟩ = some (.int .i64 (t - t % 5 + 5)) := ((hcwd _ 6 (by first | (with_reducible assumption) | (simp; done) | (simp; omega)) hn1wa).trans (by first | (with_reducible assumption) | (simp (maxDischargeDepth := 9) [go_sem, *]; done)))
      have yf6wd : wd.frozen? ⟨wa.heap.size + 1, 6, none⟩ = false := ((hfwd _ 6 (by first | (with_reducible assumption) | (simp; done) | (simp; omega)) hn1wa).trans (by first | (with_reducible assumption) | (simp (maxDischargeDepth := 9) [go_sem, *]; done)))
      have hn2wd : wd.heap.size + 1 ≠ R := (by omega)
      go_wp2
      refine bodyPost_ret (v := .agg #[.int .i64 q1, .int .i64 t1, .int .i64 k1, .int .i64 v1, .int .i64 n1, .int .i64 (t - t % 5), .int .i64 (t - t % 5 + 5)]) (by simp (maxDischargeDepth := 9) [results, Try.results27, go_sem, *]) rfl ⟨q1, t1, k1, v1, n1, (t - t % 5), (t - t % 5 + 5), rfl, (by repeat (first | (with_reducible refine kp_setN ?_ (by first | (simp; done) | (simp; omega)) (by with_reducible assumption) _) | (with_reducible assumption) | (with_reducible exact Kp.refl _ _) | (with_reducible refine kp_set ?_ _) | (with_reducible refine kp_alloc (by with_reducible assumption) ?_ _) | (with_reducible refine kp_drew ?_) | (with_reducible refine kp_drewN ?_ _) | (with_reducible refine Kp.trans ?_ (by with_reducible assumption)))), pd, by omega, (unhide rwd).up (by repeat (first | (with_reducible exact Below.refl _ _) | (with_reducible refine Below.setCell ?_ (by first | (simp; omega) | omega) _) | (with_reducible refine up_alloc ?_ (by first | omega | (simp; omega)) _) | (with_reducible refine Below.drew ?_)))⟩
    · have hy' : (y == 0) = false := beq_eq_false_iff_ne.2 hy
      go_wp2_with fail
      (with_reducible refine (win_any R a len cap (p + 6) 2 _ (by omega) (by omega) (by omega) (by first | (with_reducible assumption) | (simp; done) | (simp; omega)) ((unhide rwc).kpS hRwc (by repeat (first | (with_reducible exact Below.refl _ _) | (with_reducible refine Below.setCell ?_ (by first | (simp; omega) | omega) _) | (with_reducible refine up_alloc ?_ (by first | omega | (simp; omega)) _) | (with_reducible refine Below.drew ?_))))).mono ?_)
      rintro e wd ⟨s1, e1, rfl, bs, be, kwd, pd, hpd, qwd⟩
      have rwd := hide qwd
      clear qwd
      have zwd := kwd.low.size
      have hRwd : R < wd.heap.size := (by have h9 := kwd.low.size; (try simp at h9); omega)
      have hnwd : wd.heap.size ≠ R := (by omega)
      have hcwd := (fun b o hb hn => kwd.cell (b := b) (o := o) hb hn)
      have hfwd := (fun b o hb hn => kwd.frozen (b := b) (o := o) hb hn)
      have xzwd : w.heap.size < wd.heap.size := (by (try simp at zwd); omega)
      have xywd : w.heap.size ≤ wd.heap.size := (by omega)
      have x0wd : wd.cell? ⟨w.heap.size, 0, none⟩ = some (.int .i64 0) := ((hcwd _ 0 (by first | (with_reducible assumption) | (simp; done) | (simp; omega)) hn0).trans (by first | (with_reducible assumption) | (simp (maxDischargeDepth := 9) [go_sem, *]; done)))
      have xf0wd : wd.frozen? ⟨w.heap.size, 0, none⟩ = false := ((hfwd _ 0 (by first | (with_reducible assumption) | (simp; done) | (simp; omega)) hn0).trans (by first | (with_reducible assumption) | (simp (maxDischargeDepth := 9) [go_sem, *]; done)))
      have x1wd : wd.cell? ⟨w.heap.size, 1, none⟩ = some (.int .i64 0) := ((hcwd _ 1 (by first | (with_reducible assumption) | (simp; done) | (simp; omega)) hn0).trans (by first | (with_reducible assumption) | (simp (maxDischargeDepth := 9) [go_sem, *]; done)))
      have xf1wd : wd.frozen? ⟨w.heap.size, 1, none⟩ = false := ((hfwd _ 1 (by first | (with_reducible assumption) | (simp; done) | (simp; omega)) hn0).trans (by first | (with_reducible assumption) | (simp (maxDischargeDepth := 9) [go_sem, *]; done)))
      have x2wd : wd.cell? ⟨w.heap.size, 2, none⟩ = some (.int .i64 0) := ((hcwd _ 2 (by first | (with_reducible assumption) | (simp; done) | (simp; omega)) hn0).trans (by first | (with_reducible assumption) | (simp (maxDischargeDepth := 9) [go_sem, *]; done)))
      have xf2wd : wd.frozen? ⟨w.heap.size, 2, none⟩ = false := ((hfwd _ 2 (by first | (with_reducible assumption) | (simp; done) | (simp; omega)) hn0).trans (by first | (with_reducible assumption) | (simp (maxDischargeDepth := 9) [go_sem, *]; done)))
      have x3wd : wd.cell? ⟨w.heap.size, 3, none⟩ = some (.int .i64 0) := ((hcwd _ 3 (by first | (with_reducible assumption) | (simp; done) | (simp; omega)) hn0).trans (by first | (with_reducible assumption) | (simp (maxDischargeDepth := 9) [go_sem, *]; done)))
      have xf3wd : wd.frozen? ⟨w.heap.size, 3, none⟩ = false := ((hfwd _ 3 (by first | (with_reducible assumption) | (simp; done) | (simp; omega)) hn0).trans (by first | (with_reducible assumption) | (simp (maxDischargeDepth := 9) [go_sem, *]; done)))
      have x4wd : wd.cell? ⟨w.heap.size, 4, none⟩ = some (.int .i64 0) := ((hcwd _ 4 (by first | (with_reducible assumption) | (simp; done) | (simp; omega)) hn0).trans (by first | (with_reducible assumption) | (simp (maxDischargeDepth := 9) [go_sem, *]; done)))
      have xf4wd : wd.frozen? ⟨w.heap.size, 4, none⟩ = false := ((hfwd _ 4 (by first | (with_reducible assumption) | (simp; done) | (simp; omega)) hn0).trans (by first | (with_reducible assumption) | (simp (maxDischargeDepth := 9) [go_sem, *]; done)))
      have x5wd : wd.cell? ⟨w.heap.size, 5, none⟩ = some (.int .i64 0) := ((hcwd _ 5 (by first | (with_reducible assumption) | (simp; done) | (simp; omega)) hn0).trans (by first | (with_reducible assumption) | (simp (maxDischargeDepth := 9) [go_sem, *]; done)))
      have xf5wd : wd.frozen? ⟨w.heap.size, 5, none⟩ = false := ((hfwd _ 5 (by first | (with_reducible assumption) | (simp; done) | (simp; omega)) hn0).trans (by first | (with_reducible assumption) | (simp (maxDischargeDepth := 9) [go_sem, *]; done)))
      have x6wd : wd.cell? ⟨w.heap.size, 6, none⟩ = some (.int .i64 0) := ((hcwd _ 6 (by first | (with_reducible assumption) | (simp; done) | (simp; omega)) hn0).trans (by first | (with_reducible assumption) | (simp (maxDischargeDepth := 9) [go_sem, *]; done)))
      have xf6wd : wd.frozen? ⟨w.heap.size, 6, none⟩ = false := ((hfwd _ 6 (by first | (with_reducible assumption) | (simp; done) | (simp; omega)) hn0).trans (by first | (with_reducible assumption) | (simp (maxDischargeDepth := 9) [go_sem, *]; done)))
      have yzwd : wa.heap.size + 1 < wd.heap.size := (by (try simp at zwd); omega)
      have yywd : wa.heap.size + 1 ≤ wd.heap.size := (by omega)
      have y0wd : wd.cell? ⟨wa.heap.size + 1, 0, none⟩ = some (.int .i64 1) := ((hcwd _ 0 (by first | (with_reducible assumption) | (simp; done) | (simp; omega)) hn1wa).trans (by first | (with_reducible assumption) | (simp (maxDischargeDepth := 9) [go_sem, *]; done)))
      have yf0wd : wd.frozen? ⟨wa.heap.size + 1, 0, none⟩ = false := ((hfwd _ 0 (by first | (with_reducible assumption) | (simp; done) | (simp; omega)) hn1wa).trans (by first | (with_reducible assumption) | (simp (maxDischargeDepth := 9) [go_sem, *]; done)))
      have y1wd : wd.cell? ⟨wa.heap.size + 1, 1, none⟩ = some (.int .i64 t) := ((hcwd _ 1 (by first | (with_reducible assumption) | (simp; done) | (simp; omega)) hn1wa).trans (by first | (with_reducible assumption) | (simp (maxDischargeDepth := 9) [go_sem, *]; done)))
      have yf1wd : wd.frozen? ⟨wa.heap.size + 1, 1, none⟩ = false := ((hfwd _ 1 (by first | (with_reducible assumption) | (simp; done) | (simp; omega)) hn1wa).trans (by first | (with_reducible assumption) | (simp (maxDischargeDepth := 9) [go_sem, *]; done)))
      have y2wd : wd.cell? ⟨wa.heap.size + 1, 2, none⟩ = some (.int .i64 k) := ((hcwd _ 2 (by first | (with_reducible assumption) | (simp; done) | (simp; omega)) hn1wa).trans (by first | (with_reducible assumption) | (simp (maxDischargeDepth := 9) [go_sem, *]; done)))
      have yf2wd : wd.frozen? ⟨wa.heap.size + 1, 2, none⟩ = false := ((hfwd _ 2 (by first | (with_reducible assumption) | (simp; done) | (simp; omega)) hn1wa).trans (by first | (with_reducible assumption) | (simp (maxDischargeDepth := 9) [go_sem, *]; done)))
      have y3wd : wd.cell? ⟨wa.heap.size + 1, 3, none⟩ = some (.int .i64 v) := ((hcwd _ 3 (by first | (with_reducible assumption) | (simp; done) | (simp; omega)) hn1wa).trans (by first | (with_reducible assumption) | (simp (maxDischargeDepth := 9) [go_sem, *]; done)))
      have yf3wd : wd.frozen? ⟨wa.heap.size + 1, 3, none⟩ = false := ((hfwd _ 3 (by first | (with_reducible assumption) | (simp; done) | (simp; omega)) hn1wa).trans (by first | (with_reducible assumption) | (simp (maxDischargeDepth := 9) [go_sem, *]; done)))
      have y4wd : wd.cell? ⟨wa.heap.size + 1, 4, none⟩ = some (.int .i64 0) := ((hcwd _ 4 (by first | (with_reducible assumption) | (simp; done) | (simp; omega)) hn1wa).trans (by first | (with_reducible assumption) | (simp (maxDischargeDepth := 9) [go_sem, *]; done)))
      have yf4wd : wd.frozen? ⟨wa.heap.size + 1, 4, none⟩ = false := ((hfwd _ 4 (by first | (with_reducible assumption) | (simp; done) | (simp; omega)) hn1wa).trans (by first | (with_reducible assumption) | (simp (maxDischargeDepth := 9) [go_sem, *]; done)))
      have y5wd : wd.cell? ⟨wa.heap.size + 1, 5, none⟩ = some (.int .i64 (t - t % 5)) := ((hcwd _ 5 (by first | (with_reducible assumption) | (simp; done) | (simp; omega)) hn1wa).trans (by first | (with_reducible assumption) | (simp (maxDischargeDepth := 9) [go_sem, *]; done)))
      have yf5wd : wd.frozen? ⟨wa.heap.size + 1, 5, none⟩ = false := ((hfwd _ 5 (by first | (with_reducible assumption) | (simp; done) | (simp; omega)) hn1wa).trans (by first | (with_reducible assumption) | (simp (maxDischargeDepth := 9) [go_sem, *]; done)))
      have y6wd : wd.cell? ⟨wa.heap.size + 1, 6, none⟩ = some (.int .i64 (t - t % 5 + 5)) := ((hcwd _ 6 (by first | (with_reducible assumption) | (simp; done) | (simp; omega)) hn1wa).trans (by first | (with_reducible assumption) | (simp (maxDischargeDepth := 9) [go_sem, *]; done)))
      have yf6wd : wd.frozen? ⟨wa.heap.size + 1, 6, none⟩ = false := ((hfwd _ 6 (by first | (with_reducible assumption) | (simp; done) | (simp; omega)) hn1wa).trans (by first | (with_reducible assumption) | (simp (maxDischargeDepth := 9) [go_sem, *]; done)))
      have hn2wd : wd.heap.size + 1 ≠ R := (by omega)
      go_wp2
      refine bodyPost_ret (v := .agg #[.int .i64 1, .int .i64 t, .int .i64 k, .int .i64 v, .int .i64 0, .int .i64 s1, .int .i64 e1]) (by simp (maxDischargeDepth := 9) [results, Try.results27, go_sem, *]) rfl ⟨1, t, k, v, 0, s1, e1, rfl, (by repeat (first | (with_reducible refine kp_setN ?_ (by first | (simp; done) | (simp; omega)) (by with_reducible assumption) _) | (with_reducible assumption) | (with_reducible exact Kp.refl _ _) | (with_reducible refine kp_set ?_ _) | (with_reducible refine kp_alloc (by with_reducible assumption) ?_ _) | (with_reducible refine kp_drew ?_) | (with_reducible refine kp_drewN ?_ _) | (with_reducible refine Kp.trans ?_ (by with_reducible assumption)))), pd, by omega, (unhide rwd).up (by repeat (first | (with_reducible exact Below.refl _ _) | (with_reducible refine Below.setCell ?_ (by first | (simp; omega) | omega) _) | (with_reducible refine up_alloc ?_ (by first | omega | (simp; omega)) _) | (with_reducible refine Below.drew ?_)))⟩
  · have hz' : (z == 0) = false := beq_eq_false_iff_ne.2 hz
    go_wp2
    refine bodyPost_ret (v := .agg #[.int .i64 1, .int .i64 t, .int .i64 k, .int .i64 v, .int .i64 0, .int .i64 (t - t % 5), .int .i64 (t - t % 5 + 5)]) (by simp (maxDischargeDepth := 9) [results, Try.results27, go_sem, *]) rfl ⟨1, t, k, v, 0, (t - t % 5), (t - t % 5 + 5), rfl, (by repeat (first | (with_reducible refine kp_setN ?_ (by first | (simp; done) | (simp; omega)) (by with_reducible assumption) _) | (with_reducible assumption) | (with_reducible exact Kp.refl _ _) | (with_reducible refine kp_set ?_ _) | (with_reducible refine kp_alloc (by with_reducible assumption) ?_ _) | (with_reducible refine kp_drew ?_) | (with_reducible refine kp_drewN ?_ _) | (with_reducible refine Kp.trans ?_ (by with_reducible assumption)))), (p + 5), by omega, (unhide rwb).up (by repeat (first | (with_reducible exact Below.refl _ _) | (with_reducible refine Below.setCell ?_ (by first | (simp; omega) | omega) _) | (with_reducible refine up_alloc ?_ (by first | omega | (simp; omega)) _) | (with_reducible refine Below.drew ?_)))⟩

theorem ownKp {R : Nat} {W W' : World} {e : TypeId} {size n : Nat} {v : Value} {xs : List Value} (h : W.ownsRow (R + 1) e size v n xs) (hb : Kp R W W') : W'.ownsRow (R + 1) e size v n xs := by
  rcases h with ⟨hl, h | ⟨g, cap, cur, hv, hB, hblk, r⟩⟩
  · exact ⟨hl, Or.inl h⟩
  · exact ⟨hl, Or.inr ⟨g, cap, cur, hv, hB, (hb.all g (Array.getElem?_eq_some_iff.1 hblk).1 (by omega)).trans hblk, r⟩⟩
/-- Pairs that are drawn of a code, in new memory. -/
def LatsD (w : World) (e : Ending) (w' : World) : Prop := ∃ (v : Value) (xs : List LpR), e = .returned v ∧ OwnLp w' w.heap.size v xs ∧ xs.length ≤ 5 ∧ Below w.heap.size w w'

set_option maxRecDepth 20000 in
set_option maxHeartbeats 2000000 in
theorem drawlat_any (a : Option Addr) (len cap : Nat) (w : World) (hlc : len ≤ cap) (hlm : len ≤ 1048576) (hb : BytesAt w a len) (hl : ∀ g o, a = some ⟨g, o, none⟩ → 0 < len → g < w.heap.size) (hn : a = none → cap = 0) : Calls Try.prog 7 #[.slice a len cap] w fun e w' => LatsD w e w' := by
  obtain ⟨i0, hi, hz0, hz1, hz2⟩ := info_parts Try.infoLp
  go_enter Try.func7, Try.ntmps7
  go_wp2_with fail
  refine (open_any a len cap _ hlc hlm hb hl hn).mono ?_
  rintro e w1 ⟨R, len', cap', rfl, h1, h2, hb1, hr⟩
  clear hb hl hn
  have r1 := hide hr
  clear hr
  go_wp2_with fail
  (with_reducible refine (pick_any R a len' cap' 0 5 _ (by omega) (by omega) ((unhide r1).kpS h2 (by repeat (first | (with_reducible exact Below.refl _ _) | (with_reducible refine Below.setCell ?_ (by first | (simp; omega) | omega) _) | (with_reducible refine up_alloc ?_ (by first | omega | (simp; omega)) _) | (with_reducible refine Below.drew ?_))))).mono ?_)
  rintro e w2 ⟨x, rfl, bx1, bx2, k2, q2⟩
  have r2 := hide (q2 (by omega))
  clear q2
  obtain ⟨xn, rfl⟩ : ∃ xn : Nat, x = (xn : Int) := ⟨x.toNat, by omega⟩
  have hK0 : Below R w1 w2 := (up_alloc (Below.refl R w1) (by omega) _).trans k2.low
  have hst : Below w.heap.size w w2 := hb1.trans (hK0.mono h1)
  have hR2 : R < w2.heap.size := by have h9 := hK0.size; omega
  have hO0 : OwnLp w2 (R + 1) (.slice (some ⟨w1.heap.size, 0, none⟩) 0 0) [] := ownKp (ownLit (W := w1) (B := R + 1) _ _ (by omega) rfl) k2
  clear k2 hK0 hb1 r1
  go_wp2
  go_loopw [4, 5] (fun v' i wr => ∃ (j : Nat) (xs : List LpR) (p' : Nat), i = .int .i64 j ∧ xs.length + j ≤ 5 ∧ p' + 31 * j ≤ 200 ∧ OwnLp wr (R + 1) v' xs ∧ Hid (Rd R wr a len' cap' p') ∧ R < wr.heap.size ∧ Below w.heap.size w wr) (fun _ i _ => (intOf i).toNat)
  case atStart => exact ⟨xn, [], 1, rfl, by simp; omega, by omega, hO0, r2, hR2, hst⟩
  case round =>
    obtain ⟨j, xs, p', rfl, hj, hp', hO, rd, hRr, hbw⟩ := hrel
    clear hst hO0 r2 hR2
    have HO := hide hO
    have hge := hide (ownLp_ge hO)
    clear hO
    by_cases hj0 : 0 < j
    · obtain ⟨j', rfl⟩ : ∃ j', j = j' + 1 := ⟨j - 1, by omega⟩
      go_wp2_with (first
        | (go_at_call 27; refine (late_any R a len' cap' p' 8 _ (by omega) (by omega) (by omega) hRr (unhide rd)).mono ?_; rintro e w4 ⟨q, t, k, v, nn, st, en, rfl, k4, p4, hp4, r4'⟩; have r4 := hide r4'; clear r4'; have hR4 : R < w4.heap.size := (by have h9 := k4.low.size; omega); have HO4 := hide (ownKp (unhide HO) k4); have hb4 : Below w.heap.size w w4 := hbw.trans (k4.low.mono (by omega)))
        | (at_builtin; go_loud (refine wpList_append_own _ rfl _ _ 23 rfl (R + 1) 33 i0 _ 7 56 Try.underlying23 hi hz0 hz1 hz2 rfl (by decide) u4 _ _ rfl (World.ownsRow.alloc (unhide HO4) _) ⟨w4.heap.size, 0, none⟩ 1 1 [.int .i64 q, .int .i64 t, .int .i64 k, .int .i64 v, .int .i64 nn, .int .i64 st, .int .i64 en] rfl rfl (cells_newLp w4 q t k v nn st en _) (by simp [Value.oneCell']) (by unfold maxLen; omega) (by omega) (by simp; omega) ?_); intro v' w5 hown' hgrow _))
      have hO5 : OwnLp w5 (R + 1) v' (xs ++ [⟨q, t, k, v, nn, st, en⟩]) := ownLp_snoc hown'
      have hb5' : Below (R + 1) (w4.alloc (.cells #[.int .i64 q, .int .i64 t, .int .i64 k, .int .i64 v, .int .i64 nn, .int .i64 st, .int .i64 en] 33)) w5 := (Below.refl _ _).grown hgrow (by simp; omega) (unhide hge)
      have hb5 : Below w.heap.size w w5 := (hb4.alloc (by have h9 := hb4.size; omega) _).trans (hb5'.mono (by omega))
      have r5 : Hid (Rd R w5 a len' cap' p4) := hide ((unhide r4).up ((up_alloc (Below.refl _ _) (by omega) _).trans hb5'))
      have hR5 : R < w5.heap.size := by have h9 := hb5'.size; simp at h9; omega
      go_roundw
      case rel => exact ⟨j', xs ++ [⟨q, t, k, v, nn, st, en⟩], p4, by go_num, by simp; omega, by omega, hO5, r5, hR5, hb5⟩
      case measure => simp [intOf]
    · obtain rfl : j = 0 := by omega
      go_wp2
      go_ret
      exact ⟨_, xs, rfl, World.ownsRow.mono (unhide HO) (by omega), by omega, hbw⟩
end Go.Proofs.Ytdklefbkaoaodaa
