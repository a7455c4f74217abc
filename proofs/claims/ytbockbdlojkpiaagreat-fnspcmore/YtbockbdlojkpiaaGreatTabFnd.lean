/- Proved here: what is known of a window of a key, in the program and in the specification. -/
import Derived.Test.YtbockbdlojkpiaaGreatTabCnt
namespace Go.Proofs.YtbockbdlojkpiaaGreat
open Go.ChangeShapes Go.WideShapes Go.ChangeAt Go.RowKit
set_option linter.unusedVariables false

/-- Whether a row is of a key's window; the first such row. -/
def TbR.isB (ky st en : Int) (x : TbR) : Bool := x.ky == ky && (x.st == st && x.en == en)

def findT (ky st en : Int) (xs : List TbR) : Option TbR := xs.find? (TbR.isB ky st en)

def foundV : Option TbR → Value
  | some x => .tuple #[.agg #[.int .i64 x.n, .int .i64 x.su, .int .i64 x.le, .int .i64 x.mo], .bool true]
  | none => .tuple #[.agg #[.int .i64 0, .int .i64 0, .int .i64 0, .int .i64 0], .bool false]

theorem isB_t {ky st en : Int} {x : TbR} (h1 : x.ky = ky) (h2 : x.st = st) (h3 : x.en = en) : x.isB ky st en = true := by simp [TbR.isB, h1, h2, h3]

theorem isB_1 {ky st en : Int} {x : TbR} (h1 : ¬ x.ky = ky) : x.isB ky st en = false := by simp [TbR.isB, h1]

theorem isB_2 {ky st en : Int} {x : TbR} (h1 : ¬ x.st = st) : x.isB ky st en = false := by simp [TbR.isB, h1]

theorem isB_3 {ky st en : Int} {x : TbR} (h1 : ¬ x.en = en) : x.isB ky st en = false := by simp [TbR.isB, h1]

theorem findT_hit {ky st en : Int} {xs : List TbR} {k : Nat} {x : TbR} (hx : xs[k]? = some x) (h0 : findT ky st en (xs.take k) = none) (hb : x.isB ky st en = true) : findT ky st en xs = some x := by
  have e : xs = xs.take k ++ x :: xs.drop (k + 1) := by
    obtain ⟨hk, he⟩ := List.getElem?_eq_some_iff.1 hx
    rw [← he, List.getElem_cons_drop, List.take_append_drop]
  rw [e]
  unfold findT at h0 ⊢
  rw [List.find?_append, h0]
  simp [hb]

theorem findT_no {ky st en : Int} {xs : List TbR} {k : Nat} {x : TbR} (hx : xs[k]? = some x) (h0 : findT ky st en (xs.take k) = none) (hb : x.isB ky st en = false) : findT ky st en (xs.take (k + 1)) = none := by
  rw [take_snocT hx]
  unfold findT at h0 ⊢
  rw [List.find?_append, h0]
  simp [hb]

theorem foundV_hit {ky st en : Int} {xs : List TbR} {k : Nat} {x : TbR} (hx : xs[k]? = some x) (h0 : findT ky st en (xs.take k) = none) (hb : x.isB ky st en = true) : foundV (findT ky st en xs) = .tuple #[.agg #[.int .i64 x.n, .int .i64 x.su, .int .i64 x.le, .int .i64 x.mo], .bool true] := by rw [findT_hit hx h0 hb]; rfl

theorem ret_v {a b : Value} (h : a = b) : Ending.returned a = .returned b := by rw [h]

set_option maxHeartbeats 1000000 in
theorem specfind_any (a : Option Addr) (len cap : Nat) (xs : List TbR) (ky st en : Int) (w : World) (h : TbRs w a len xs) : Calls Tryz.prog 26 #[.slice a len cap, .int .i64 ky, .agg #[.int .i64 st, .int .i64 en]] w fun e w' => e = .returned (foundV (findT ky st en xs)) ∧ Below w.heap.size w w' := by
  have hm := h.2.1
  unfold maxLen at hm
  go_enter Tryz.func26, Tryz.ntmps26
  go_wp2
  go_loopw [8] (fun i wr => ∃ k : Nat, k ≤ len ∧ i = .int .i64 k ∧ Hid (findT ky st en (xs.take k) = none) ∧ Below ((w.alloc (.cells #[.int .i64 st, .int .i64 en] 35)).alloc (.cells #[.int .i64 0, .int .i64 0, .int .i64 0, .int .i64 0] 37)).heap.size ((w.alloc (.cells #[.int .i64 st, .int .i64 en] 35)).alloc (.cells #[.int .i64 0, .int .i64 0, .int .i64 0, .int .i64 0] 37)) wr) (fun i _ => len - (intOf i).toNat)
  case atStart => exact ⟨0, Nat.zero_le _, rfl, hide rfl, Below.refl _ _⟩
  case round =>
    obtain ⟨k, hk, rfl, hN, hbw⟩ := hrel
    have hb0 : Below w.heap.size w wr := bel_trans (bel_alloc (bel_one _ _) _) hbw
    have c0 : wr.cell? ⟨w.heap.size, 0, none⟩ = some (.int .i64 st) := (hbw.cell (p := ⟨w.heap.size, 0, none⟩) (by simp; omega)).trans (by simp [go_sem])
    have c1 : wr.cell? ⟨w.heap.size, 1, none⟩ = some (.int .i64 en) := (hbw.cell (p := ⟨w.heap.size, 1, none⟩) (by simp; omega)).trans (by simp [go_sem])
    have e0 : wr.cell? ⟨w.heap.size + 1, 0, none⟩ = some (.int .i64 0) := (hbw.cell (p := ⟨w.heap.size + 1, 0, none⟩) (by simp)).trans (by simp [go_sem])
    have e1 : wr.cell? ⟨w.heap.size + 1, 1, none⟩ = some (.int .i64 0) := (hbw.cell (p := ⟨w.heap.size + 1, 1, none⟩) (by simp)).trans (by simp [go_sem])
    have e2 : wr.cell? ⟨w.heap.size + 1, 2, none⟩ = some (.int .i64 0) := (hbw.cell (p := ⟨w.heap.size + 1, 2, none⟩) (by simp)).trans (by simp [go_sem])
    have e3 : wr.cell? ⟨w.heap.size + 1, 3, none⟩ = some (.int .i64 0) := (hbw.cell (p := ⟨w.heap.size + 1, 3, none⟩) (by simp)).trans (by simp [go_sem])
    have z0 : wr.frozen? ⟨w.heap.size + 1, 0, none⟩ = false := (hbw.frozen (p := ⟨w.heap.size + 1, 0, none⟩) (by simp)).trans (by simp [go_sem])
    have z1 : wr.frozen? ⟨w.heap.size + 1, 1, none⟩ = false := (hbw.frozen (p := ⟨w.heap.size + 1, 1, none⟩) (by simp)).trans (by simp [go_sem])
    have z2 : wr.frozen? ⟨w.heap.size + 1, 2, none⟩ = false := (hbw.frozen (p := ⟨w.heap.size + 1, 2, none⟩) (by simp)).trans (by simp [go_sem])
    have z3 : wr.frozen? ⟨w.heap.size + 1, 3, none⟩ = false := (hbw.frozen (p := ⟨w.heap.size + 1, 3, none⟩) (by simp)).trans (by simp [go_sem])
    have hzb : w.heap.size + 1 < wr.heap.size := by have := hbw.size; simp at this; omega
    by_cases hlt : k < len
    · obtain ⟨hxl, _, hx⟩ := h
      obtain ⟨g, o, rfl, hr⟩ := hx.resolve_left (by omega)
      obtain ⟨x, hxk⟩ : ∃ x, xs[k]? = some x := ⟨_, List.getElem?_eq_getElem (by omega)⟩
      have hg : g < w.heap.size := hr.lt (by omega)
      have hX := hide hxk
      obtain ⟨d0, d1, d2, d3, d4, d5, d6⟩ := (hr k _ hxk).below hb0 hg
      clear hx hxk
      by_cases k1 : x.ky = ky
      · by_cases k2 : x.st = st
        · by_cases k3 : x.en = en
          · have hB := isB_t k1 k2 k3
            have hV := hide (foundV_hit (unhide hX) (unhide hN) hB)
            clear hB
            go_wp2
            go_quiet (fail)
            go_wp2
            show bodyPost _ _ _ _ _ _
            refine bodyPost_ret (v := .tuple #[.agg #[.int .i64 x.n, .int .i64 x.su, .int .i64 x.le, .int .i64 x.mo], .bool true]) (by simp (maxDischargeDepth := 9) [results, Tryz.results26, go_sem, *]) rfl ⟨ret_v (unhide hV).symm, ?_⟩
            exact (by repeat (first | (with_reducible refine bel_set ?_ (by first | (simp; done) | (simp; omega)) _) | (with_reducible refine bel_alloc ?_ _) | (with_reducible exact Below.refl _ _) | (with_reducible assumption) | (with_reducible refine bel_drew ?_) | (with_reducible refine bel_drewN ?_ _) | (with_reducible refine bel_trans ?_ (by with_reducible assumption))))
          · have hB := isB_3 (ky := ky) (st := st) k3
            have k3' : (x.en == en) = false := by simpa using k3
            have hN' := hide (findT_no (unhide hX) (unhide hN) hB)
            clear hB
            go_wp2
            go_quiet (fail)
            go_wp2
            go_roundw
            case rel => exact ⟨k + 1, by omega, by go_num, hN', (by repeat (first | (with_reducible refine bel_set ?_ (by first | (simp; done) | (simp; omega)) _) | (with_reducible refine bel_alloc ?_ _) | (with_reducible exact Below.refl _ _) | (with_reducible assumption) | (with_reducible refine bel_drew ?_) | (with_reducible refine bel_drewN ?_ _) | (with_reducible refine bel_trans ?_ (by with_reducible assumption))))⟩
            case measure => simp [intOf]; omega
        · have hB := isB_2 (ky := ky) (en := en) k2
          have k2' : (x.st == st) = false := by simpa using k2
          have hN' := hide (findT_no (unhide hX) (unhide hN) hB)
          clear hB
          go_wp2
          go_quiet (fail)
          go_wp2
          go_roundw
          case rel => exact ⟨k + 1, by omega, by go_num, hN', (by repeat (first | (with_reducible refine bel_set ?_ (by first | (simp; done) | (simp; omega)) _) | (with_reducible refine bel_alloc ?_ _) | (with_reducible exact Below.refl _ _) | (with_reducible assumption) | (with_reducible refine bel_drew ?_) | (with_reducible refine bel_drewN ?_ _) | (with_reducible refine bel_trans ?_ (by with_reducible assumption))))⟩
          case measure => simp [intOf]; omega
      · have hB := isB_1 (st := st) (en := en) k1
        have k1' : (x.ky == ky) = false := by simpa using k1
        have hN' := hide (findT_no (unhide hX) (unhide hN) hB)
        clear hB
        go_wp2
        go_quiet (fail)
        go_wp2
        go_roundw
        case rel => exact ⟨k + 1, by omega, by go_num, hN', (by repeat (first | (with_reducible refine bel_set ?_ (by first | (simp; done) | (simp; omega)) _) | (with_reducible refine bel_alloc ?_ _) | (with_reducible exact Below.refl _ _) | (with_reducible assumption) | (with_reducible refine bel_drew ?_) | (with_reducible refine bel_drewN ?_ _) | (with_reducible refine bel_trans ?_ (by with_reducible assumption))))⟩
        case measure => simp [intOf]; omega

    · have hV : Hid (foundV (findT ky st en xs) = .tuple #[.agg #[.int .i64 0, .int .i64 0, .int .i64 0, .int .i64 0], .bool false]) := hide (by have e := unhide hN; rw [List.take_of_length_le (by have := h.1; omega)] at e; rw [e]; rfl)
      go_wp2
      show bodyPost _ _ _ _ _ _
      refine bodyPost_ret (v := .tuple #[.agg #[.int .i64 0, .int .i64 0, .int .i64 0, .int .i64 0], .bool false]) (by simp (maxDischargeDepth := 9) [results, Tryz.results26, go_sem, *]) rfl ⟨ret_v (unhide hV).symm, ?_⟩
      exact (by repeat (first | (with_reducible refine bel_set ?_ (by first | (simp; done) | (simp; omega)) _) | (with_reducible refine bel_alloc ?_ _) | (with_reducible exact Below.refl _ _) | (with_reducible assumption) | (with_reducible refine bel_drew ?_) | (with_reducible refine bel_drewN ?_ _) | (with_reducible refine bel_trans ?_ (by with_reducible assumption))))

theorem rowplace_any (ky st en n su le mo : Int) (w : World) : Calls Tryz.prog 34 #[.agg #[.int .i64 ky, .int .i64 st, .int .i64 en, .int .i64 n, .int .i64 su, .int .i64 le, .int .i64 mo]] w fun e w' => e = .returned (.agg #[.int .i64 ky, .int .i64 st, .int .i64 en]) ∧ Below w.heap.size w w' := by
  go_enter Tryz.func34, Tryz.ntmps34
  go_wp2
  refine bodyPost_ret (v := .agg #[.int .i64 ky, .int .i64 st, .int .i64 en]) (by simp [results, Tryz.results34, go_sem]) rfl ⟨rfl, ?_⟩
  exact (by repeat (first | (with_reducible refine bel_set ?_ (by first | (simp; done) | (simp; omega)) _) | (with_reducible refine bel_alloc ?_ _) | (with_reducible exact Below.refl _ _) | (with_reducible assumption) | (with_reducible refine bel_drew ?_) | (with_reducible refine bel_drewN ?_ _) | (with_reducible refine bel_trans ?_ (by with_reducible assumption))))

end Go.Proofs.YtbockbdlojkpiaaGreat
