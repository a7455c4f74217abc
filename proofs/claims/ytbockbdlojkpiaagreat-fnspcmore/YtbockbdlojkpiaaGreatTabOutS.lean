/- Proved here: the rows of (or without those of) a window of a key, in the specification. -/
import Derived.Test.YtbockbdlojkpiaaGreatTabFnd
import Derived.Test.YtbockbdlojkpiaaGreatRwaTab
import Derived.Test.YtbockbdlojkpiaaGreatOwnB
import Derived.Deep.Onto
namespace Go.Proofs.YtbockbdlojkpiaaGreat
open Go.ChangeShapes Go.WideShapes Go.ChangeAt Go.RowKit
set_option linter.unusedVariables false

theorem isTb_t {ky st en : Int} {x : TbR} (h1 : x.ky = ky) (h2 : x.st = st) (h3 : x.en = en) : x.isB ky st en = true := isB_t h1 h2 h3
theorem isTb_1 {ky st en : Int} {x : TbR} (h1 : ¬ x.ky = ky) : x.isB ky st en = false := isB_1 h1
theorem isTb_2 {ky st en : Int} {x : TbR} (h1 : ¬ x.st = st) : x.isB ky st en = false := isB_2 h1
theorem isTb_3 {ky st en : Int} {x : TbR} (h1 : ¬ x.en = en) : x.isB ky st en = false := isB_3 h1
theorem take_snocTb {α : Type} {xs : List α} {k : Nat} {x : α} (h : xs[k]? = some x) : xs.take (k + 1) = xs.take k ++ [x] := take_snocT h
/-- The rows that are kept. -/
def kpTb (ky st en : Int) (xs : List TbR) : List TbR := xs.filter fun x => !TbR.isB ky st en x
theorem kpTb_in {ky st en : Int} {xs : List TbR} {k : Nat} {x : TbR} (h : xs[k]? = some x) (hb : x.isB ky st en = false) : kpTb ky st en (xs.take (k + 1)) = kpTb ky st en (xs.take k) ++ [x] := by
  unfold kpTb
  rw [take_snocTb h, List.filter_append]
  simp [hb]
theorem kpTb_no {ky st en : Int} {xs : List TbR} {k : Nat} {x : TbR} (h : xs[k]? = some x) (hb : x.isB ky st en = true) : kpTb ky st en (xs.take (k + 1)) = kpTb ky st en (xs.take k) := by
  unfold kpTb
  rw [take_snocTb h, List.filter_append]
  simp [hb]
theorem kpTb_len (ky st en : Int) (xs : List TbR) (k : Nat) : (kpTb ky st en (xs.take k)).length ≤ k := Nat.le_trans (List.length_filter_le _ _) (List.length_take_le _ _)
theorem kpTb_le (ky st en : Int) (xs : List TbR) : (kpTb ky st en xs).length ≤ xs.length := List.length_filter_le _ _
theorem keepTb {ky st en : Int} {xs : List TbR} {k : Nat} {x : TbR} {w1 : World} {B : Nat} {v' : Value} (h : xs[k]? = some x) (hb : x.isB ky st en = false) (ho : w1.ownsRow B 39 7 v' ((kpTb ky st en (xs.take k)).length + 1) (flatTb (kpTb ky st en (xs.take k)) ++ x.cells)) : OwnTb w1 B v' (kpTb ky st en (xs.take (k + 1))) := by
  rw [kpTb_in h hb]
  exact ownTb_snoc ho
theorem skipTb {ky st en : Int} {xs : List TbR} {k : Nat} {x : TbR} {w1 : World} {B : Nat} {v' : Value} (h : xs[k]? = some x) (hb : x.isB ky st en = true) (ho : OwnTb w1 B v' (kpTb ky st en (xs.take k))) : OwnTb w1 B v' (kpTb ky st en (xs.take (k + 1))) := by
  rw [kpTb_no h hb]
  exact ho

set_option maxRecDepth 20000 in
set_option maxHeartbeats 1000000 in
theorem specTabOut_any (a : Option Addr) (len cap : Nat) (xs : List TbR) (ky st en : Int) (w : World) (h : TbRs w a len xs) (hl : len ≤ 1048576) : Calls Tryz.prog 53 #[.slice a len cap, .int .i64 ky, .agg #[.int .i64 st, .int .i64 en]] w fun e w' => ∃ v, e = .returned v ∧ OwnTb w' w.heap.size v (kpTb ky st en xs) ∧ Below w.heap.size w w' := by
  have hm := h.2.1
  unfold maxLen at hm
  obtain ⟨i0, hi, hz0, hz1, hz2⟩ := info_parts Tryz.infoTb
  go_enter Tryz.func53, Tryz.ntmps53
  go_wp2
  go_loopw [7, 8] (fun v' i wr => ∃ k : Nat, k ≤ len ∧ i = .int .i64 k ∧ OwnTb wr (w.heap.size + 1) v' (kpTb ky st en (xs.take k)) ∧ Below (w.heap.size + 1) (w.alloc (.cells #[.int .i64 st, .int .i64 en] 35)) wr) (fun _ i _ => len - (intOf i).toNat)
  case atStart => exact ⟨0, Nat.zero_le _, rfl, ownLit (W := (w.alloc (.cells #[.int .i64 st, .int .i64 en] 35))) (B := w.heap.size + 1) _ _ (by simp) (by simp), (Below.refl (w.heap.size + 1) (w.alloc (.cells #[.int .i64 st, .int .i64 en] 35))).alloc (by simp) _⟩
  case round =>
    obtain ⟨k, hk, rfl, hO, hbw⟩ := hrel
    have hb0 : Below w.heap.size w wr := bel_trans (bel_one _ _) (by simpa using hbw)
    have c0 : wr.cell? ⟨w.heap.size, 0, none⟩ = some (.int .i64 st) := (hbw.cell (p := ⟨w.heap.size, 0, none⟩) (by simp)).trans (by simp [go_sem])
    have c1 : wr.cell? ⟨w.heap.size, 1, none⟩ = some (.int .i64 en) := (hbw.cell (p := ⟨w.heap.size, 1, none⟩) (by simp)).trans (by simp [go_sem])
    have hkl := kpTb_len ky st en xs k
    have HO := hide hO
    have hge := hide (ownTb_ge hO)
    clear hO
    by_cases hlt : k < len
    · obtain ⟨hxl, _, hx⟩ := h
      obtain ⟨g, o, rfl, hr⟩ := hx.resolve_left (by omega)
      obtain ⟨x, hxk⟩ : ∃ x, xs[k]? = some x := ⟨_, List.getElem?_eq_getElem (by omega)⟩
      have hg : g < w.heap.size := hr.lt (by omega)
      have hX := hide hxk
      obtain ⟨d0, d1, d2, d3, d4, d5, d6⟩ := (hr k _ hxk).below hb0 hg
      have hgw : g < wr.heap.size := Nat.lt_of_lt_of_le hg hb0.size
      clear hx hxk hr
      by_cases k1 : x.ky = ky
      · by_cases k2 : x.st = st
        · by_cases k3 : x.en = en
          · have hB := isTb_t k1 k2 k3
            have HB := hide hB
            clear hB
            go_wp2
            go_quiet (fail)
            have hq1 := belDrew hbw nq
            have HO1 := hide (ownBel (unhide HO) (bel_drewN (Below.refl _ _) nq))
            have D0 : (wr.drewN nq).cell? ⟨g, o + k * 7, none⟩ = some (.int .i64 x.ky) := (bel_drewN (Below.refl _ wr) nq).cell (p := ⟨g, _, none⟩) hgw |>.trans d0
            have D1 : (wr.drewN nq).cell? ⟨g, o + k * 7 + 1, none⟩ = some (.int .i64 x.st) := (bel_drewN (Below.refl _ wr) nq).cell (p := ⟨g, _, none⟩) hgw |>.trans d1
            have D2 : (wr.drewN nq).cell? ⟨g, o + k * 7 + 2, none⟩ = some (.int .i64 x.en) := (bel_drewN (Below.refl _ wr) nq).cell (p := ⟨g, _, none⟩) hgw |>.trans d2
            have D3 : (wr.drewN nq).cell? ⟨g, o + k * 7 + 3, none⟩ = some (.int .i64 x.n) := (bel_drewN (Below.refl _ wr) nq).cell (p := ⟨g, _, none⟩) hgw |>.trans d3
            have D4 : (wr.drewN nq).cell? ⟨g, o + k * 7 + 4, none⟩ = some (.int .i64 x.su) := (bel_drewN (Below.refl _ wr) nq).cell (p := ⟨g, _, none⟩) hgw |>.trans d4
            have D5 : (wr.drewN nq).cell? ⟨g, o + k * 7 + 5, none⟩ = some (.int .i64 x.le) := (bel_drewN (Below.refl _ wr) nq).cell (p := ⟨g, _, none⟩) hgw |>.trans d5
            have D6 : (wr.drewN nq).cell? ⟨g, o + k * 7 + 6, none⟩ = some (.int .i64 x.mo) := (bel_drewN (Below.refl _ wr) nq).cell (p := ⟨g, _, none⟩) hgw |>.trans d6
            clear HO hbw hb0 c0 c1 d0 d1 d2 d3 d4 d5 d6
            try clear k1
            try clear k2
            try clear k3
            try clear k1'
            try clear k2'
            try clear k3'
            generalize wr.drewN nq = wq at hq1 HO1 D0 D1 D2 D3 D4 D5 D6 ⊢
            have hws : w.heap.size + 1 ≤ wq.heap.size := by have := hq1.size; simpa using this
            go_wp2
            go_roundw
            case rel => exact ⟨k + 1, by omega, by go_num, skipTb (unhide hX) (unhide HB) (unhide HO1), hq1⟩
            case measure => simp [intOf]; omega
          · have hB := isTb_3 (ky := ky) (st := st) k3
            have k3' : (x.en == en) = false := by simpa using k3
            have HB := hide hB
            clear hB
            go_wp2
            go_quiet (fail)
            have hq1 := belDrew hbw nq
            have HO1 := hide (ownBel (unhide HO) (bel_drewN (Below.refl _ _) nq))
            have D0 : (wr.drewN nq).cell? ⟨g, o + k * 7, none⟩ = some (.int .i64 x.ky) := (bel_drewN (Below.refl _ wr) nq).cell (p := ⟨g, _, none⟩) hgw |>.trans d0
            have D1 : (wr.drewN nq).cell? ⟨g, o + k * 7 + 1, none⟩ = some (.int .i64 x.st) := (bel_drewN (Below.refl _ wr) nq).cell (p := ⟨g, _, none⟩) hgw |>.trans d1
            have D2 : (wr.drewN nq).cell? ⟨g, o + k * 7 + 2, none⟩ = some (.int .i64 x.en) := (bel_drewN (Below.refl _ wr) nq).cell (p := ⟨g, _, none⟩) hgw |>.trans d2
            have D3 : (wr.drewN nq).cell? ⟨g, o + k * 7 + 3, none⟩ = some (.int .i64 x.n) := (bel_drewN (Below.refl _ wr) nq).cell (p := ⟨g, _, none⟩) hgw |>.trans d3
            have D4 : (wr.drewN nq).cell? ⟨g, o + k * 7 + 4, none⟩ = some (.int .i64 x.su) := (bel_drewN (Below.refl _ wr) nq).cell (p := ⟨g, _, none⟩) hgw |>.trans d4
            have D5 : (wr.drewN nq).cell? ⟨g, o + k * 7 + 5, none⟩ = some (.int .i64 x.le) := (bel_drewN (Below.refl _ wr) nq).cell (p := ⟨g, _, none⟩) hgw |>.trans d5
            have D6 : (wr.drewN nq).cell? ⟨g, o + k * 7 + 6, none⟩ = some (.int .i64 x.mo) := (bel_drewN (Below.refl _ wr) nq).cell (p := ⟨g, _, none⟩) hgw |>.trans d6
            clear HO hbw hb0 c0 c1 d0 d1 d2 d3 d4 d5 d6
            try clear k1
            try clear k2
            try clear k3
            try clear k1'
            try clear k2'
            try clear k3'
            generalize wr.drewN nq = wq at hq1 HO1 D0 D1 D2 D3 D4 D5 D6 ⊢
            have hws : w.heap.size + 1 ≤ wq.heap.size := by have := hq1.size; simpa using this
            go_wp2_with (at_builtin; go_loud (refine wpList_append_own _ rfl _ _ 28 rfl (w.heap.size + 1) 39 i0 _ 7 56 Tryz.underlying28 hi hz0 hz1 hz2 rfl (by decide) u7 _ _ rfl (World.ownsRow.alloc (unhide HO1) _) ⟨wq.heap.size, 0, none⟩ 1 1 [.int .i64 x.ky, .int .i64 x.st, .int .i64 x.en, .int .i64 x.n, .int .i64 x.su, .int .i64 x.le, .int .i64 x.mo] rfl rfl (cells_newTb wq x.ky x.st x.en x.n x.su x.le x.mo _) (by simp [Value.oneCell']) (by unfold maxLen; omega) (by omega) (by have := hq1.size; simp at this ⊢; omega) ?_); intro v' w1 hown' hgrow _)
            have hb1 := (hq1.alloc hws _).grown hgrow (by simp; omega) (unhide hge)
            go_roundw
            case rel => exact ⟨k + 1, by omega, by go_num, keepTb (unhide hX) (unhide HB) hown', hb1⟩
            case measure => simp [intOf]; omega
        · have hB := isTb_2 (ky := ky) (en := en) k2
          have k2' : (x.st == st) = false := by simpa using k2
          have HB := hide hB
          clear hB
          go_wp2
          go_quiet (fail)
          have hq1 := belDrew hbw nq
          have HO1 := hide (ownBel (unhide HO) (bel_drewN (Below.refl _ _) nq))
          have D0 : (wr.drewN nq).cell? ⟨g, o + k * 7, none⟩ = some (.int .i64 x.ky) := (bel_drewN (Below.refl _ wr) nq).cell (p := ⟨g, _, none⟩) hgw |>.trans d0
          have D1 : (wr.drewN nq).cell? ⟨g, o + k * 7 + 1, none⟩ = some (.int .i64 x.st) := (bel_drewN (Below.refl _ wr) nq).cell (p := ⟨g, _, none⟩) hgw |>.trans d1
          have D2 : (wr.drewN nq).cell? ⟨g, o + k * 7 + 2, none⟩ = some (.int .i64 x.en) := (bel_drewN (Below.refl _ wr) nq).cell (p := ⟨g, _, none⟩) hgw |>.trans d2
          have D3 : (wr.drewN nq).cell? ⟨g, o + k * 7 + 3, none⟩ = some (.int .i64 x.n) := (bel_drewN (Below.refl _ wr) nq).cell (p := ⟨g, _, none⟩) hgw |>.trans d3
          have D4 : (wr.drewN nq).cell? ⟨g, o + k * 7 + 4, none⟩ = some (.int .i64 x.su) := (bel_drewN (Below.refl _ wr) nq).cell (p := ⟨g, _, none⟩) hgw |>.trans d4
          have D5 : (wr.drewN nq).cell? ⟨g, o + k * 7 + 5, none⟩ = some (.int .i64 x.le) := (bel_drewN (Below.refl _ wr) nq).cell (p := ⟨g, _, none⟩) hgw |>.trans d5
          have D6 : (wr.drewN nq).cell? ⟨g, o + k * 7 + 6, none⟩ = some (.int .i64 x.mo) := (bel_drewN (Below.refl _ wr) nq).cell (p := ⟨g, _, none⟩) hgw |>.trans d6
          clear HO hbw hb0 c0 c1 d0 d1 d2 d3 d4 d5 d6
          try clear k1
          try clear k2
          try clear k3
          try clear k1'
          try clear k2'
          try clear k3'
          generalize wr.drewN nq = wq at hq1 HO1 D0 D1 D2 D3 D4 D5 D6 ⊢
          have hws : w.heap.size + 1 ≤ wq.heap.size := by have := hq1.size; simpa using this
          go_wp2_with (at_builtin; go_loud (refine wpList_append_own _ rfl _ _ 28 rfl (w.heap.size + 1) 39 i0 _ 7 56 Tryz.underlying28 hi hz0 hz1 hz2 rfl (by decide) u7 _ _ rfl (World.ownsRow.alloc (unhide HO1) _) ⟨wq.heap.size, 0, none⟩ 1 1 [.int .i64 x.ky, .int .i64 x.st, .int .i64 x.en, .int .i64 x.n, .int .i64 x.su, .int .i64 x.le, .int .i64 x.mo] rfl rfl (cells_newTb wq x.ky x.st x.en x.n x.su x.le x.mo _) (by simp [Value.oneCell']) (by unfold maxLen; omega) (by omega) (by have := hq1.size; simp at this ⊢; omega) ?_); intro v' w1 hown' hgrow _)
          have hb1 := (hq1.alloc hws _).grown hgrow (by simp; omega) (unhide hge)
          go_roundw
          case rel => exact ⟨k + 1, by omega, by go_num, keepTb (unhide hX) (unhide HB) hown', hb1⟩
          case measure => simp [intOf]; omega
      · have hB := isTb_1 (st := st) (en := en) k1
        have k1' : (x.ky == ky) = false := by simpa using k1
        have HB := hide hB
        clear hB
        go_wp2
        go_quiet (fail)
        have hq1 := belDrew hbw nq
        have HO1 := hide (ownBel (unhide HO) (bel_drewN (Below.refl _ _) nq))
        have D0 : (wr.drewN nq).cell? ⟨g, o + k * 7, none⟩ = some (.int .i64 x.ky) := (bel_drewN (Below.refl _ wr) nq).cell (p := ⟨g, _, none⟩) hgw |>.trans d0
        have D1 : (wr.drewN nq).cell? ⟨g, o + k * 7 + 1, none⟩ = some (.int .i64 x.st) := (bel_drewN (Below.refl _ wr) nq).cell (p := ⟨g, _, none⟩) hgw |>.trans d1
        have D2 : (wr.drewN nq).cell? ⟨g, o + k * 7 + 2, none⟩ = some (.int .i64 x.en) := (bel_drewN (Below.refl _ wr) nq).cell (p := ⟨g, _, none⟩) hgw |>.trans d2
        have D3 : (wr.drewN nq).cell? ⟨g, o + k * 7 + 3, none⟩ = some (.int .i64 x.n) := (bel_drewN (Below.refl _ wr) nq).cell (p := ⟨g, _, none⟩) hgw |>.trans d3
        have D4 : (wr.drewN nq).cell? ⟨g, o + k * 7 + 4, none⟩ = some (.int .i64 x.su) := (bel_drewN (Below.refl _ wr) nq).cell (p := ⟨g, _, none⟩) hgw |>.trans d4
        have D5 : (wr.drewN nq).cell? ⟨g, o + k * 7 + 5, none⟩ = some (.int .i64 x.le) := (bel_drewN (Below.refl _ wr) nq).cell (p := ⟨g, _, none⟩) hgw |>.trans d5
        have D6 : (wr.drewN nq).cell? ⟨g, o + k * 7 + 6, none⟩ = some (.int .i64 x.mo) := (bel_drewN (Below.refl _ wr) nq).cell (p := ⟨g, _, none⟩) hgw |>.trans d6
        clear HO hbw hb0 c0 c1 d0 d1 d2 d3 d4 d5 d6
        try clear k1
        try clear k2
        try clear k3
        try clear k1'
        try clear k2'
        try clear k3'
        generalize wr.drewN nq = wq at hq1 HO1 D0 D1 D2 D3 D4 D5 D6 ⊢
        have hws : w.heap.size + 1 ≤ wq.heap.size := by have := hq1.size; simpa using this
        go_wp2_with (at_builtin; go_loud (refine wpList_append_own _ rfl _ _ 28 rfl (w.heap.size + 1) 39 i0 _ 7 56 Tryz.underlying28 hi hz0 hz1 hz2 rfl (by decide) u7 _ _ rfl (World.ownsRow.alloc (unhide HO1) _) ⟨wq.heap.size, 0, none⟩ 1 1 [.int .i64 x.ky, .int .i64 x.st, .int .i64 x.en, .int .i64 x.n, .int .i64 x.su, .int .i64 x.le, .int .i64 x.mo] rfl rfl (cells_newTb wq x.ky x.st x.en x.n x.su x.le x.mo _) (by simp [Value.oneCell']) (by unfold maxLen; omega) (by omega) (by have := hq1.size; simp at this ⊢; omega) ?_); intro v' w1 hown' hgrow _)
        have hb1 := (hq1.alloc hws _).grown hgrow (by simp; omega) (unhide hge)
        go_roundw
        case rel => exact ⟨k + 1, by omega, by go_num, keepTb (unhide hX) (unhide HB) hown', hb1⟩
        case measure => simp [intOf]; omega

    · have HQ : Hid (kpTb ky st en (xs.take k) = kpTb ky st en xs) := hide (by rw [List.take_of_length_le (by have := h.1; omega)])
      go_wp2
      go_ret
      refine ⟨_, rfl, ?_, hb0⟩
      rw [← unhide HQ]
      exact World.ownsRow.mono (unhide HO) (by omega)

end Go.Proofs.YtbockbdlojkpiaaGreat
