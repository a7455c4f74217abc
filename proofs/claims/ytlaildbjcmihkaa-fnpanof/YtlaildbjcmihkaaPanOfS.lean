/- Proved here: the rows of (or without those of) a window of a key, in the specification. -/
import Derived.Test.YtlaildbjcmihkaaRwaPan
import Derived.Test.YtlaildbjcmihkaaRwaTab
import Derived.Test.YtlaildbjcmihkaaOwnB
import Derived.Deep.Onto
namespace Go.Proofs.Ytlaildbjcmihkaa
open Go.ChangeShapes Go.WideShapes Go.ChangeAt Go.RowKit
set_option linter.unusedVariables false

/-- Whether a row is of a key's window. -/
def PnR.isB (ky st en : Int) (x : PnR) : Bool := x.ky == ky && (x.st == st && x.en == en)
theorem isPn_t {ky st en : Int} {x : PnR} (h1 : x.ky = ky) (h2 : x.st = st) (h3 : x.en = en) : x.isB ky st en = true := by simp [PnR.isB, h1, h2, h3]
theorem isPn_1 {ky st en : Int} {x : PnR} (h1 : ¬ x.ky = ky) : x.isB ky st en = false := by simp [PnR.isB, h1]
theorem isPn_2 {ky st en : Int} {x : PnR} (h1 : ¬ x.st = st) : x.isB ky st en = false := by simp [PnR.isB, h1]
theorem isPn_3 {ky st en : Int} {x : PnR} (h1 : ¬ x.en = en) : x.isB ky st en = false := by simp [PnR.isB, h1]
theorem take_snocPn {α : Type} {xs : List α} {k : Nat} {x : α} (h : xs[k]? = some x) : xs.take (k + 1) = xs.take k ++ [x] := by
  obtain ⟨hk, he⟩ := List.getElem?_eq_some_iff.1 h
  rw [List.take_add_one, h]; rfl
/-- The rows that are kept. -/
def kpPn (ky st en : Int) (xs : List PnR) : List PnR := xs.filter fun x => PnR.isB ky st en x
theorem kpPn_in {ky st en : Int} {xs : List PnR} {k : Nat} {x : PnR} (h : xs[k]? = some x) (hb : x.isB ky st en = true) : kpPn ky st en (xs.take (k + 1)) = kpPn ky st en (xs.take k) ++ [x] := by
  unfold kpPn
  rw [take_snocPn h, List.filter_append]
  simp [hb]
theorem kpPn_no {ky st en : Int} {xs : List PnR} {k : Nat} {x : PnR} (h : xs[k]? = some x) (hb : x.isB ky st en = false) : kpPn ky st en (xs.take (k + 1)) = kpPn ky st en (xs.take k) := by
  unfold kpPn
  rw [take_snocPn h, List.filter_append]
  simp [hb]
theorem kpPn_len (ky st en : Int) (xs : List PnR) (k : Nat) : (kpPn ky st en (xs.take k)).length ≤ k := Nat.le_trans (List.length_filter_le _ _) (List.length_take_le _ _)
theorem kpPn_le (ky st en : Int) (xs : List PnR) : (kpPn ky st en xs).length ≤ xs.length := List.length_filter_le _ _
theorem keepPn {ky st en : Int} {xs : List PnR} {k : Nat} {x : PnR} {w1 : World} {B : Nat} {v' : Value} (h : xs[k]? = some x) (hb : x.isB ky st en = true) (ho : w1.ownsRow B 33 9 v' ((kpPn ky st en (xs.take k)).length + 1) (flatPn (kpPn ky st en (xs.take k)) ++ x.cells)) : OwnPn w1 B v' (kpPn ky st en (xs.take (k + 1))) := by
  rw [kpPn_in h hb]
  exact ownPn_snoc ho
theorem skipPn {ky st en : Int} {xs : List PnR} {k : Nat} {x : PnR} {w1 : World} {B : Nat} {v' : Value} (h : xs[k]? = some x) (hb : x.isB ky st en = false) (ho : OwnPn w1 B v' (kpPn ky st en (xs.take k))) : OwnPn w1 B v' (kpPn ky st en (xs.take (k + 1))) := by
  rw [kpPn_no h hb]
  exact ho

set_option maxRecDepth 20000 in
set_option maxHeartbeats 1000000 in
theorem specPanOf_any (a : Option Addr) (len cap : Nat) (xs : List PnR) (ky st en : Int) (w : World) (h : PnRs w a len xs) (hl : len ≤ 1048576) : Calls Try.prog 7 #[.slice a len cap, .int .i64 ky, .agg #[.int .i64 st, .int .i64 en]] w fun e w' => ∃ v, e = .returned v ∧ OwnPn w' w.heap.size v (kpPn ky st en xs) ∧ Below w.heap.size w w' := by
  have hm := h.2.1
  unfold maxLen at hm
  obtain ⟨i0, hi, hz0, hz1, hz2⟩ := info_parts Try.infoPn
  go_enter Try.func7, Try.ntmps7
  go_wp2
  go_loopw [7, 8] (fun v' i wr => ∃ k : Nat, k ≤ len ∧ i = .int .i64 k ∧ OwnPn wr (w.heap.size + 1) v' (kpPn ky st en (xs.take k)) ∧ Below (w.heap.size + 1) (w.alloc (.cells #[.int .i64 st, .int .i64 en] 25)) wr) (fun _ i _ => len - (intOf i).toNat)
  case atStart => exact ⟨0, Nat.zero_le _, rfl, ownLit (W := (w.alloc (.cells #[.int .i64 st, .int .i64 en] 25))) (B := w.heap.size + 1) _ _ (by simp) (by simp), (Below.refl (w.heap.size + 1) (w.alloc (.cells #[.int .i64 st, .int .i64 en] 25))).alloc (by simp) _⟩
  case round =>
    obtain ⟨k, hk, rfl, hO, hbw⟩ := hrel
    have hb0 : Below w.heap.size w wr := bel_trans (bel_one _ _) (by simpa using hbw)
    have c0 : wr.cell? ⟨w.heap.size, 0, none⟩ = some (.int .i64 st) := (hbw.cell (p := ⟨w.heap.size, 0, none⟩) (by simp)).trans (by simp [go_sem])
    have c1 : wr.cell? ⟨w.heap.size, 1, none⟩ = some (.int .i64 en) := (hbw.cell (p := ⟨w.heap.size, 1, none⟩) (by simp)).trans (by simp [go_sem])
    have hkl := kpPn_len ky st en xs k
    have HO := hide hO
    have hge := hide (ownPn_ge hO)
    clear hO
    by_cases hlt : k < len
    · obtain ⟨hxl, _, hx⟩ := h
      obtain ⟨g, o, rfl, hr⟩ := hx.resolve_left (by omega)
      obtain ⟨x, hxk⟩ : ∃ x, xs[k]? = some x := ⟨_, List.getElem?_eq_getElem (by omega)⟩
      have hg : g < w.heap.size := hr.lt (by omega)
      have hX := hide hxk
      obtain ⟨d0, d1, d2, d3, d4, d5, d6, d7, d8⟩ := (hr k _ hxk).below hb0 hg
      have hgw : g < wr.heap.size := Nat.lt_of_lt_of_le hg hb0.size
      clear hx hxk hr
      by_cases k1 : x.ky = ky
      · by_cases k2 : x.st = st
        · by_cases k3 : x.en = en
          · have hB := isPn_t k1 k2 k3
            have HB := hide hB
            clear hB
            go_wp2
            go_quiet (fail)
            have hq1 := belDrew hbw nq
            have HO1 := hide (ownBel (unhide HO) (bel_drewN (Below.refl _ _) nq))
            have D0 : (wr.drewN nq).cell? ⟨g, o + k * 9, none⟩ = some (.int .i64 x.ky) := (bel_drewN (Below.refl _ wr) nq).cell (p := ⟨g, _, none⟩) hgw |>.trans d0
            have D1 : (wr.drewN nq).cell? ⟨g, o + k * 9 + 1, none⟩ = some (.int .i64 x.st) := (bel_drewN (Below.refl _ wr) nq).cell (p := ⟨g, _, none⟩) hgw |>.trans d1
            have D2 : (wr.drewN nq).cell? ⟨g, o + k * 9 + 2, none⟩ = some (.int .i64 x.en) := (bel_drewN (Below.refl _ wr) nq).cell (p := ⟨g, _, none⟩) hgw |>.trans d2
            have D3 : (wr.drewN nq).cell? ⟨g, o + k * 9 + 3, none⟩ = some (.int .i64 x.no) := (bel_drewN (Below.refl _ wr) nq).cell (p := ⟨g, _, none⟩) hgw |>.trans d3
            have D4 : (wr.drewN nq).cell? ⟨g, o + k * 9 + 4, none⟩ = some (.int .i64 x.kd) := (bel_drewN (Below.refl _ wr) nq).cell (p := ⟨g, _, none⟩) hgw |>.trans d4
            have D5 : (wr.drewN nq).cell? ⟨g, o + k * 9 + 5, none⟩ = some (.int .i64 x.n) := (bel_drewN (Below.refl _ wr) nq).cell (p := ⟨g, _, none⟩) hgw |>.trans d5
            have D6 : (wr.drewN nq).cell? ⟨g, o + k * 9 + 6, none⟩ = some (.int .i64 x.su) := (bel_drewN (Below.refl _ wr) nq).cell (p := ⟨g, _, none⟩) hgw |>.trans d6
            have D7 : (wr.drewN nq).cell? ⟨g, o + k * 9 + 7, none⟩ = some (.int .i64 x.le) := (bel_drewN (Below.refl _ wr) nq).cell (p := ⟨g, _, none⟩) hgw |>.trans d7
            have D8 : (wr.drewN nq).cell? ⟨g, o + k * 9 + 8, none⟩ = some (.int .i64 x.mo) := (bel_drewN (Below.refl _ wr) nq).cell (p := ⟨g, _, none⟩) hgw |>.trans d8
            clear HO hbw hb0 c0 c1 d0 d1 d2 d3 d4 d5 d6 d7 d8
            try clear k1
            try clear k2
            try clear k3
            try clear k1'
            try clear k2'
            try clear k3'
            generalize wr.drewN nq = wq at hq1 HO1 D0 D1 D2 D3 D4 D5 D6 D7 D8 ⊢
            have hws : w.heap.size + 1 ≤ wq.heap.size := by have := hq1.size; simpa using this
            go_wp2_with (at_builtin; go_loud (refine wpList_append_own _ rfl _ _ 23 rfl (w.heap.size + 1) 33 i0 _ 9 72 Try.underlying23 hi hz0 hz1 hz2 rfl (by decide) u7 _ _ rfl (World.ownsRow.alloc (unhide HO1) _) ⟨wq.heap.size, 0, none⟩ 1 1 [.int .i64 x.ky, .int .i64 x.st, .int .i64 x.en, .int .i64 x.no, .int .i64 x.kd, .int .i64 x.n, .int .i64 x.su, .int .i64 x.le, .int .i64 x.mo] rfl rfl (cells_newPn wq x.ky x.st x.en x.no x.kd x.n x.su x.le x.mo _) (by simp [Value.oneCell']) (by unfold maxLen; omega) (by omega) (by have := hq1.size; simp at this ⊢; omega) ?_); intro v' w1 hown' hgrow _)
            have hb1 := (hq1.alloc hws _).grown hgrow (by simp; omega) (unhide hge)
            go_roundw
            case rel => exact ⟨k + 1, by omega, by go_num, keepPn (unhide hX) (unhide HB) hown', hb1⟩
            case measure => simp [intOf]; omega
          · have hB := isPn_3 (ky := ky) (st := st) k3
            have k3' : (x.en == en) = false := by simpa using k3
            have HB := hide hB
            clear hB
            go_wp2
            go_quiet (fail)
            have hq1 := belDrew hbw nq
            have HO1 := hide (ownBel (unhide HO) (bel_drewN (Below.refl _ _) nq))
            have D0 : (wr.drewN nq).cell? ⟨g, o + k * 9, none⟩ = some (.int .i64 x.ky) := (bel_drewN (Below.refl _ wr) nq).cell (p := ⟨g, _, none⟩) hgw |>.trans d0
            have D1 : (wr.drewN nq).cell? ⟨g, o + k * 9 + 1, none⟩ = some (.int .i64 x.st) := (bel_drewN (Below.refl _ wr) nq).cell (p := ⟨g, _, none⟩) hgw |>.trans d1
            have D2 : (wr.drewN nq).cell? ⟨g, o + k * 9 + 2, none⟩ = some (.int .i64 x.en) := (bel_drewN (Below.refl _ wr) nq).cell (p := ⟨g, _, none⟩) hgw |>.trans d2
            have D3 : (wr.drewN nq).cell? ⟨g, o + k * 9 + 3, none⟩ = some (.int .i64 x.no) := (bel_drewN (Below.refl _ wr) nq).cell (p := ⟨g, _, none⟩) hgw |>.trans d3
            have D4 : (wr.drewN nq).cell? ⟨g, o + k * 9 + 4, none⟩ = some (.int .i64 x.kd) := (bel_drewN (Below.refl _ wr) nq).cell (p := ⟨g, _, none⟩) hgw |>.trans d4
            have D5 : (wr.drewN nq).cell? ⟨g, o + k * 9 + 5, none⟩ = some (.int .i64 x.n) := (bel_drewN (Below.refl _ wr) nq).cell (p := ⟨g, _, none⟩) hgw |>.trans d5
            have D6 : (wr.drewN nq).cell? ⟨g, o + k * 9 + 6, none⟩ = some (.int .i64 x.su) := (bel_drewN (Below.refl _ wr) nq).cell (p := ⟨g, _, none⟩) hgw |>.trans d6
            have D7 : (wr.drewN nq).cell? ⟨g, o + k * 9 + 7, none⟩ = some (.int .i64 x.le) := (bel_drewN (Below.refl _ wr) nq).cell (p := ⟨g, _, none⟩) hgw |>.trans d7
            have D8 : (wr.drewN nq).cell? ⟨g, o + k * 9 + 8, none⟩ = some (.int .i64 x.mo) := (bel_drewN (Below.refl _ wr) nq).cell (p := ⟨g, _, none⟩) hgw |>.trans d8
            clear HO hbw hb0 c0 c1 d0 d1 d2 d3 d4 d5 d6 d7 d8
            try clear k1
            try clear k2
            try clear k3
            try clear k1'
            try clear k2'
            try clear k3'
            generalize wr.drewN nq = wq at hq1 HO1 D0 D1 D2 D3 D4 D5 D6 D7 D8 ⊢
            have hws : w.heap.size + 1 ≤ wq.heap.size := by have := hq1.size; simpa using this
            go_wp2
            go_roundw
            case rel => exact ⟨k + 1, by omega, by go_num, skipPn (unhide hX) (unhide HB) (unhide HO1), hq1⟩
            case measure => simp [intOf]; omega
        · have hB := isPn_2 (ky := ky) (en := en) k2
          have k2' : (x.st == st) = false := by simpa using k2
          have HB := hide hB
          clear hB
          go_wp2
          go_quiet (fail)
          have hq1 := belDrew hbw nq
          have HO1 := hide (ownBel (unhide HO) (bel_drewN (Below.refl _ _) nq))
          have D0 : (wr.drewN nq).cell? ⟨g, o + k * 9, none⟩ = some (.int .i64 x.ky) := (bel_drewN (Below.refl _ wr) nq).cell (p := ⟨g, _, none⟩) hgw |>.trans d0
          have D1 : (wr.drewN nq).cell? ⟨g, o + k * 9 + 1, none⟩ = some (.int .i64 x.st) := (bel_drewN (Below.refl _ wr) nq).cell (p := ⟨g, _, none⟩) hgw |>.trans d1
          have D2 : (wr.drewN nq).cell? ⟨g, o + k * 9 + 2, none⟩ = some (.int .i64 x.en) := (bel_drewN (Below.refl _ wr) nq).cell (p := ⟨g, _, none⟩) hgw |>.trans d2
          have D3 : (wr.drewN nq).cell? ⟨g, o + k * 9 + 3, none⟩ = some (.int .i64 x.no) := (bel_drewN (Below.refl _ wr) nq).cell (p := ⟨g, _, none⟩) hgw |>.trans d3
          have D4 : (wr.drewN nq).cell? ⟨g, o + k * 9 + 4, none⟩ = some (.int .i64 x.kd) := (bel_drewN (Below.refl _ wr) nq).cell (p := ⟨g, _, none⟩) hgw |>.trans d4
          have D5 : (wr.drewN nq).cell? ⟨g, o + k * 9 + 5, none⟩ = some (.int .i64 x.n) := (bel_drewN (Below.refl _ wr) nq).cell (p := ⟨g, _, none⟩) hgw |>.trans d5
          have D6 : (wr.drewN nq).cell? ⟨g, o + k * 9 + 6, none⟩ = some (.int .i64 x.su) := (bel_drewN (Below.refl _ wr) nq).cell (p := ⟨g, _, none⟩) hgw |>.trans d6
          have D7 : (wr.drewN nq).cell? ⟨g, o + k * 9 + 7, none⟩ = some (.int .i64 x.le) := (bel_drewN (Below.refl _ wr) nq).cell (p := ⟨g, _, none⟩) hgw |>.trans d7
          have D8 : (wr.drewN nq).cell? ⟨g, o + k * 9 + 8, none⟩ = some (.int .i64 x.mo) := (bel_drewN (Below.refl _ wr) nq).cell (p := ⟨g, _, none⟩) hgw |>.trans d8
          clear HO hbw hb0 c0 c1 d0 d1 d2 d3 d4 d5 d6 d7 d8
          try clear k1
          try clear k2
          try clear k3
          try clear k1'
          try clear k2'
          try clear k3'
          generalize wr.drewN nq = wq at hq1 HO1 D0 D1 D2 D3 D4 D5 D6 D7 D8 ⊢
          have hws : w.heap.size + 1 ≤ wq.heap.size := by have := hq1.size; simpa using this
          go_wp2
          go_roundw
          case rel => exact ⟨k + 1, by omega, by go_num, skipPn (unhide hX) (unhide HB) (unhide HO1), hq1⟩
          case measure => simp [intOf]; omega
      · have hB := isPn_1 (st := st) (en := en) k1
        have k1' : (x.ky == ky) = false := by simpa using k1
        have HB := hide hB
        clear hB
        go_wp2
        go_quiet (fail)
        have hq1 := belDrew hbw nq
        have HO1 := hide (ownBel (unhide HO) (bel_drewN (Below.refl _ _) nq))
        have D0 : (wr.drewN nq).cell? ⟨g, o + k * 9, none⟩ = some (.int .i64 x.ky) := (bel_drewN (Below.refl _ wr) nq).cell (p := ⟨g, _, none⟩) hgw |>.trans d0
        have D1 : (wr.drewN nq).cell? ⟨g, o + k * 9 + 1, none⟩ = some (.int .i64 x.st) := (bel_drewN (Below.refl _ wr) nq).cell (p := ⟨g, _, none⟩) hgw |>.trans d1
        have D2 : (wr.drewN nq).cell? ⟨g, o + k * 9 + 2, none⟩ = some (.int .i64 x.en) := (bel_drewN (Below.refl _ wr) nq).cell (p := ⟨g, _, none⟩) hgw |>.trans d2
        have D3 : (wr.drewN nq).cell? ⟨g, o + k * 9 + 3, none⟩ = some (.int .i64 x.no) := (bel_drewN (Below.refl _ wr) nq).cell (p := ⟨g, _, none⟩) hgw |>.trans d3
        have D4 : (wr.drewN nq).cell? ⟨g, o + k * 9 + 4, none⟩ = some (.int .i64 x.kd) := (bel_drewN (Below.refl _ wr) nq).cell (p := ⟨g, _, none⟩) hgw |>.trans d4
        have D5 : (wr.drewN nq).cell? ⟨g, o + k * 9 + 5, none⟩ = some (.int .i64 x.n) := (bel_drewN (Below.refl _ wr) nq).cell (p := ⟨g, _, none⟩) hgw |>.trans d5
        have D6 : (wr.drewN nq).cell? ⟨g, o + k * 9 + 6, none⟩ = some (.int .i64 x.su) := (bel_drewN (Below.refl _ wr) nq).cell (p := ⟨g, _, none⟩) hgw |>.trans d6
        have D7 : (wr.drewN nq).cell? ⟨g, o + k * 9 + 7, none⟩ = some (.int .i64 x.le) := (bel_drewN (Below.refl _ wr) nq).cell (p := ⟨g, _, none⟩) hgw |>.trans d7
        have D8 : (wr.drewN nq).cell? ⟨g, o + k * 9 + 8, none⟩ = some (.int .i64 x.mo) := (bel_drewN (Below.refl _ wr) nq).cell (p := ⟨g, _, none⟩) hgw |>.trans d8
        clear HO hbw hb0 c0 c1 d0 d1 d2 d3 d4 d5 d6 d7 d8
        try clear k1
        try clear k2
        try clear k3
        try clear k1'
        try clear k2'
        try clear k3'
        generalize wr.drewN nq = wq at hq1 HO1 D0 D1 D2 D3 D4 D5 D6 D7 D8 ⊢
        have hws : w.heap.size + 1 ≤ wq.heap.size := by have := hq1.size; simpa using this
        go_wp2
        go_roundw
        case rel => exact ⟨k + 1, by omega, by go_num, skipPn (unhide hX) (unhide HB) (unhide HO1), hq1⟩
        case measure => simp [intOf]; omega

    · have HQ : Hid (kpPn ky st en (xs.take k) = kpPn ky st en xs) := hide (by rw [List.take_of_length_le (by have := h.1; omega)])
      go_wp2
      go_ret
      refine ⟨_, rfl, ?_, hb0⟩
      rw [← unhide HQ]
      exact World.ownsRow.mono (unhide HO) (by omega)

end Go.Proofs.Ytlaildbjcmihkaa
