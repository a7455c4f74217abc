/- Proved here: when panes are sound, in the specification. -/
import Derived.Test.YtdpifgdignhebaaRwaPan
import Derived.Test.YtdpifgdignhebaaPan
import Derived.Test.YtdpifgdignhebaaKeyPl
namespace Go.Proofs.Ytdpifgdignhebaa
open Go.ChangeShapes Go.WideShapes Go.ChangeAt Go.RowKit
set_option linter.unusedVariables false

/-- Whose a pane is; how many ahead are of that; whether one ahead says that it is gone; whether panes are sound. -/
def PnR.pl (x : PnR) : Pl := ⟨x.ky, x.st, x.en⟩
def cntP (q : Pl) (xs : List PnR) : Nat := (xs.filter fun x => decide (x.pl = q)).length
def anyP (q : Pl) (xs : List PnR) : Bool := xs.any fun x => decide (x.pl = q) && x.kd == 3
def okP (x : PnR) : Bool := okPan x.ky x.st x.en x.no x.kd x.n x.su x.le x.mo
def atP (pre : List PnR) (x : PnR) : Bool := okP x && (x.no == (cntP x.pl pre : Int) && !anyP x.pl pre)
def soundGo : List PnR → List PnR → Bool
  | _, [] => true
  | pre, x :: r => atP pre x && soundGo (pre ++ [x]) r
def soundT (xs : List PnR) : Bool := soundGo [] xs
theorem take_snocP {α : Type} {xs : List α} {k : Nat} {x : α} (h : xs[k]? = some x) : xs.take (k + 1) = xs.take k ++ [x] := by
  obtain ⟨hk, he⟩ := List.getElem?_eq_some_iff.1 h
  rw [List.take_add_one, h]; rfl
theorem drop_consP {α : Type} {xs : List α} {k : Nat} {x : α} (h : xs[k]? = some x) : xs.drop k = x :: xs.drop (k + 1) := by
  obtain ⟨hk, he⟩ := List.getElem?_eq_some_iff.1 h
  rw [List.drop_eq_getElem_cons hk, he]
def Upto (xs : List PnR) (k : Nat) : Prop := soundT xs = soundGo (xs.take k) (xs.drop k)
theorem upto_0 (xs : List PnR) : Upto xs 0 := rfl
theorem upto_t {xs : List PnR} {k : Nat} {x : PnR} (hx : xs[k]? = some x) (h : Upto xs k) (ha : atP (xs.take k) x = true) : Upto xs (k + 1) := by
  unfold Upto at *
  rw [h, drop_consP hx, take_snocP hx, soundGo, ha, Bool.true_and]
theorem upto_f {xs : List PnR} {k : Nat} {x : PnR} (hx : xs[k]? = some x) (h : Upto xs k) (ha : atP (xs.take k) x = false) : soundT xs = false := by
  unfold Upto at h
  rw [h, drop_consP hx, soundGo, ha, Bool.false_and]
theorem upto_end {xs : List PnR} {k : Nat} (hk : xs.length ≤ k) (h : Upto xs k) : soundT xs = true := by
  unfold Upto at h
  rw [h, List.drop_eq_nil_of_le hk, soundGo]
theorem cntP_le (q : Pl) (xs : List PnR) (k : Nat) : cntP q (xs.take k) ≤ k := Nat.le_trans (List.length_filter_le _ _) (List.length_take_le _ _)
theorem cntP_in {q : Pl} {xs : List PnR} {k : Nat} {y : PnR} (h : xs[k]? = some y) (hq : y.pl = q) : cntP q (xs.take (k + 1)) = cntP q (xs.take k) + 1 := by
  unfold cntP; rw [take_snocP h, List.filter_append]; simp [hq]
theorem cntP_no {q : Pl} {xs : List PnR} {k : Nat} {y : PnR} (h : xs[k]? = some y) (hq : ¬ y.pl = q) : cntP q (xs.take (k + 1)) = cntP q (xs.take k) := by
  unfold cntP; rw [take_snocP h, List.filter_append]; simp [hq]
theorem anyP_in {q : Pl} {xs : List PnR} {k : Nat} {y : PnR} (h : xs[k]? = some y) (hq : y.pl = q) : anyP q (xs.take (k + 1)) = (anyP q (xs.take k) || y.kd == 3) := by
  unfold anyP; rw [take_snocP h, List.any_append]; simp [hq]
theorem anyP_no {q : Pl} {xs : List PnR} {k : Nat} {y : PnR} (h : xs[k]? = some y) (hq : ¬ y.pl = q) : anyP q (xs.take (k + 1)) = anyP q (xs.take k) := by
  unfold anyP; rw [take_snocP h, List.any_append]; simp [hq]
theorem atP_1 {pre : List PnR} {x : PnR} (h : okP x = false) : atP pre x = false := by simp [atP, h]
theorem atP_2 {pre : List PnR} {x : PnR} (h : ¬ x.no = (cntP x.pl pre : Int)) : atP pre x = false := by simp [atP, h]
theorem atP_3 {pre : List PnR} {x : PnR} (h : anyP x.pl pre = true) : atP pre x = false := by simp [atP, h]
theorem atP_t {pre : List PnR} {x : PnR} (h0 : okP x = true) (h1 : x.no = (cntP x.pl pre : Int)) (h2 : anyP x.pl pre = false) : atP pre x = true := by simp [atP, h0, h1, h2]
theorem pl_eq {x y : PnR} (h1 : y.ky = x.ky) (h2 : y.st = x.st) (h3 : y.en = x.en) : y.pl = x.pl := by simp [PnR.pl, h1, h2, h3]
theorem pl_1 {x y : PnR} (h : ¬ y.ky = x.ky) : ¬ y.pl = x.pl := by simp [PnR.pl]; intro e; exact absurd e h
theorem pl_2 {x y : PnR} (h : ¬ y.st = x.st) : ¬ y.pl = x.pl := by simp [PnR.pl]; intro _ e; exact absurd e h
theorem pl_3 {x y : PnR} (h : ¬ y.en = x.en) : ¬ y.pl = x.pl := by simp [PnR.pl]; intro _ _ e; exact h e

theorem belDrewN {B : Nat} {W W' : World} (h : Below B W W') (n : Nat) : Below B W (W'.drewN n) := h.trans ⟨rfl, rfl, rfl, Nat.le_refl _, fun _ _ => rfl⟩

set_option maxRecDepth 20000 in
set_option maxHeartbeats 4000000 in
theorem specsound_any (a : Option Addr) (len cap : Nat) (xs : List PnR) (w : World) (h : PnRs w a len xs) (hl : len ≤ 1048576) : Calls Try.prog 22 #[.slice a len cap] w fun e w' => e = .returned (.bool (soundT xs)) ∧ Below w.heap.size w w' := by
  go_enter Try.func22, Try.ntmps22
  go_wp2
  go_loopw [3] (fun i wr => ∃ k : Nat, k ≤ len ∧ i = .int .i64 k ∧ Hid (Upto xs k) ∧ Below w.heap.size w wr) (fun i _ => len - (intOf i).toNat)
  case atStart => exact ⟨0, Nat.zero_le _, rfl, hide (upto_0 xs), Below.refl _ _⟩
  case round =>
    obtain ⟨k, hk, rfl, HU, hbw⟩ := hrel
    by_cases hlt : k < len
    · obtain ⟨hxl, _, hx⟩ := h
      obtain ⟨g, o, rfl, hr⟩ := hx.resolve_left (by omega)
      obtain ⟨x, hxk⟩ : ∃ x, xs[k]? = some x := ⟨_, List.getElem?_eq_getElem (by omega)⟩
      have hg : g < w.heap.size := hr.lt (by omega)
      have hX := hide hxk
      have HR := hide hr
      obtain ⟨d0, d1, d2, d3, d4, d5, d6, d7, d8⟩ := (hr k _ hxk).below hbw hg
      clear hx hr
      cases h0 : okP x
      · have HV := hide (upto_f (unhide hX) (unhide HU) (atP_1 h0))
        have h0' : okPan x.ky x.st x.en x.no x.kd x.n x.su x.le x.mo = false := h0
        clear h0 hxk
        go_wp2_with (go_at_call 53; refine (specpanok_any _ _ _ _ _ _ _ _ _ _).mono ?_; rintro e w' ⟨rfl, hb⟩)
        go_ret
        exact ⟨ret_b (unhide HV).symm, (by repeat (first | (with_reducible exact Below.refl _ _) | (with_reducible assumption) | (with_reducible refine bel_set ?_ (by first | (simp; done) | (simp; omega)) _) | (with_reducible refine bel_alloc ?_ _) | (with_reducible refine bel_drew ?_) | (with_reducible refine bel_drewN ?_ _) | (with_reducible refine bel_trans ?_ (by with_reducible assumption))))⟩
      · have H0 := hide h0
        have h0' : okPan x.ky x.st x.en x.no x.kd x.n x.su x.le x.mo = true := h0
        clear h0
        go_wp2_with (go_at_call 53; refine (specpanok_any _ _ _ _ _ _ _ _ _ _).mono ?_; rintro e w' ⟨rfl, hb⟩)
        have hb1 : Below w.heap.size w w' := (by repeat (first | (with_reducible exact Below.refl _ _) | (with_reducible assumption) | (with_reducible refine bel_set ?_ (by first | (simp; done) | (simp; omega)) _) | (with_reducible refine bel_alloc ?_ _) | (with_reducible refine bel_drew ?_) | (with_reducible refine bel_drewN ?_ _) | (with_reducible refine bel_trans ?_ (by with_reducible assumption))))
        clear hb d0 d1 d2 d3 d4 d5 d6 d7 d8
        go_loopw [4, 5, 6] (fun nv gv jv w2 => ∃ j : Nat, j ≤ k ∧ jv = .int .i64 j ∧ nv = .int .i64 (cntP x.pl (xs.take j) : Nat) ∧ gv = .bool (anyP x.pl (xs.take j)) ∧ Below w.heap.size w w2) (fun _ _ jv _ => k - (intOf jv).toNat)
        case atStart => exact ⟨0, Nat.zero_le _, rfl, rfl, rfl, hb1⟩
        case round =>
          obtain ⟨j, hj, rfl, rfl, rfl, hb2⟩ := hrel
          have hcl := cntP_le x.pl xs j
          obtain ⟨d0, d1, d2, d3, d4, d5, d6, d7, d8⟩ := (unhide HR k _ hxk).below hb2 hg
          by_cases hjk : j < k
          · obtain ⟨y, hyj⟩ : ∃ y, xs[j]? = some y := ⟨_, List.getElem?_eq_getElem (by omega)⟩
            have hY := hide hyj
            obtain ⟨e0, e1, e2, e3, e4, e5, e6, e7, e8⟩ := (unhide HR j _ hyj).below hb2 hg
            clear hyj hxk
            by_cases k1 : y.ky = x.ky
            · by_cases k2 : y.st = x.st
              · by_cases k3 : y.en = x.en
                · skip
                  have hpq := pl_eq k1 k2 k3
                  have hc1 := hide (cntP_in (unhide hY) hpq)
                  have hc2' := anyP_in (unhide hY) hpq
                  clear hpq
                  cases hg0 : anyP x.pl (xs.take j)
                  · by_cases h3 : y.kd = 3
                    · have hc2 : Hid (anyP x.pl (xs.take (j + 1)) = true) := hide (by rw [hc2', hg0, h3]; rfl)
                      clear hc2'
                      go_wp2
                      go_quiet (fail)
                      go_wp2
                      go_roundw
                      case rel => exact ⟨j + 1, by omega, by go_num, by rw [unhide hc1]; go_num, by rw [unhide hc2], belDrewN hb2 _⟩
                      case measure => simp [intOf]; omega
                    · have hc2 : Hid (anyP x.pl (xs.take (j + 1)) = false) := hide (by rw [hc2', hg0]; simp [h3])
                      have h3' : (y.kd == 3) = false := by simpa using h3
                      clear hc2'
                      go_wp2
                      go_quiet (fail)
                      go_wp2
                      go_roundw
                      case rel => exact ⟨j + 1, by omega, by go_num, by rw [unhide hc1]; go_num, by rw [unhide hc2], belDrewN hb2 _⟩
                      case measure => simp [intOf]; omega
                  · have hc2 : Hid (anyP x.pl (xs.take (j + 1)) = true) := hide (by rw [hc2', hg0]; rfl)
                    clear hc2'
                    go_wp2
                    go_quiet (fail)
                    go_wp2
                    go_roundw
                    case rel => exact ⟨j + 1, by omega, by go_num, by rw [unhide hc1]; go_num, by rw [unhide hc2], belDrewN hb2 _⟩
                    case measure => simp [intOf]; omega
                · have k3' : (y.en == x.en) = false := by simpa using k3
                  have hpq := pl_3 k3
                  have hc1 := hide (cntP_no (unhide hY) hpq)
                  have hc2 := hide (anyP_no (unhide hY) hpq)
                  clear hpq
                  go_wp2
                  go_quiet (fail)
                  go_wp2
                  go_roundw
                  case rel => exact ⟨j + 1, by omega, by go_num, by rw [unhide hc1], by rw [unhide hc2], belDrewN hb2 _⟩
                  case measure => simp [intOf]; omega
              · have k2' : (y.st == x.st) = false := by simpa using k2
                have hpq := pl_2 k2
                have hc1 := hide (cntP_no (unhide hY) hpq)
                have hc2 := hide (anyP_no (unhide hY) hpq)
                clear hpq
                go_wp2
                go_quiet (fail)
                go_wp2
                go_roundw
                case rel => exact ⟨j + 1, by omega, by go_num, by rw [unhide hc1], by rw [unhide hc2], belDrewN hb2 _⟩
                case measure => simp [intOf]; omega
            · have k1' : (y.ky == x.ky) = false := by simpa using k1
              have hpq := pl_1 k1
              have hc1 := hide (cntP_no (unhide hY) hpq)
              have hc2 := hide (anyP_no (unhide hY) hpq)
              clear hpq
              go_wp2
              go_quiet (fail)
              go_wp2
              go_roundw
              case rel => exact ⟨j + 1, by omega, by go_num, by rw [unhide hc1], by rw [unhide hc2], belDrewN hb2 _⟩
              case measure => simp [intOf]; omega
          · obtain rfl : j = k := by omega
            by_cases hno : x.no = (cntP x.pl (xs.take j) : Nat)
            · cases hg0 : anyP x.pl (xs.take j)
              · have HU2 := hide (upto_t (unhide hX) (unhide HU) (atP_t (unhide H0) hno hg0))
                clear hxk
                go_wp2
                go_roundw
                case rel => exact ⟨j + 1, by omega, by go_num, HU2, (by repeat (first | (with_reducible exact Below.refl _ _) | (with_reducible assumption) | (with_reducible refine bel_set ?_ (by first | (simp; done) | (simp; omega)) _) | (with_reducible refine bel_alloc ?_ _) | (with_reducible refine bel_drew ?_) | (with_reducible refine bel_drewN ?_ _) | (with_reducible refine bel_trans ?_ (by with_reducible assumption))))⟩
                case measure => simp [intOf]; omega
              · have HV := hide (upto_f (unhide hX) (unhide HU) (atP_3 hg0))
                clear hxk
                go_wp2
                go_ret
                exact ⟨ret_b (unhide HV).symm, (by repeat (first | (with_reducible exact Below.refl _ _) | (with_reducible assumption) | (with_reducible refine bel_set ?_ (by first | (simp; done) | (simp; omega)) _) | (with_reducible refine bel_alloc ?_ _) | (with_reducible refine bel_drew ?_) | (with_reducible refine bel_drewN ?_ _) | (with_reducible refine bel_trans ?_ (by with_reducible assumption))))⟩
            · have HV := hide (upto_f (unhide hX) (unhide HU) (atP_2 hno))
              have hno' : (x.no == ((cntP x.pl (xs.take j) : Nat) : Int)) = false := by simpa using hno
              clear hxk
              go_wp2
              go_ret
              exact ⟨ret_b (unhide HV).symm, (by repeat (first | (with_reducible exact Below.refl _ _) | (with_reducible assumption) | (with_reducible refine bel_set ?_ (by first | (simp; done) | (simp; omega)) _) | (with_reducible refine bel_alloc ?_ _) | (with_reducible refine bel_drew ?_) | (with_reducible refine bel_drewN ?_ _) | (with_reducible refine bel_trans ?_ (by with_reducible assumption))))⟩
    · have HV := hide (upto_end (by have := h.1; omega) (unhide HU))
      go_wp2
      go_ret
      exact ⟨ret_b (unhide HV).symm, hbw⟩

end Go.Proofs.Ytdpifgdignhebaa
