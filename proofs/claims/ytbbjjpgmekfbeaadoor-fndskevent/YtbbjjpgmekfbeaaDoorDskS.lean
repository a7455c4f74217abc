/- Proved here: what an event's line is; one event, by the specification. -/
import Derived.Test.YtbbjjpgmekfbeaaDoorItmRdS
namespace Go.Proofs.YtbbjjpgmekfbeaaDoor
open Go.ChangeShapes Go.WideShapes Go.ChangeAt Go.RowKit
set_option linter.unusedVariables false


/-- A word is a number of at most seven digits that is not below 0. -/
def goodN (y : ByteArray) : Bool := (num1 y.data.toList).2 && decide (0 ≤ (num1 y.data.toList).1)
/-- The event of words, with the numbers that stand there and how many there should be. -/
def evK (x : ByteArray) : Int × Nat := if x = ⟨#[115, 111, 117, 114, 99, 101]⟩ then (1, 1) else if x = ⟨#[116, 97, 115, 107]⟩ then (2, 2) else if x = ⟨#[97, 115, 107]⟩ then (3, 0) else if x = ⟨#[115, 97, 118, 101]⟩ then (4, 0) else if x = ⟨#[100, 114, 111, 112]⟩ then (5, 0) else if x = ⟨#[99, 111, 109, 109, 105, 116]⟩ then (6, 1) else if x = ⟨#[99, 114, 97, 115, 104]⟩ then (7, 0) else (0, 0)
def oneE (M : List ByteArray) (k a i : Int) (c : Nat) : Int × Int × Int × Bool := if M.length = c ∧ M.all goodN = true then (k, a, i, true) else (0, 0, 0, false)
/-- What comes back: an event, and whether there is one. -/
def EvP (r : Int × Int × Int × Bool) (w : World) (e : Ending) (w' : World) : Prop := ∃ k a i b, e = .returned (.tuple #[.agg #[.int .i64 k, .int .i64 a, .int .i64 i], .bool b]) ∧ r = (k, a, i, b) ∧ Below w.heap.size w w'
theorem one_no {M : List ByteArray} {y : ByteArray} {k a i : Int} {c : Nat} (hy : y ∈ M) (h : goodN y = false) : oneE M k a i c = (0, 0, 0, false) := if_neg (fun h9 => by
  have := List.all_eq_true.1 h9.2 y hy
  rw [h] at this
  cases this)
set_option linter.unusedSimpArgs false in
set_option maxRecDepth 20000 in
set_option maxHeartbeats 2000000 in
theorem l12one_any {av : Option Addr} {n cap : Nat} {x : ByteArray} {M : List ByteArray} {c : Nat} (k a i : Int) (w : World) (h : StRs w av n (stL (x :: M))) (hx : ∀ y ∈ x :: M, y.size ≤ 100) (hc : c ≤ 2) : Calls Tryd.prog 24 #[.slice av n cap, .agg #[.int .i64 k, .int .i64 a, .int .i64 i], .int .i64 (c : Int)] w fun e w' => EvP (oneE M k a i c) w e w' := by
  have hn : (x :: M).length = n := by rw [← stL_len]; exact h.1
  have hl : (x :: M).length = M.length + 1 := rfl
  have hcw : IntKind.i64.wrap ((c : Int) + 1) = (c : Int) + 1 := by rcases (show c = 0 ∨ c = 1 ∨ c = 2 by omega) with rfl | rfl | rfl <;> rfl
  go_enter Tryd.func24, Tryd.ntmps24
  by_cases hnc : n = c + 1
  · obtain rfl := hnc
    have HL : Hid (M.length = c) := hide (by omega)
    have HX := hide hx
    clear hx hl hn
    have HS := hide h
    clear h
    go_wp2_with fail
    go_loopw [8] (fun iv wr => ∃ j : Nat, 1 ≤ j ∧ j ≤ c + 1 ∧ iv = .int .i64 j ∧ Hid ((M.take (j - 1)).all goodN = true) ∧ wr = ((w.alloc (.cells #[.int .i64 k, .int .i64 a, .int .i64 i] 29)).alloc (.cells #[.int .i64 0, .int .i64 0, .int .i64 0] 29))) (fun iv _ => c + 1 - (intOf iv).toNat)
    case atStart => exact ⟨1, Nat.le_refl _, by omega, rfl, hide (by simp), rfl⟩
    case round =>
      obtain ⟨j, hj1, hj2, rfl, HG, rfl⟩ := hrel
      by_cases hlt : j ≤ c
      · have hML := unhide HL
        obtain ⟨y, hy⟩ : ∃ y, M[j - 1]? = some y := ⟨_, List.getElem?_eq_getElem (by omega)⟩
        have hyk : (x :: M)[j]? = some y := by rw [show j = (j - 1) + 1 by omega, List.getElem?_cons_succ]; exact hy
        obtain ⟨g, o, rfl, _⟩ := (unhide HS).2.2.resolve_left (by omega)
        have hc9 : ((w.alloc (.cells #[.int .i64 k, .int .i64 a, .int .i64 i] 29)).alloc (.cells #[.int .i64 0, .int .i64 0, .int .i64 0] 29)).cell? ⟨g, o + j, none⟩ = some (.string y) := st_cell ((unhide HS).below (bel_alloc (bel_one _ _) _)) hyk
        have hsz := unhide HX y (List.mem_of_getElem? hyk)
        obtain ⟨z, b, hzb⟩ : ∃ z b, num1 y.data.toList = (z, b) := ⟨_, _, rfl⟩
        have hzb2 := hide hzb
        have HY := hide hy
        have hle : (j : Int) ≤ (c : Int) := by omega
        clear hy hyk hML
        go_wp2_with fail
        refine (number_at hzb _ (by omega)).mono ?_
        rintro e w9 ⟨rfl, rfl⟩
        clear hzb
        cases b with
        | false =>
          have HI : Hid (oneE M k a i c = (0, 0, 0, false)) := hide (one_no (List.mem_of_getElem? (unhide HY)) (by unfold goodN; rw [unhide hzb2]; rfl))
          clear HY HG HX HS hc9
          go_wp2
          refine bodyPost_ret (v := .tuple #[.agg #[.int .i64 0, .int .i64 0, .int .i64 0], .bool false]) (by simp (maxDischargeDepth := 9) [results, Tryd.results24, go_sem, *]) rfl ⟨0, 0, 0, false, rfl, unhide HI, (by repeat (first | (with_reducible exact Below.refl _ _) | (with_reducible assumption) | (with_reducible refine bel_set ?_ (by first | (simp; done) | (simp; omega)) _) | (with_reducible refine bel_alloc ?_ _) | (with_reducible refine bel_drew ?_) | (with_reducible refine bel_drewN ?_ _) | (with_reducible refine bel_trans ?_ (by with_reducible assumption))))⟩
        | true =>
          by_cases hz : z < 0
          ·
            have HI : Hid (oneE M k a i c = (0, 0, 0, false)) := hide (one_no (List.mem_of_getElem? (unhide HY)) (by unfold goodN; rw [unhide hzb2]; simp; omega))
            clear HY HG HX HS hc9
            go_wp2
            refine bodyPost_ret (v := .tuple #[.agg #[.int .i64 0, .int .i64 0, .int .i64 0], .bool false]) (by simp (maxDischargeDepth := 9) [results, Tryd.results24, go_sem, *]) rfl ⟨0, 0, 0, false, rfl, unhide HI, (by repeat (first | (with_reducible exact Below.refl _ _) | (with_reducible assumption) | (with_reducible refine bel_set ?_ (by first | (simp; done) | (simp; omega)) _) | (with_reducible refine bel_alloc ?_ _) | (with_reducible refine bel_drew ?_) | (with_reducible refine bel_drewN ?_ _) | (with_reducible refine bel_trans ?_ (by with_reducible assumption))))⟩
          · have hjw : IntKind.i64.wrap ((j : Int) + 1) = (j : Int) + 1 := by rcases (show j = 1 ∨ j = 2 by omega) with rfl | rfl <;> rfl
            have HG2 : Hid ((M.take (j + 1 - 1)).all goodN = true) := hide (by
              rw [show j + 1 - 1 = (j - 1) + 1 by omega, List.take_add_one, unhide HY]
              simp only [List.all_append, unhide HG, Option.toList, List.all_cons, List.all_nil, Bool.and_true, Bool.true_and]
              unfold goodN; rw [unhide hzb2]; simp; omega)
            clear HG hc9
            go_wp2
            refine ⟨⟨j + 1, by omega, by omega, by first | rfl | (simp; done), HG2, by first | rfl | trivial⟩, ?_⟩
            simp [intOf]; omega
      · have hje : j = c + 1 := by omega
        have HI : Hid (oneE M k a i c = (k, a, i, true)) := hide (if_pos ⟨unhide HL, by
          have h9 := unhide HG
          rw [List.take_of_length_le (by have := unhide HL; omega)] at h9
          exact h9⟩)
        have hgt : ¬ (j : Int) ≤ (c : Int) := by omega
        clear hje HG HX HS HL
        go_wp2
        refine bodyPost_ret (v := .tuple #[.agg #[.int .i64 k, .int .i64 a, .int .i64 i], .bool true]) (by simp (maxDischargeDepth := 9) [results, Tryd.results24, go_sem, *]) rfl ⟨k, a, i, true, rfl, unhide HI, (by repeat (first | (with_reducible exact Below.refl _ _) | (with_reducible assumption) | (with_reducible refine bel_set ?_ (by first | (simp; done) | (simp; omega)) _) | (with_reducible refine bel_alloc ?_ _) | (with_reducible refine bel_drew ?_) | (with_reducible refine bel_drewN ?_ _) | (with_reducible refine bel_trans ?_ (by with_reducible assumption))))⟩
  · have hnc2 : ¬ (n : Int) = (c : Int) + 1 := by omega
    have HI : Hid (oneE M k a i c = (0, 0, 0, false)) := hide (if_neg (fun h => by omega))
    clear h hx hl hn
    go_wp2
    refine bodyPost_ret (v := .tuple #[.agg #[.int .i64 0, .int .i64 0, .int .i64 0], .bool false]) (by simp (maxDischargeDepth := 9) [results, Tryd.results24, go_sem, *]) rfl ⟨0, 0, 0, false, rfl, unhide HI, (by repeat (first | (with_reducible exact Below.refl _ _) | (with_reducible assumption) | (with_reducible refine bel_set ?_ (by first | (simp; done) | (simp; omega)) _) | (with_reducible refine bel_alloc ?_ _) | (with_reducible refine bel_drew ?_) | (with_reducible refine bel_drewN ?_ _) | (with_reducible refine bel_trans ?_ (by with_reducible assumption))))⟩

/-- The event that words are. -/
def evX (L : List ByteArray) : Int × Int × Int × Bool := match L with
  | [] => (0, 0, 0, false)
  | x :: M => if (evK x).1 = 0 then (0, 0, 0, false) else oneE M (evK x).1 (if 0 < (evK x).2 then atN (x :: M) 1 else 0) (if 1 < (evK x).2 then atN (x :: M) 2 else 0) (evK x).2
/-- What comes of reading an event from a line. -/
def DeP (s : ByteArray) (w : World) (e : Ending) (w' : World) : Prop := ∃ L : List ByteArray, (s.size ≤ 100 → Wo (bl L) s.data.toList) ∧ (¬ s.size ≤ 100 → L = []) ∧ EvP (evX L) w e w'
set_option linter.unusedSimpArgs false in
set_option maxRecDepth 20000 in
set_option maxHeartbeats 4000000 in
theorem specdskevent_any (s : ByteArray) (w : World) (hs : s.size ≤ 1048576) : Calls Tryd.prog 10 #[.string s] w fun e w' => DeP s w e w' := by
  go_enter Tryd.func10, Tryd.ntmps10
  go_wp2_with fail
  refine (words_any s _ hs).mono ?_
  rintro e w1 ⟨v, L, rfl, hO, hW, hZ, hL, hX, hb1⟩
  obtain ⟨av, cv, rfl, hS, -, -⟩ := holdSt hO (by rw [stL_len]; omega)
  rw [stL_len] at hS ⊢
  clear hO
  have z1 : w.heap.size < w1.heap.size := by have h9 := hb1.size; simp at h9; omega
  have hR1 : w1.heap[w.heap.size]? = some (.cells #[.int .i64 0, .int .i64 0, .int .i64 0] 29 (0, 0)) := (hb1.block _ (by simp)).trans blk_at0
  have hbA : Below w.heap.size w w1 := bel_trans (bel_one _ _) hb1
  have HW := hide hW
  have HZ := hide hZ
  have HX := hide hX
  clear hW hZ hX hb1
  obtain rfl | ⟨x, M, rfl⟩ : L = [] ∨ ∃ x M, L = x :: M := by
    cases L with
    | nil => exact Or.inl rfl
    | cons x M => exact Or.inr ⟨x, M, rfl⟩
  · clear hS
    have r0 : w1.cell? ⟨w.heap.size, 0, none⟩ = some (.int .i64 0) := by simp [World.cell?, hR1, go_sem]
    have rf0 : w1.frozen? ⟨w.heap.size, 0, none⟩ = false := by simp [World.frozen?, hR1, go_sem]
    have r1 : w1.cell? ⟨w.heap.size, 1, none⟩ = some (.int .i64 0) := by simp [World.cell?, hR1, go_sem]
    have rf1 : w1.frozen? ⟨w.heap.size, 1, none⟩ = false := by simp [World.frozen?, hR1, go_sem]
    have r2 : w1.cell? ⟨w.heap.size, 2, none⟩ = some (.int .i64 0) := by simp [World.cell?, hR1, go_sem]
    have rf2 : w1.frozen? ⟨w.heap.size, 2, none⟩ = false := by simp [World.frozen?, hR1, go_sem]
    go_wp2
    refine bodyPost_ret (v := .tuple #[.agg #[.int .i64 0, .int .i64 0, .int .i64 0], .bool false]) (by simp (maxDischargeDepth := 9) [results, Tryd.results10, go_sem, *]) rfl ⟨_, unhide HW, fun _ => rfl, 0, 0, 0, false, rfl, rfl, (by repeat (first | (with_reducible exact Below.refl _ _) | (with_reducible assumption) | (with_reducible refine bel_set ?_ (by first | (simp; done) | (simp; omega)) _) | (with_reducible refine bel_alloc ?_ _) | (with_reducible refine bel_drew ?_) | (with_reducible refine bel_drewN ?_ _) | (with_reducible refine bel_trans ?_ (by with_reducible assumption))))⟩
  obtain ⟨n, hn⟩ : ∃ n, (x :: M).length = n := ⟨_, rfl⟩
  have hn1 : 1 ≤ n := by rw [← hn]; simp
  rw [hn] at hS hL ⊢
  clear hn
  obtain ⟨g, o, rfl, _⟩ := hS.2.2.resolve_left (by omega)
  have hc0 : w1.cell? ⟨g, o, none⟩ = some (.string x) := st_cell hS (k := 0) rfl
  have HS := hide hS
  have hn0 : ¬ (n : Int) = 0 := by omega
  obtain ⟨A1, hA1⟩ : ∃ A, atN (x :: M) 1 = A := ⟨_, rfl⟩
  obtain ⟨A2, hA2⟩ : ∃ A, atN (x :: M) 2 = A := ⟨_, rfl⟩
  have HA1 := hide hA1
  have HA2 := hide hA2
  clear hA1 hA2 hS
  go_wp2_with fail
  refine (l1ate _ (unhide HS) (unhide HX) (by omega) HA1).mono ?_
  rintro e w9 ⟨rfl, hw⟩
  obtain rfl := hw.symm
  clear hw
  by_cases e0 : x = ⟨#[115, 111, 117, 114, 99, 101]⟩
  ·
    have t0 := toL_yes (x := x) (l := [115, 111, 117, 114, 99, 101]) e0
    have HK : Hid (evX (x :: M) = oneE M 1 A1 0 1) := hide (by simp only [evX, evK, if_pos e0]; first | rfl | (simp [unhide HA1]; done) | (simp [unhide HA1, unhide HA2]; done))
    clear e0
    go_wp2_with fail
    refine (l12one_any (c := 1) _ _ _ _ (unhide HS) (unhide HX) (by omega)).mono ?_
    rintro e w3 ⟨k, a, i, b, rfl, hr, hb3⟩
    have HR := hide ((unhide HK).trans hr)
    have z3 := hb3.size
    have hR3 := (hb3.block w.heap.size (by omega)).trans hR1
    have hbC : Below w.heap.size w w3 := bel_trans hbA hb3
    clear hb3 hr HK HS HX hR1 hbA hc0
    have zr3 : w.heap.size < w3.heap.size := by omega
    have r0 : w3.cell? ⟨w.heap.size, 0, none⟩ = some (.int .i64 0) := by simp [World.cell?, hR3, go_sem]
    have rf0 : w3.frozen? ⟨w.heap.size, 0, none⟩ = false := by simp [World.frozen?, hR3, go_sem]
    have r1 : w3.cell? ⟨w.heap.size, 1, none⟩ = some (.int .i64 0) := by simp [World.cell?, hR3, go_sem]
    have rf1 : w3.frozen? ⟨w.heap.size, 1, none⟩ = false := by simp [World.frozen?, hR3, go_sem]
    have r2 : w3.cell? ⟨w.heap.size, 2, none⟩ = some (.int .i64 0) := by simp [World.cell?, hR3, go_sem]
    have rf2 : w3.frozen? ⟨w.heap.size, 2, none⟩ = false := by simp [World.frozen?, hR3, go_sem]
    go_wp2
    refine bodyPost_ret (v := .tuple #[.agg #[.int .i64 k, .int .i64 a, .int .i64 i], .bool b]) (by simp (maxDischargeDepth := 9) [results, Tryd.results10, go_sem, *]) rfl ⟨_, unhide HW, unhide HZ, k, a, i, b, rfl, unhide HR, (by repeat (first | (with_reducible exact Below.refl _ _) | (with_reducible assumption) | (with_reducible refine bel_set ?_ (by first | (simp; done) | (simp; omega)) _) | (with_reducible refine bel_alloc ?_ _) | (with_reducible refine bel_drew ?_) | (with_reducible refine bel_drewN ?_ _) | (with_reducible refine bel_trans ?_ (by with_reducible assumption))))⟩
  by_cases e1 : x = ⟨#[116, 97, 115, 107]⟩
  ·
    have t0 := toL_no (x := x) (l := [115, 111, 117, 114, 99, 101]) e0
    have t1 := toL_yes (x := x) (l := [116, 97, 115, 107]) e1
    have HK : Hid (evX (x :: M) = oneE M 2 A1 A2 2) := hide (by simp only [evX, evK, if_neg e0, if_pos e1]; first | rfl | (simp [unhide HA1]; done) | (simp [unhide HA1, unhide HA2]; done))
    clear e0 e1
    go_wp2_with fail
    refine (l1ate _ (unhide HS) (unhide HX) (by omega) HA2).mono ?_
    rintro e w9 ⟨rfl, hw⟩
    obtain rfl := hw.symm
    clear hw
    go_wp2_with fail
    refine (l12one_any (c := 2) _ _ _ _ (unhide HS) (unhide HX) (by omega)).mono ?_
    rintro e w3 ⟨k, a, i, b, rfl, hr, hb3⟩
    have HR := hide ((unhide HK).trans hr)
    have z3 := hb3.size
    have hR3 := (hb3.block w.heap.size (by omega)).trans hR1
    have hbC : Below w.heap.size w w3 := bel_trans hbA hb3
    clear hb3 hr HK HS HX hR1 hbA hc0
    have zr3 : w.heap.size < w3.heap.size := by omega
    have r0 : w3.cell? ⟨w.heap.size, 0, none⟩ = some (.int .i64 0) := by simp [World.cell?, hR3, go_sem]
    have rf0 : w3.frozen? ⟨w.heap.size, 0, none⟩ = false := by simp [World.frozen?, hR3, go_sem]
    have r1 : w3.cell? ⟨w.heap.size, 1, none⟩ = some (.int .i64 0) := by simp [World.cell?, hR3, go_sem]
    have rf1 : w3.frozen? ⟨w.heap.size, 1, none⟩ = false := by simp [World.frozen?, hR3, go_sem]
    have r2 : w3.cell? ⟨w.heap.size, 2, none⟩ = some (.int .i64 0) := by simp [World.cell?, hR3, go_sem]
    have rf2 : w3.frozen? ⟨w.heap.size, 2, none⟩ = false := by simp [World.frozen?, hR3, go_sem]
    go_wp2
    refine bodyPost_ret (v := .tuple #[.agg #[.int .i64 k, .int .i64 a, .int .i64 i], .bool b]) (by simp (maxDischargeDepth := 9) [results, Tryd.results10, go_sem, *]) rfl ⟨_, unhide HW, unhide HZ, k, a, i, b, rfl, unhide HR, (by repeat (first | (with_reducible exact Below.refl _ _) | (with_reducible assumption) | (with_reducible refine bel_set ?_ (by first | (simp; done) | (simp; omega)) _) | (with_reducible refine bel_alloc ?_ _) | (with_reducible refine bel_drew ?_) | (with_reducible refine bel_drewN ?_ _) | (with_reducible refine bel_trans ?_ (by with_reducible assumption))))⟩
  by_cases e2 : x = ⟨#[97, 115, 107]⟩
  ·
    have t0 := toL_no (x := x) (l := [115, 111, 117, 114, 99, 101]) e0
    have t1 := toL_no (x := x) (l := [116, 97, 115, 107]) e1
    have t2 := toL_yes (x := x) (l := [97, 115, 107]) e2
    have HK : Hid (evX (x :: M) = oneE M 3 0 0 0) := hide (by simp only [evX, evK, if_neg e0, if_neg e1, if_pos e2]; first | rfl | (simp [unhide HA1]; done) | (simp [unhide HA1, unhide HA2]; done))
    clear e0 e1 e2
    go_wp2_with fail
    refine (l12one_any (c := 0) _ _ _ _ (unhide HS) (unhide HX) (by omega)).mono ?_
    rintro e w3 ⟨k, a, i, b, rfl, hr, hb3⟩
    have HR := hide ((unhide HK).trans hr)
    have z3 := hb3.size
    have hR3 := (hb3.block w.heap.size (by omega)).trans hR1
    have hbC : Below w.heap.size w w3 := bel_trans hbA hb3
    clear hb3 hr HK HS HX hR1 hbA hc0
    have zr3 : w.heap.size < w3.heap.size := by omega
    have r0 : w3.cell? ⟨w.heap.size, 0, none⟩ = some (.int .i64 0) := by simp [World.cell?, hR3, go_sem]
    have rf0 : w3.frozen? ⟨w.heap.size, 0, none⟩ = false := by simp [World.frozen?, hR3, go_sem]
    have r1 : w3.cell? ⟨w.heap.size, 1, none⟩ = some (.int .i64 0) := by simp [World.cell?, hR3, go_sem]
    have rf1 : w3.frozen? ⟨w.heap.size, 1, none⟩ = false := by simp [World.frozen?, hR3, go_sem]
    have r2 : w3.cell? ⟨w.heap.size, 2, none⟩ = some (.int .i64 0) := by simp [World.cell?, hR3, go_sem]
    have rf2 : w3.frozen? ⟨w.heap.size, 2, none⟩ = false := by simp [World.frozen?, hR3, go_sem]
    go_wp2
    refine bodyPost_ret (v := .tuple #[.agg #[.int .i64 k, .int .i64 a, .int .i64 i], .bool b]) (by simp (maxDischargeDepth := 9) [results, Tryd.results10, go_sem, *]) rfl ⟨_, unhide HW, unhide HZ, k, a, i, b, rfl, unhide HR, (by repeat (first | (with_reducible exact Below.refl _ _) | (with_reducible assumption) | (with_reducible refine bel_set ?_ (by first | (simp; done) | (simp; omega)) _) | (with_reducible refine bel_alloc ?_ _) | (with_reducible refine bel_drew ?_) | (with_reducible refine bel_drewN ?_ _) | (with_reducible refine bel_trans ?_ (by with_reducible assumption))))⟩
  by_cases e3 : x = ⟨#[115, 97, 118, 101]⟩
  ·
    have t0 := toL_no (x := x) (l := [115, 111, 117, 114, 99, 101]) e0
    have t1 := toL_no (x := x) (l := [116, 97, 115, 107]) e1
    have t2 := toL_no (x := x) (l := [97, 115, 107]) e2
    have t3 := toL_yes (x := x) (l := [115, 97, 118, 101]) e3
    have HK : Hid (evX (x :: M) = oneE M 4 0 0 0) := hide (by simp only [evX, evK, if_neg e0, if_neg e1, if_neg e2, if_pos e3]; first | rfl | (simp [unhide HA1]; done) | (simp [unhide HA1, unhide HA2]; done))
    clear e0 e1 e2 e3
    go_wp2_with fail
    refine (l12one_any (c := 0) _ _ _ _ (unhide HS) (unhide HX) (by omega)).mono ?_
    rintro e w3 ⟨k, a, i, b, rfl, hr, hb3⟩
    have HR := hide ((unhide HK).trans hr)
    have z3 := hb3.size
    have hR3 := (hb3.block w.heap.size (by omega)).trans hR1
    have hbC : Below w.heap.size w w3 := bel_trans hbA hb3
    clear hb3 hr HK HS HX hR1 hbA hc0
    have zr3 : w.heap.size < w3.heap.size := by omega
    have r0 : w3.cell? ⟨w.heap.size, 0, none⟩ = some (.int .i64 0) := by simp [World.cell?, hR3, go_sem]
    have rf0 : w3.frozen? ⟨w.heap.size, 0, none⟩ = false := by simp [World.frozen?, hR3, go_sem]
    have r1 : w3.cell? ⟨w.heap.size, 1, none⟩ = some (.int .i64 0) := by simp [World.cell?, hR3, go_sem]
    have rf1 : w3.frozen? ⟨w.heap.size, 1, none⟩ = false := by simp [World.frozen?, hR3, go_sem]
    have r2 : w3.cell? ⟨w.heap.size, 2, none⟩ = some (.int .i64 0) := by simp [World.cell?, hR3, go_sem]
    have rf2 : w3.frozen? ⟨w.heap.size, 2, none⟩ = false := by simp [World.frozen?, hR3, go_sem]
    go_wp2
    refine bodyPost_ret (v := .tuple #[.agg #[.int .i64 k, .int .i64 a, .int .i64 i], .bool b]) (by simp (maxDischargeDepth := 9) [results, Tryd.results10, go_sem, *]) rfl ⟨_, unhide HW, unhide HZ, k, a, i, b, rfl, unhide HR, (by repeat (first | (with_reducible exact Below.refl _ _) | (with_reducible assumption) | (with_reducible refine bel_set ?_ (by first | (simp; done) | (simp; omega)) _) | (with_reducible refine bel_alloc ?_ _) | (with_reducible refine bel_drew ?_) | (with_reducible refine bel_drewN ?_ _) | (with_reducible refine bel_trans ?_ (by with_reducible assumption))))⟩
  by_cases e4 : x = ⟨#[100, 114, 111, 112]⟩
  ·
    have t0 := toL_no (x := x) (l := [115, 111, 117, 114, 99, 101]) e0
    have t1 := toL_no (x := x) (l := [116, 97, 115, 107]) e1
    have t2 := toL_no (x := x) (l := [97, 115, 107]) e2
    have t3 := toL_no (x := x) (l := [115, 97, 118, 101]) e3
    have t4 := toL_yes (x := x) (l := [100, 114, 111, 112]) e4
    have HK : Hid (evX (x :: M) = oneE M 5 0 0 0) := hide (by simp only [evX, evK, if_neg e0, if_neg e1, if_neg e2, if_neg e3, if_pos e4]; first | rfl | (simp [unhide HA1]; done) | (simp [unhide HA1, unhide HA2]; done))
    clear e0 e1 e2 e3 e4
    go_wp2_with fail
    refine (l12one_any (c := 0) _ _ _ _ (unhide HS) (unhide HX) (by omega)).mono ?_
    rintro e w3 ⟨k, a, i, b, rfl, hr, hb3⟩
    have HR := hide ((unhide HK).trans hr)
    have z3 := hb3.size
    have hR3 := (hb3.block w.heap.size (by omega)).trans hR1
    have hbC : Below w.heap.size w w3 := bel_trans hbA hb3
    clear hb3 hr HK HS HX hR1 hbA hc0
    have zr3 : w.heap.size < w3.heap.size := by omega
    have r0 : w3.cell? ⟨w.heap.size, 0, none⟩ = some (.int .i64 0) := by simp [World.cell?, hR3, go_sem]
    have rf0 : w3.frozen? ⟨w.heap.size, 0, none⟩ = false := by simp [World.frozen?, hR3, go_sem]
    have r1 : w3.cell? ⟨w.heap.size, 1, none⟩ = some (.int .i64 0) := by simp [World.cell?, hR3, go_sem]
    have rf1 : w3.frozen? ⟨w.heap.size, 1, none⟩ = false := by simp [World.frozen?, hR3, go_sem]
    have r2 : w3.cell? ⟨w.heap.size, 2, none⟩ = some (.int .i64 0) := by simp [World.cell?, hR3, go_sem]
    have rf2 : w3.frozen? ⟨w.heap.size, 2, none⟩ = false := by simp [World.frozen?, hR3, go_sem]
    go_wp2
    refine bodyPost_ret (v := .tuple #[.agg #[.int .i64 k, .int .i64 a, .int .i64 i], .bool b]) (by simp (maxDischargeDepth := 9) [results, Tryd.results10, go_sem, *]) rfl ⟨_, unhide HW, unhide HZ, k, a, i, b, rfl, unhide HR, (by repeat (first | (with_reducible exact Below.refl _ _) | (with_reducible assumption) | (with_reducible refine bel_set ?_ (by first | (simp; done) | (simp; omega)) _) | (with_reducible refine bel_alloc ?_ _) | (with_reducible refine bel_drew ?_) | (with_reducible refine bel_drewN ?_ _) | (with_reducible refine bel_trans ?_ (by with_reducible assumption))))⟩
  by_cases e5 : x = ⟨#[99, 111, 109, 109, 105, 116]⟩
  ·
    have t0 := toL_no (x := x) (l := [115, 111, 117, 114, 99, 101]) e0
    have t1 := toL_no (x := x) (l := [116, 97, 115, 107]) e1
    have t2 := toL_no (x := x) (l := [97, 115, 107]) e2
    have t3 := toL_no (x := x) (l := [115, 97, 118, 101]) e3
    have t4 := toL_no (x := x) (l := [100, 114, 111, 112]) e4
    have t5 := toL_yes (x := x) (l := [99, 111, 109, 109, 105, 116]) e5
    have HK : Hid (evX (x :: M) = oneE M 6 A1 0 1) := hide (by simp only [evX, evK, if_neg e0, if_neg e1, if_neg e2, if_neg e3, if_neg e4, if_pos e5]; first | rfl | (simp [unhide HA1]; done) | (simp [unhide HA1, unhide HA2]; done))
    clear e0 e1 e2 e3 e4 e5
    go_wp2_with fail
    refine (l12one_any (c := 1) _ _ _ _ (unhide HS) (unhide HX) (by omega)).mono ?_
    rintro e w3 ⟨k, a, i, b, rfl, hr, hb3⟩
    have HR := hide ((unhide HK).trans hr)
    have z3 := hb3.size
    have hR3 := (hb3.block w.heap.size (by omega)).trans hR1
    have hbC : Below w.heap.size w w3 := bel_trans hbA hb3
    clear hb3 hr HK HS HX hR1 hbA hc0
    have zr3 : w.heap.size < w3.heap.size := by omega
    have r0 : w3.cell? ⟨w.heap.size, 0, none⟩ = some (.int .i64 0) := by simp [World.cell?, hR3, go_sem]
    have rf0 : w3.frozen? ⟨w.heap.size, 0, none⟩ = false := by simp [World.frozen?, hR3, go_sem]
    have r1 : w3.cell? ⟨w.heap.size, 1, none⟩ = some (.int .i64 0) := by simp [World.cell?, hR3, go_sem]
    have rf1 : w3.frozen? ⟨w.heap.size, 1, none⟩ = false := by simp [World.frozen?, hR3, go_sem]
    have r2 : w3.cell? ⟨w.heap.size, 2, none⟩ = some (.int .i64 0) := by simp [World.cell?, hR3, go_sem]
    have rf2 : w3.frozen? ⟨w.heap.size, 2, none⟩ = false := by simp [World.frozen?, hR3, go_sem]
    go_wp2
    refine bodyPost_ret (v := .tuple #[.agg #[.int .i64 k, .int .i64 a, .int .i64 i], .bool b]) (by simp (maxDischargeDepth := 9) [results, Tryd.results10, go_sem, *]) rfl ⟨_, unhide HW, unhide HZ, k, a, i, b, rfl, unhide HR, (by repeat (first | (with_reducible exact Below.refl _ _) | (with_reducible assumption) | (with_reducible refine bel_set ?_ (by first | (simp; done) | (simp; omega)) _) | (with_reducible refine bel_alloc ?_ _) | (with_reducible refine bel_drew ?_) | (with_reducible refine bel_drewN ?_ _) | (with_reducible refine bel_trans ?_ (by with_reducible assumption))))⟩
  by_cases e6 : x = ⟨#[99, 114, 97, 115, 104]⟩
  ·
    have t0 := toL_no (x := x) (l := [115, 111, 117, 114, 99, 101]) e0
    have t1 := toL_no (x := x) (l := [116, 97, 115, 107]) e1
    have t2 := toL_no (x := x) (l := [97, 115, 107]) e2
    have t3 := toL_no (x := x) (l := [115, 97, 118, 101]) e3
    have t4 := toL_no (x := x) (l := [100, 114, 111, 112]) e4
    have t5 := toL_no (x := x) (l := [99, 111, 109, 109, 105, 116]) e5
    have t6 := toL_yes (x := x) (l := [99, 114, 97, 115, 104]) e6
    have HK : Hid (evX (x :: M) = oneE M 7 0 0 0) := hide (by simp only [evX, evK, if_neg e0, if_neg e1, if_neg e2, if_neg e3, if_neg e4, if_neg e5, if_pos e6]; first | rfl | (simp [unhide HA1]; done) | (simp [unhide HA1, unhide HA2]; done))
    clear e0 e1 e2 e3 e4 e5 e6
    go_wp2_with fail
    refine (l12one_any (c := 0) _ _ _ _ (unhide HS) (unhide HX) (by omega)).mono ?_
    rintro e w3 ⟨k, a, i, b, rfl, hr, hb3⟩
    have HR := hide ((unhide HK).trans hr)
    have z3 := hb3.size
    have hR3 := (hb3.block w.heap.size (by omega)).trans hR1
    have hbC : Below w.heap.size w w3 := bel_trans hbA hb3
    clear hb3 hr HK HS HX hR1 hbA hc0
    have zr3 : w.heap.size < w3.heap.size := by omega
    have r0 : w3.cell? ⟨w.heap.size, 0, none⟩ = some (.int .i64 0) := by simp [World.cell?, hR3, go_sem]
    have rf0 : w3.frozen? ⟨w.heap.size, 0, none⟩ = false := by simp [World.frozen?, hR3, go_sem]
    have r1 : w3.cell? ⟨w.heap.size, 1, none⟩ = some (.int .i64 0) := by simp [World.cell?, hR3, go_sem]
    have rf1 : w3.frozen? ⟨w.heap.size, 1, none⟩ = false := by simp [World.frozen?, hR3, go_sem]
    have r2 : w3.cell? ⟨w.heap.size, 2, none⟩ = some (.int .i64 0) := by simp [World.cell?, hR3, go_sem]
    have rf2 : w3.frozen? ⟨w.heap.size, 2, none⟩ = false := by simp [World.frozen?, hR3, go_sem]
    go_wp2
    refine bodyPost_ret (v := .tuple #[.agg #[.int .i64 k, .int .i64 a, .int .i64 i], .bool b]) (by simp (maxDischargeDepth := 9) [results, Tryd.results10, go_sem, *]) rfl ⟨_, unhide HW, unhide HZ, k, a, i, b, rfl, unhide HR, (by repeat (first | (with_reducible exact Below.refl _ _) | (with_reducible assumption) | (with_reducible refine bel_set ?_ (by first | (simp; done) | (simp; omega)) _) | (with_reducible refine bel_alloc ?_ _) | (with_reducible refine bel_drew ?_) | (with_reducible refine bel_drewN ?_ _) | (with_reducible refine bel_trans ?_ (by with_reducible assumption))))⟩
  have t0 := toL_no (x := x) (l := [115, 111, 117, 114, 99, 101]) e0
  have t1 := toL_no (x := x) (l := [116, 97, 115, 107]) e1
  have t2 := toL_no (x := x) (l := [97, 115, 107]) e2
  have t3 := toL_no (x := x) (l := [115, 97, 118, 101]) e3
  have t4 := toL_no (x := x) (l := [100, 114, 111, 112]) e4
  have t5 := toL_no (x := x) (l := [99, 111, 109, 109, 105, 116]) e5
  have t6 := toL_no (x := x) (l := [99, 114, 97, 115, 104]) e6
  have HR : Hid (evX (x :: M) = (0, 0, 0, false)) := hide (by simp only [evX, evK, if_neg e0, if_neg e1, if_neg e2, if_neg e3, if_neg e4, if_neg e5, if_neg e6]; rfl)
  clear e0 e1 e2 e3 e4 e5 e6 HS HX
  have r0 : w1.cell? ⟨w.heap.size, 0, none⟩ = some (.int .i64 0) := by simp [World.cell?, hR1, go_sem]
  have rf0 : w1.frozen? ⟨w.heap.size, 0, none⟩ = false := by simp [World.frozen?, hR1, go_sem]
  have r1 : w1.cell? ⟨w.heap.size, 1, none⟩ = some (.int .i64 0) := by simp [World.cell?, hR1, go_sem]
  have rf1 : w1.frozen? ⟨w.heap.size, 1, none⟩ = false := by simp [World.frozen?, hR1, go_sem]
  have r2 : w1.cell? ⟨w.heap.size, 2, none⟩ = some (.int .i64 0) := by simp [World.cell?, hR1, go_sem]
  have rf2 : w1.frozen? ⟨w.heap.size, 2, none⟩ = false := by simp [World.frozen?, hR1, go_sem]
  go_wp2
  refine bodyPost_ret (v := .tuple #[.agg #[.int .i64 0, .int .i64 0, .int .i64 0], .bool false]) (by simp (maxDischargeDepth := 9) [results, Tryd.results10, go_sem, *]) rfl ⟨_, unhide HW, unhide HZ, 0, 0, 0, false, rfl, unhide HR, (by repeat (first | (with_reducible exact Below.refl _ _) | (with_reducible assumption) | (with_reducible refine bel_set ?_ (by first | (simp; done) | (simp; omega)) _) | (with_reducible refine bel_alloc ?_ _) | (with_reducible refine bel_drew ?_) | (with_reducible refine bel_drewN ?_ _) | (with_reducible refine bel_trans ?_ (by with_reducible assumption))))⟩
end Go.Proofs.YtbbjjpgmekfbeaaDoor
