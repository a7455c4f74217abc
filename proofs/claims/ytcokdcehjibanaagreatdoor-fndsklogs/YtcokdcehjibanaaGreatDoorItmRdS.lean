/- Proved here: an item is read by the specification. -/
import Derived.Test.YtcokdcehjibanaaGreatDoorItmTxM
namespace Go.Proofs.YtcokdcehjibanaaGreatDoor
open Go.ChangeShapes Go.WideShapes Go.ChangeAt Go.RowKit
set_option linter.unusedVariables false


/-- What comes of reading an item: it, and whether there is one. -/
def ItP (s : ByteArray) (w : World) (e : Ending) (w' : World) : Prop := ∃ q t k v n c, e = .returned (.tuple #[.agg #[.int .i64 q, .int .i64 t, .int .i64 k, .int .i64 v, .int .i64 n], .bool c]) ∧ ItR s q t k v n c ∧ Below w.heap.size w w'
theorem specitx {q t k v n : Int} {ST : ByteArray} (w : World) (h : Hid (itmText q t k v n = ST)) : Calls Tryz.prog 25 #[.agg #[.int .i64 q, .int .i64 t, .int .i64 k, .int .i64 v, .int .i64 n]] w fun e w' => e = .returned (.string ST) ∧ Below w.heap.size w w' := by
  rw [← unhide h]; exact specitmtext_any q t k v n w
/-- The item that words are, as the specification takes them. -/
def rdX (L : List ByteArray) : Int × Int × Int × Int × Int := match L with
  | [] => (0, 0, 0, 0, 0)
  | x :: M => if x = ⟨#[114, 101, 99]⟩ then (1, atN (x :: M) 1, atN (x :: M) 2, atN (x :: M) 3, 0) else if x = ⟨#[109, 97, 114, 107]⟩ then (2, atN (x :: M) 1, 0, 0, 0) else if x = ⟨#[119, 97, 108, 108]⟩ then (3, 0, 0, 0, atN (x :: M) 1) else (0, 0, 0, 0, 0)
theorem ba_ne {a b : ByteArray} (h : a.data.toList ≠ b.data.toList) : a ≠ b := fun e => h (by rw [e])
theorem rdX_itm {q t k v n : Int} (ho : okItm q t k v n = true) : rdX (itW q t k v n) = (q, t, k, v, n) := by
  obtain ⟨hq, bt, bk, bv, bn, c1, c2, c3⟩ := okItm_bd ho
  have n1 : (⟨#[109, 97, 114, 107]⟩ : ByteArray) ≠ ⟨#[114, 101, 99]⟩ := ba_ne (by decide)
  have n2 : (⟨#[119, 97, 108, 108]⟩ : ByteArray) ≠ ⟨#[114, 101, 99]⟩ := ba_ne (by decide)
  have n3 : (⟨#[119, 97, 108, 108]⟩ : ByteArray) ≠ ⟨#[109, 97, 114, 107]⟩ := ba_ne (by decide)
  rcases hq with rfl | rfl | rfl
  · have := c1 rfl
    subst this
    simp only [itW, if_true, rdX, atN, List.getElem?_cons_succ, List.getElem?_cons_zero]
    rw [num1_decI (by omega) (by omega), num1_decI (by omega) (by omega), num1_decI (by omega) (by omega)]
  · obtain ⟨rfl, rfl, rfl⟩ := c2 rfl
    simp only [itW, if_true, if_false, Int.reduceEq, rdX, atN, List.getElem?_cons_succ, List.getElem?_cons_zero, if_neg n1]
    rw [num1_decI (by omega) (by omega)]
  · obtain ⟨rfl, rfl, rfl⟩ := c3 rfl
    simp only [itW, if_true, if_false, Int.reduceEq, rdX, atN, List.getElem?_cons_succ, List.getElem?_cons_zero, if_neg n2, if_neg n3]
    rw [num1_decI (by omega) (by omega)]
theorem itR_of {s : ByteArray} {L : List ByteArray} {q t k v n : Int} (hs : s.size ≤ 100 → Wo (bl L) s.data.toList) (hz : ¬ s.size ≤ 100 → L = []) (hx : rdX L = (q, t, k, v, n)) (h : ¬ (okItm q t k v n = true ∧ itmTxt q t k v n = s)) : ItR s 0 0 0 0 0 false := by
  refine Or.inr ⟨rfl, ⟨rfl, rfl, rfl, rfl, rfl⟩, fun q' t' k' v' n' ho e => ?_⟩
  by_cases h9 : s.size ≤ 100
  · have hL := words_itm (hs h9) ho e
    rw [hL, rdX_itm ho] at hx
    simp only [Prod.mk.injEq] at hx
    obtain ⟨rfl, rfl, rfl, rfl, rfl⟩ := hx
    exact h ⟨ho, e⟩
  · have := itmTxt_size q' t' k' v' n' ho
    rw [e] at this
    omega
theorem toL_eq {a b : ByteArray} (h : a ≠ b) : (a.toList == b.toList) = false := by
  rw [Go.ByteArray.toList_eq, Go.ByteArray.toList_eq, beq_eq_false_iff_ne]
  exact fun e => h (ByteArray.ext (Array.toList_inj.1 e))
theorem toL_no {x : ByteArray} {l : List UInt8} (h : x ≠ ⟨l.toArray⟩) : (x.toList == l) = false := by
  rw [Go.ByteArray.toList_eq, beq_eq_false_iff_ne]
  exact fun e => h (ByteArray.ext (Array.toList_inj.1 (by rw [e])))
theorem toL_yes {x : ByteArray} {l : List UInt8} (h : x = ⟨l.toArray⟩) : (x.toList == l) = true := by
  rw [h, Go.ByteArray.toList_eq]
  simp
theorem l1ate {a : Option Addr} {n cap : Nat} {L : List ByteArray} {k : Nat} {A : Int} (w : World) (h : StRs w a n (stL L)) (hx : ∀ x ∈ L, x.size ≤ 100) (hk : k ≤ 10) (hA : Hid (atN L k = A)) : Calls Tryz.prog 38 #[.slice a n cap, .int .i64 (k : Int)] w fun e w' => e = .returned (.int .i64 A) ∧ w' = w := by
  rw [← unhide hA]; exact l1at_any a n cap L k w h hx hk
theorem itmText_ne {q t k v n : Int} {ST : ByteArray} (ho : okItm q t k v n = true) (h : itmText q t k v n = ST) : ST.toList.isEmpty = false := by
  rw [← h, itmText_ok ho, Go.ByteArray.toList_eq]
  rcases (okItm_bd ho).1 with rfl | rfl | rfl <;> simp [itmTxt]

set_option linter.unusedSimpArgs false in
set_option maxRecDepth 20000 in
set_option maxHeartbeats 4000000 in
theorem specitmread_any (s : ByteArray) (w : World) (hs : s.size ≤ 1048576) : Calls Tryz.prog 23 #[.string s] w fun e w' => ItP s w e w' := by
  go_enter Tryz.func23, Tryz.ntmps23
  go_wp2_with fail
  refine (words_any s _ hs).mono ?_
  rintro e w1 ⟨v, L, rfl, hO, hW, hZ, hL, hX, hb1⟩
  obtain ⟨av, cv, rfl, hS, -, -⟩ := holdSt hO (by rw [stL_len]; omega)
  rw [stL_len] at hS ⊢
  clear hO
  have z1 : w.heap.size < w1.heap.size := by have h9 := hb1.size; simp at h9; omega
  have hR1 : w1.heap[w.heap.size]? = some (.cells #[.int .i64 0, .int .i64 0, .int .i64 0, .int .i64 0, .int .i64 0] 45 (0, 0)) := (hb1.block _ (by simp)).trans blk_at0
  have hbA : Below w.heap.size w w1 := bel_trans (bel_one _ _) hb1
  have HW := hide hW
  have HZ := hide hZ
  have HX := hide hX
  clear hW hZ hX hb1
  have hbZ : Below w1.heap.size w1 (w1.alloc (.cells #[.int .i64 0, .int .i64 0, .int .i64 0, .int .i64 0, .int .i64 0] 45)) := bel_one _ _
  obtain hLx | ⟨x0, M, hLx⟩ : L = [] ∨ ∃ x M, L = x :: M := by
    cases L with
    | nil => exact Or.inl rfl
    | cons x M => exact Or.inr ⟨x, M, rfl⟩
  · have HRX : Hid (rdX L = (0, 0, 0, 0, 0)) := hide (by rw [hLx]; rfl)
    subst hLx
    clear hS
    go_wp2_with fail
    have hbB : Below w.heap.size w (w1.alloc (.cells #[.int .i64 0, .int .i64 0, .int .i64 0, .int .i64 0, .int .i64 0] 45)) := bel_alloc hbA _
    have hX2 : (w1.alloc (.cells #[.int .i64 0, .int .i64 0, .int .i64 0, .int .i64 0, .int .i64 0] 45)).heap[w1.heap.size]? = some (.cells #[.int .i64 0, .int .i64 0, .int .i64 0, .int .i64 0, .int .i64 0] 45 (0, 0)) := blk_at0
    have hR2 : (w1.alloc (.cells #[.int .i64 0, .int .i64 0, .int .i64 0, .int .i64 0, .int .i64 0] 45)).heap[w.heap.size]? = some (.cells #[.int .i64 0, .int .i64 0, .int .i64 0, .int .i64 0, .int .i64 0] 45 (0, 0)) := ((bel_one w1 _).block _ z1).trans hR1
    have z2 : w1.heap.size < (w1.alloc (.cells #[.int .i64 0, .int .i64 0, .int .i64 0, .int .i64 0, .int .i64 0] 45)).heap.size := by simp
    generalize (w1.alloc (.cells #[.int .i64 0, .int .i64 0, .int .i64 0, .int .i64 0, .int .i64 0] 45)) = W2 at hbB hX2 hR2 z2 ⊢
    clear hbA hR1
    obtain ⟨ST, hST⟩ : ∃ ST, itmText (0) (0) (0) (0) (0) = ST := ⟨_, rfl⟩
    have HST := hide hST
    refine (specitx _ HST).mono ?_
    rintro e w3 ⟨rfl, hb3⟩
    have z3 := hb3.size
    have hX3 := (hb3.block w1.heap.size (by omega)).trans hX2
    have hR3 := (hb3.block w.heap.size (by omega)).trans hR2
    have hbC : Below w.heap.size w w3 := bel_trans hbB hb3
    clear hb3
    have zr3 : w.heap.size < w3.heap.size := by omega
    cases ho : okItm (0) (0) (0) (0) (0)
    · have HNO : ¬ (okItm (0) (0) (0) (0) (0) = true ∧ itmTxt (0) (0) (0) (0) (0) = s) := fun h => by rw [ho] at h; cases h.1
      obtain rfl : ST = ⟨#[]⟩ := hST.symm.trans (itmText_no ho)
      have hR9 := hR3
      clear ho hST hX2 hR2 hX3 hR3
      have r0 : w3.cell? ⟨w.heap.size, 0, none⟩ = some (.int .i64 0) := by simp [World.cell?, hR9, go_sem]
      have rf0 : w3.frozen? ⟨w.heap.size, 0, none⟩ = false := by simp [World.frozen?, hR9, go_sem]
      have r1 : w3.cell? ⟨w.heap.size, 1, none⟩ = some (.int .i64 0) := by simp [World.cell?, hR9, go_sem]
      have rf1 : w3.frozen? ⟨w.heap.size, 1, none⟩ = false := by simp [World.frozen?, hR9, go_sem]
      have r2 : w3.cell? ⟨w.heap.size, 2, none⟩ = some (.int .i64 0) := by simp [World.cell?, hR9, go_sem]
      have rf2 : w3.frozen? ⟨w.heap.size, 2, none⟩ = false := by simp [World.frozen?, hR9, go_sem]
      have r3 : w3.cell? ⟨w.heap.size, 3, none⟩ = some (.int .i64 0) := by simp [World.cell?, hR9, go_sem]
      have rf3 : w3.frozen? ⟨w.heap.size, 3, none⟩ = false := by simp [World.frozen?, hR9, go_sem]
      have r4 : w3.cell? ⟨w.heap.size, 4, none⟩ = some (.int .i64 0) := by simp [World.cell?, hR9, go_sem]
      have rf4 : w3.frozen? ⟨w.heap.size, 4, none⟩ = false := by simp [World.frozen?, hR9, go_sem]
      go_wp2
      refine bodyPost_ret (v := .tuple #[.agg #[.int .i64 0, .int .i64 0, .int .i64 0, .int .i64 0, .int .i64 0], .bool false]) (by simp (maxDischargeDepth := 9) [results, Tryz.results23, go_sem, *]) rfl ⟨0, 0, 0, 0, 0, false, rfl, itR_of (unhide HW) (fun _ => rfl) (unhide HRX) HNO, (by repeat (first | (with_reducible exact Below.refl _ _) | (with_reducible assumption) | (with_reducible refine bel_set ?_ (by first | (simp; done) | (simp; omega)) _) | (with_reducible refine bel_alloc ?_ _) | (with_reducible refine bel_drew ?_) | (with_reducible refine bel_drewN ?_ _) | (with_reducible refine bel_trans ?_ (by with_reducible assumption))))⟩
    · have hne := itmText_ne ho hST
      have hTx := (itmText_ok ho).symm.trans hST
      have x0 : w3.cell? ⟨w1.heap.size, 0, none⟩ = some (.int .i64 0) := by simp [World.cell?, hX3, go_sem]
      have x1 : w3.cell? ⟨w1.heap.size, 1, none⟩ = some (.int .i64 0) := by simp [World.cell?, hX3, go_sem]
      have x2 : w3.cell? ⟨w1.heap.size, 2, none⟩ = some (.int .i64 0) := by simp [World.cell?, hX3, go_sem]
      have x3 : w3.cell? ⟨w1.heap.size, 3, none⟩ = some (.int .i64 0) := by simp [World.cell?, hX3, go_sem]
      have x4 : w3.cell? ⟨w1.heap.size, 4, none⟩ = some (.int .i64 0) := by simp [World.cell?, hX3, go_sem]
      go_wp2_with fail
      refine (specitx _ HST).mono ?_
      rintro e w4 ⟨rfl, hb4⟩
      have z4 := hb4.size
      have hX4 := (hb4.block w1.heap.size (by omega)).trans hX3
      have hR9 := (hb4.block w.heap.size (by omega)).trans hR3
      have hbD : Below w.heap.size w w4 := bel_trans hbC hb4
      have zr4 : w.heap.size < w4.heap.size := by omega
      have zx4 : w1.heap.size < w4.heap.size := by omega
      clear x0 x1 x2 x3 x4 hb4 hX3 hR3 hX2 hR2
      by_cases hEq : ST = s
      · have hTs := hTx.trans hEq
        obtain rfl := hEq
        have HI : Hid (ItR ST (0) (0) (0) (0) (0) true) := hide (Or.inl ⟨rfl, ho, hTs⟩)
        clear ho hST hTx hTs
        have x0 : w4.cell? ⟨w1.heap.size, 0, none⟩ = some (.int .i64 0) := by simp [World.cell?, hX4, go_sem]
        have x1 : w4.cell? ⟨w1.heap.size, 1, none⟩ = some (.int .i64 0) := by simp [World.cell?, hX4, go_sem]
        have x2 : w4.cell? ⟨w1.heap.size, 2, none⟩ = some (.int .i64 0) := by simp [World.cell?, hX4, go_sem]
        have x3 : w4.cell? ⟨w1.heap.size, 3, none⟩ = some (.int .i64 0) := by simp [World.cell?, hX4, go_sem]
        have x4 : w4.cell? ⟨w1.heap.size, 4, none⟩ = some (.int .i64 0) := by simp [World.cell?, hX4, go_sem]
        have r0 : w4.cell? ⟨w.heap.size, 0, none⟩ = some (.int .i64 0) := by simp [World.cell?, hR9, go_sem]
        have rf0 : w4.frozen? ⟨w.heap.size, 0, none⟩ = false := by simp [World.frozen?, hR9, go_sem]
        have r1 : w4.cell? ⟨w.heap.size, 1, none⟩ = some (.int .i64 0) := by simp [World.cell?, hR9, go_sem]
        have rf1 : w4.frozen? ⟨w.heap.size, 1, none⟩ = false := by simp [World.frozen?, hR9, go_sem]
        have r2 : w4.cell? ⟨w.heap.size, 2, none⟩ = some (.int .i64 0) := by simp [World.cell?, hR9, go_sem]
        have rf2 : w4.frozen? ⟨w.heap.size, 2, none⟩ = false := by simp [World.frozen?, hR9, go_sem]
        have r3 : w4.cell? ⟨w.heap.size, 3, none⟩ = some (.int .i64 0) := by simp [World.cell?, hR9, go_sem]
        have rf3 : w4.frozen? ⟨w.heap.size, 3, none⟩ = false := by simp [World.frozen?, hR9, go_sem]
        have r4 : w4.cell? ⟨w.heap.size, 4, none⟩ = some (.int .i64 0) := by simp [World.cell?, hR9, go_sem]
        have rf4 : w4.frozen? ⟨w.heap.size, 4, none⟩ = false := by simp [World.frozen?, hR9, go_sem]
        go_wp2
        refine bodyPost_ret (v := .tuple #[.agg #[.int .i64 0, .int .i64 0, .int .i64 0, .int .i64 0, .int .i64 0], .bool true]) (by simp (maxDischargeDepth := 9) [results, Tryz.results23, go_sem, *]) rfl ⟨_, _, _, _, _, true, rfl, unhide HI, (by repeat (first | (with_reducible exact Below.refl _ _) | (with_reducible assumption) | (with_reducible refine bel_set ?_ (by first | (simp; done) | (simp; omega)) _) | (with_reducible refine bel_alloc ?_ _) | (with_reducible refine bel_drew ?_) | (with_reducible refine bel_drewN ?_ _) | (with_reducible refine bel_trans ?_ (by with_reducible assumption))))⟩
      · have HNO : ¬ (okItm (0) (0) (0) (0) (0) = true ∧ itmTxt (0) (0) (0) (0) (0) = s) := fun h => hEq (hTx.symm.trans h.2)
        have n3 := toL_eq hEq
        clear ho hST hTx hX4
        have r0 : w4.cell? ⟨w.heap.size, 0, none⟩ = some (.int .i64 0) := by simp [World.cell?, hR9, go_sem]
        have rf0 : w4.frozen? ⟨w.heap.size, 0, none⟩ = false := by simp [World.frozen?, hR9, go_sem]
        have r1 : w4.cell? ⟨w.heap.size, 1, none⟩ = some (.int .i64 0) := by simp [World.cell?, hR9, go_sem]
        have rf1 : w4.frozen? ⟨w.heap.size, 1, none⟩ = false := by simp [World.frozen?, hR9, go_sem]
        have r2 : w4.cell? ⟨w.heap.size, 2, none⟩ = some (.int .i64 0) := by simp [World.cell?, hR9, go_sem]
        have rf2 : w4.frozen? ⟨w.heap.size, 2, none⟩ = false := by simp [World.frozen?, hR9, go_sem]
        have r3 : w4.cell? ⟨w.heap.size, 3, none⟩ = some (.int .i64 0) := by simp [World.cell?, hR9, go_sem]
        have rf3 : w4.frozen? ⟨w.heap.size, 3, none⟩ = false := by simp [World.frozen?, hR9, go_sem]
        have r4 : w4.cell? ⟨w.heap.size, 4, none⟩ = some (.int .i64 0) := by simp [World.cell?, hR9, go_sem]
        have rf4 : w4.frozen? ⟨w.heap.size, 4, none⟩ = false := by simp [World.frozen?, hR9, go_sem]
        go_wp2
        refine bodyPost_ret (v := .tuple #[.agg #[.int .i64 0, .int .i64 0, .int .i64 0, .int .i64 0, .int .i64 0], .bool false]) (by simp (maxDischargeDepth := 9) [results, Tryz.results23, go_sem, *]) rfl ⟨0, 0, 0, 0, 0, false, rfl, itR_of (unhide HW) (fun _ => rfl) (unhide HRX) HNO, (by repeat (first | (with_reducible exact Below.refl _ _) | (with_reducible assumption) | (with_reducible refine bel_set ?_ (by first | (simp; done) | (simp; omega)) _) | (with_reducible refine bel_alloc ?_ _) | (with_reducible refine bel_drew ?_) | (with_reducible refine bel_drewN ?_ _) | (with_reducible refine bel_trans ?_ (by with_reducible assumption))))⟩
  · obtain ⟨g, o, rfl, _⟩ := hS.2.2.resolve_left (by rw [hLx]; simp)
    have hc0 : (w1.alloc (.cells #[.int .i64 0, .int .i64 0, .int .i64 0, .int .i64 0, .int .i64 0] 45)).cell? ⟨g, o, none⟩ = some (.string x0) := st_cell (hS.below hbZ) (k := 0) (by rw [hLx]; rfl)
    have hlp : 0 < L.length := by rw [hLx]; simp
    by_cases e1 : x0 = ⟨#[114, 101, 99]⟩
    · have r1 : (x0.toList == [114, 101, 99]) = true := toL_yes e1
      obtain ⟨A1, hA1⟩ : ∃ A, atN L 1 = A := ⟨_, rfl⟩
      obtain ⟨A2, hA2⟩ : ∃ A, atN L 2 = A := ⟨_, rfl⟩
      obtain ⟨A3, hA3⟩ : ∃ A, atN L 3 = A := ⟨_, rfl⟩
      have hRX : rdX L = (1, A1, A2, A3, 0) := by rw [hLx]; simp only [rdX, if_pos e1]; rw [← hLx, hA1, hA2, hA3]
      have HA1 := hide hA1
      have HA2 := hide hA2
      have HA3 := hide hA3
      have HRX := hide hRX
      clear hRX hA1 hA2 hA3
      clear hLx e1
      have hS2 := hide (hS.below hbZ)
      go_wp2_with fail
      refine (l1ate _ (unhide hS2) (unhide HX) (by omega) HA1).mono ?_
      rintro e w9 ⟨rfl, hw⟩
      obtain rfl := hw.symm
      clear hw
      go_wp2_with fail
      refine (l1ate _ (unhide hS2) (unhide HX) (by omega) HA2).mono ?_
      rintro e w9 ⟨rfl, hw⟩
      obtain rfl := hw.symm
      clear hw
      go_wp2_with fail
      refine (l1ate _ (unhide hS2) (unhide HX) (by omega) HA3).mono ?_
      rintro e w9 ⟨rfl, hw⟩
      obtain rfl := hw.symm
      clear hw
      go_wp2_with fail
      have hbB : Below w.heap.size w (w1.alloc (.cells #[.int .i64 1, .int .i64 A1, .int .i64 A2, .int .i64 A3, .int .i64 0] 45)) := bel_alloc hbA _
      have hX2 : (w1.alloc (.cells #[.int .i64 1, .int .i64 A1, .int .i64 A2, .int .i64 A3, .int .i64 0] 45)).heap[w1.heap.size]? = some (.cells #[.int .i64 1, .int .i64 A1, .int .i64 A2, .int .i64 A3, .int .i64 0] 45 (0, 0)) := blk_at0
      have hR2 : (w1.alloc (.cells #[.int .i64 1, .int .i64 A1, .int .i64 A2, .int .i64 A3, .int .i64 0] 45)).heap[w.heap.size]? = some (.cells #[.int .i64 0, .int .i64 0, .int .i64 0, .int .i64 0, .int .i64 0] 45 (0, 0)) := ((bel_one w1 _).block _ z1).trans hR1
      have z2 : w1.heap.size < (w1.alloc (.cells #[.int .i64 1, .int .i64 A1, .int .i64 A2, .int .i64 A3, .int .i64 0] 45)).heap.size := by simp
      generalize (w1.alloc (.cells #[.int .i64 1, .int .i64 A1, .int .i64 A2, .int .i64 A3, .int .i64 0] 45)) = W2 at hbB hX2 hR2 z2 ⊢
      clear hbA hR1
      obtain ⟨ST, hST⟩ : ∃ ST, itmText (1) (A1) (A2) (A3) (0) = ST := ⟨_, rfl⟩
      have HST := hide hST
      refine (specitx _ HST).mono ?_
      rintro e w3 ⟨rfl, hb3⟩
      have z3 := hb3.size
      have hX3 := (hb3.block w1.heap.size (by omega)).trans hX2
      have hR3 := (hb3.block w.heap.size (by omega)).trans hR2
      have hbC : Below w.heap.size w w3 := bel_trans hbB hb3
      clear hb3
      have zr3 : w.heap.size < w3.heap.size := by omega
      cases ho : okItm (1) (A1) (A2) (A3) (0)
      · have HNO : ¬ (okItm (1) (A1) (A2) (A3) (0) = true ∧ itmTxt (1) (A1) (A2) (A3) (0) = s) := fun h => by rw [ho] at h; cases h.1
        obtain rfl : ST = ⟨#[]⟩ := hST.symm.trans (itmText_no ho)
        have hR9 := hR3
        clear ho hST hX2 hR2 hX3 hR3
        have r0 : w3.cell? ⟨w.heap.size, 0, none⟩ = some (.int .i64 0) := by simp [World.cell?, hR9, go_sem]
        have rf0 : w3.frozen? ⟨w.heap.size, 0, none⟩ = false := by simp [World.frozen?, hR9, go_sem]
        have r1 : w3.cell? ⟨w.heap.size, 1, none⟩ = some (.int .i64 0) := by simp [World.cell?, hR9, go_sem]
        have rf1 : w3.frozen? ⟨w.heap.size, 1, none⟩ = false := by simp [World.frozen?, hR9, go_sem]
        have r2 : w3.cell? ⟨w.heap.size, 2, none⟩ = some (.int .i64 0) := by simp [World.cell?, hR9, go_sem]
        have rf2 : w3.frozen? ⟨w.heap.size, 2, none⟩ = false := by simp [World.frozen?, hR9, go_sem]
        have r3 : w3.cell? ⟨w.heap.size, 3, none⟩ = some (.int .i64 0) := by simp [World.cell?, hR9, go_sem]
        have rf3 : w3.frozen? ⟨w.heap.size, 3, none⟩ = false := by simp [World.frozen?, hR9, go_sem]
        have r4 : w3.cell? ⟨w.heap.size, 4, none⟩ = some (.int .i64 0) := by simp [World.cell?, hR9, go_sem]
        have rf4 : w3.frozen? ⟨w.heap.size, 4, none⟩ = false := by simp [World.frozen?, hR9, go_sem]
        go_wp2
        refine bodyPost_ret (v := .tuple #[.agg #[.int .i64 0, .int .i64 0, .int .i64 0, .int .i64 0, .int .i64 0], .bool false]) (by simp (maxDischargeDepth := 9) [results, Tryz.results23, go_sem, *]) rfl ⟨0, 0, 0, 0, 0, false, rfl, itR_of (unhide HW) (unhide HZ) (unhide HRX) HNO, (by repeat (first | (with_reducible exact Below.refl _ _) | (with_reducible assumption) | (with_reducible refine bel_set ?_ (by first | (simp; done) | (simp; omega)) _) | (with_reducible refine bel_alloc ?_ _) | (with_reducible refine bel_drew ?_) | (with_reducible refine bel_drewN ?_ _) | (with_reducible refine bel_trans ?_ (by with_reducible assumption))))⟩
      · have hne := itmText_ne ho hST
        have hTx := (itmText_ok ho).symm.trans hST
        have x0 : w3.cell? ⟨w1.heap.size, 0, none⟩ = some (.int .i64 1) := by simp [World.cell?, hX3, go_sem]
        have x1 : w3.cell? ⟨w1.heap.size, 1, none⟩ = some (.int .i64 A1) := by simp [World.cell?, hX3, go_sem]
        have x2 : w3.cell? ⟨w1.heap.size, 2, none⟩ = some (.int .i64 A2) := by simp [World.cell?, hX3, go_sem]
        have x3 : w3.cell? ⟨w1.heap.size, 3, none⟩ = some (.int .i64 A3) := by simp [World.cell?, hX3, go_sem]
        have x4 : w3.cell? ⟨w1.heap.size, 4, none⟩ = some (.int .i64 0) := by simp [World.cell?, hX3, go_sem]
        go_wp2_with fail
        refine (specitx _ HST).mono ?_
        rintro e w4 ⟨rfl, hb4⟩
        have z4 := hb4.size
        have hX4 := (hb4.block w1.heap.size (by omega)).trans hX3
        have hR9 := (hb4.block w.heap.size (by omega)).trans hR3
        have hbD : Below w.heap.size w w4 := bel_trans hbC hb4
        have zr4 : w.heap.size < w4.heap.size := by omega
        have zx4 : w1.heap.size < w4.heap.size := by omega
        clear x0 x1 x2 x3 x4 hb4 hX3 hR3 hX2 hR2
        by_cases hEq : ST = s
        · have hTs := hTx.trans hEq
          obtain rfl := hEq
          have HI : Hid (ItR ST (1) (A1) (A2) (A3) (0) true) := hide (Or.inl ⟨rfl, ho, hTs⟩)
          clear ho hST hTx hTs
          have x0 : w4.cell? ⟨w1.heap.size, 0, none⟩ = some (.int .i64 1) := by simp [World.cell?, hX4, go_sem]
          have x1 : w4.cell? ⟨w1.heap.size, 1, none⟩ = some (.int .i64 A1) := by simp [World.cell?, hX4, go_sem]
          have x2 : w4.cell? ⟨w1.heap.size, 2, none⟩ = some (.int .i64 A2) := by simp [World.cell?, hX4, go_sem]
          have x3 : w4.cell? ⟨w1.heap.size, 3, none⟩ = some (.int .i64 A3) := by simp [World.cell?, hX4, go_sem]
          have x4 : w4.cell? ⟨w1.heap.size, 4, none⟩ = some (.int .i64 0) := by simp [World.cell?, hX4, go_sem]
          have r0 : w4.cell? ⟨w.heap.size, 0, none⟩ = some (.int .i64 0) := by simp [World.cell?, hR9, go_sem]
          have rf0 : w4.frozen? ⟨w.heap.size, 0, none⟩ = false := by simp [World.frozen?, hR9, go_sem]
          have r1 : w4.cell? ⟨w.heap.size, 1, none⟩ = some (.int .i64 0) := by simp [World.cell?, hR9, go_sem]
          have rf1 : w4.frozen? ⟨w.heap.size, 1, none⟩ = false := by simp [World.frozen?, hR9, go_sem]
          have r2 : w4.cell? ⟨w.heap.size, 2, none⟩ = some (.int .i64 0) := by simp [World.cell?, hR9, go_sem]
          have rf2 : w4.frozen? ⟨w.heap.size, 2, none⟩ = false := by simp [World.frozen?, hR9, go_sem]
          have r3 : w4.cell? ⟨w.heap.size, 3, none⟩ = some (.int .i64 0) := by simp [World.cell?, hR9, go_sem]
          have rf3 : w4.frozen? ⟨w.heap.size, 3, none⟩ = false := by simp [World.frozen?, hR9, go_sem]
          have r4 : w4.cell? ⟨w.heap.size, 4, none⟩ = some (.int .i64 0) := by simp [World.cell?, hR9, go_sem]
          have rf4 : w4.frozen? ⟨w.heap.size, 4, none⟩ = false := by simp [World.frozen?, hR9, go_sem]
          go_wp2
          refine bodyPost_ret (v := .tuple #[.agg #[.int .i64 1, .int .i64 A1, .int .i64 A2, .int .i64 A3, .int .i64 0], .bool true]) (by simp (maxDischargeDepth := 9) [results, Tryz.results23, go_sem, *]) rfl ⟨_, _, _, _, _, true, rfl, unhide HI, (by repeat (first | (with_reducible exact Below.refl _ _) | (with_reducible assumption) | (with_reducible refine bel_set ?_ (by first | (simp; done) | (simp; omega)) _) | (with_reducible refine bel_alloc ?_ _) | (with_reducible refine bel_drew ?_) | (with_reducible refine bel_drewN ?_ _) | (with_reducible refine bel_trans ?_ (by with_reducible assumption))))⟩
        · have HNO : ¬ (okItm (1) (A1) (A2) (A3) (0) = true ∧ itmTxt (1) (A1) (A2) (A3) (0) = s) := fun h => hEq (hTx.symm.trans h.2)
          have n3 := toL_eq hEq
          clear ho hST hTx hX4
          have r0 : w4.cell? ⟨w.heap.size, 0, none⟩ = some (.int .i64 0) := by simp [World.cell?, hR9, go_sem]
          have rf0 : w4.frozen? ⟨w.heap.size, 0, none⟩ = false := by simp [World.frozen?, hR9, go_sem]
          have r1 : w4.cell? ⟨w.heap.size, 1, none⟩ = some (.int .i64 0) := by simp [World.cell?, hR9, go_sem]
          have rf1 : w4.frozen? ⟨w.heap.size, 1, none⟩ = false := by simp [World.frozen?, hR9, go_sem]
          have r2 : w4.cell? ⟨w.heap.size, 2, none⟩ = some (.int .i64 0) := by simp [World.cell?, hR9, go_sem]
          have rf2 : w4.frozen? ⟨w.heap.size, 2, none⟩ = false := by simp [World.frozen?, hR9, go_sem]
          have r3 : w4.cell? ⟨w.heap.size, 3, none⟩ = some (.int .i64 0) := by simp [World.cell?, hR9, go_sem]
          have rf3 : w4.frozen? ⟨w.heap.size, 3, none⟩ = false := by simp [World.frozen?, hR9, go_sem]
          have r4 : w4.cell? ⟨w.heap.size, 4, none⟩ = some (.int .i64 0) := by simp [World.cell?, hR9, go_sem]
          have rf4 : w4.frozen? ⟨w.heap.size, 4, none⟩ = false := by simp [World.frozen?, hR9, go_sem]
          go_wp2
          refine bodyPost_ret (v := .tuple #[.agg #[.int .i64 0, .int .i64 0, .int .i64 0, .int .i64 0, .int .i64 0], .bool false]) (by simp (maxDischargeDepth := 9) [results, Tryz.results23, go_sem, *]) rfl ⟨0, 0, 0, 0, 0, false, rfl, itR_of (unhide HW) (unhide HZ) (unhide HRX) HNO, (by repeat (first | (with_reducible exact Below.refl _ _) | (with_reducible assumption) | (with_reducible refine bel_set ?_ (by first | (simp; done) | (simp; omega)) _) | (with_reducible refine bel_alloc ?_ _) | (with_reducible refine bel_drew ?_) | (with_reducible refine bel_drewN ?_ _) | (with_reducible refine bel_trans ?_ (by with_reducible assumption))))⟩
    · have r1 : (x0.toList == [114, 101, 99]) = false := toL_no (l := [114, 101, 99]) e1
      by_cases e2 : x0 = ⟨#[109, 97, 114, 107]⟩
      · have r2 : (x0.toList == [109, 97, 114, 107]) = true := toL_yes e2
        obtain ⟨A1, hA1⟩ : ∃ A, atN L 1 = A := ⟨_, rfl⟩
        have hRX : rdX L = (2, A1, 0, 0, 0) := by rw [hLx]; simp only [rdX, if_neg e1, if_pos e2]; rw [← hLx, hA1]
        have HA1 := hide hA1
        have HRX := hide hRX
        clear hRX hA1
        clear hLx e1 e2
        have hS2 := hide (hS.below hbZ)
        go_wp2_with fail
        refine (l1ate _ (unhide hS2) (unhide HX) (by omega) HA1).mono ?_
        rintro e w9 ⟨rfl, hw⟩
        obtain rfl := hw.symm
        clear hw
        go_wp2_with fail
        have hbB : Below w.heap.size w (w1.alloc (.cells #[.int .i64 2, .int .i64 A1, .int .i64 0, .int .i64 0, .int .i64 0] 45)) := bel_alloc hbA _
        have hX2 : (w1.alloc (.cells #[.int .i64 2, .int .i64 A1, .int .i64 0, .int .i64 0, .int .i64 0] 45)).heap[w1.heap.size]? = some (.cells #[.int .i64 2, .int .i64 A1, .int .i64 0, .int .i64 0, .int .i64 0] 45 (0, 0)) := blk_at0
        have hR2 : (w1.alloc (.cells #[.int .i64 2, .int .i64 A1, .int .i64 0, .int .i64 0, .int .i64 0] 45)).heap[w.heap.size]? = some (.cells #[.int .i64 0, .int .i64 0, .int .i64 0, .int .i64 0, .int .i64 0] 45 (0, 0)) := ((bel_one w1 _).block _ z1).trans hR1
        have z2 : w1.heap.size < (w1.alloc (.cells #[.int .i64 2, .int .i64 A1, .int .i64 0, .int .i64 0, .int .i64 0] 45)).heap.size := by simp
        generalize (w1.alloc (.cells #[.int .i64 2, .int .i64 A1, .int .i64 0, .int .i64 0, .int .i64 0] 45)) = W2 at hbB hX2 hR2 z2 ⊢
        clear hbA hR1
        obtain ⟨ST, hST⟩ : ∃ ST, itmText (2) (A1) (0) (0) (0) = ST := ⟨_, rfl⟩
        have HST := hide hST
        refine (specitx _ HST).mono ?_
        rintro e w3 ⟨rfl, hb3⟩
        have z3 := hb3.size
        have hX3 := (hb3.block w1.heap.size (by omega)).trans hX2
        have hR3 := (hb3.block w.heap.size (by omega)).trans hR2
        have hbC : Below w.heap.size w w3 := bel_trans hbB hb3
        clear hb3
        have zr3 : w.heap.size < w3.heap.size := by omega
        cases ho : okItm (2) (A1) (0) (0) (0)
        · have HNO : ¬ (okItm (2) (A1) (0) (0) (0) = true ∧ itmTxt (2) (A1) (0) (0) (0) = s) := fun h => by rw [ho] at h; cases h.1
          obtain rfl : ST = ⟨#[]⟩ := hST.symm.trans (itmText_no ho)
          have hR9 := hR3
          clear ho hST hX2 hR2 hX3 hR3
          have r0 : w3.cell? ⟨w.heap.size, 0, none⟩ = some (.int .i64 0) := by simp [World.cell?, hR9, go_sem]
          have rf0 : w3.frozen? ⟨w.heap.size, 0, none⟩ = false := by simp [World.frozen?, hR9, go_sem]
          have r1 : w3.cell? ⟨w.heap.size, 1, none⟩ = some (.int .i64 0) := by simp [World.cell?, hR9, go_sem]
          have rf1 : w3.frozen? ⟨w.heap.size, 1, none⟩ = false := by simp [World.frozen?, hR9, go_sem]
          have r2 : w3.cell? ⟨w.heap.size, 2, none⟩ = some (.int .i64 0) := by simp [World.cell?, hR9, go_sem]
          have rf2 : w3.frozen? ⟨w.heap.size, 2, none⟩ = false := by simp [World.frozen?, hR9, go_sem]
          have r3 : w3.cell? ⟨w.heap.size, 3, none⟩ = some (.int .i64 0) := by simp [World.cell?, hR9, go_sem]
          have rf3 : w3.frozen? ⟨w.heap.size, 3, none⟩ = false := by simp [World.frozen?, hR9, go_sem]
          have r4 : w3.cell? ⟨w.heap.size, 4, none⟩ = some (.int .i64 0) := by simp [World.cell?, hR9, go_sem]
          have rf4 : w3.frozen? ⟨w.heap.size, 4, none⟩ = false := by simp [World.frozen?, hR9, go_sem]
          go_wp2
          refine bodyPost_ret (v := .tuple #[.agg #[.int .i64 0, .int .i64 0, .int .i64 0, .int .i64 0, .int .i64 0], .bool false]) (by simp (maxDischargeDepth := 9) [results, Tryz.results23, go_sem, *]) rfl ⟨0, 0, 0, 0, 0, false, rfl, itR_of (unhide HW) (unhide HZ) (unhide HRX) HNO, (by repeat (first | (with_reducible exact Below.refl _ _) | (with_reducible assumption) | (with_reducible refine bel_set ?_ (by first | (simp; done) | (simp; omega)) _) | (with_reducible refine bel_alloc ?_ _) | (with_reducible refine bel_drew ?_) | (with_reducible refine bel_drewN ?_ _) | (with_reducible refine bel_trans ?_ (by with_reducible assumption))))⟩
        · have hne := itmText_ne ho hST
          have hTx := (itmText_ok ho).symm.trans hST
          have x0 : w3.cell? ⟨w1.heap.size, 0, none⟩ = some (.int .i64 2) := by simp [World.cell?, hX3, go_sem]
          have x1 : w3.cell? ⟨w1.heap.size, 1, none⟩ = some (.int .i64 A1) := by simp [World.cell?, hX3, go_sem]
          have x2 : w3.cell? ⟨w1.heap.size, 2, none⟩ = some (.int .i64 0) := by simp [World.cell?, hX3, go_sem]
          have x3 : w3.cell? ⟨w1.heap.size, 3, none⟩ = some (.int .i64 0) := by simp [World.cell?, hX3, go_sem]
          have x4 : w3.cell? ⟨w1.heap.size, 4, none⟩ = some (.int .i64 0) := by simp [World.cell?, hX3, go_sem]
          go_wp2_with fail
          refine (specitx _ HST).mono ?_
          rintro e w4 ⟨rfl, hb4⟩
          have z4 := hb4.size
          have hX4 := (hb4.block w1.heap.size (by omega)).trans hX3
          have hR9 := (hb4.block w.heap.size (by omega)).trans hR3
          have hbD : Below w.heap.size w w4 := bel_trans hbC hb4
          have zr4 : w.heap.size < w4.heap.size := by omega
          have zx4 : w1.heap.size < w4.heap.size := by omega
          clear x0 x1 x2 x3 x4 hb4 hX3 hR3 hX2 hR2
          by_cases hEq : ST = s
          · have hTs := hTx.trans hEq
            obtain rfl := hEq
            have HI : Hid (ItR ST (2) (A1) (0) (0) (0) true) := hide (Or.inl ⟨rfl, ho, hTs⟩)
            clear ho hST hTx hTs
            have x0 : w4.cell? ⟨w1.heap.size, 0, none⟩ = some (.int .i64 2) := by simp [World.cell?, hX4, go_sem]
            have x1 : w4.cell? ⟨w1.heap.size, 1, none⟩ = some (.int .i64 A1) := by simp [World.cell?, hX4, go_sem]
            have x2 : w4.cell? ⟨w1.heap.size, 2, none⟩ = some (.int .i64 0) := by simp [World.cell?, hX4, go_sem]
            have x3 : w4.cell? ⟨w1.heap.size, 3, none⟩ = some (.int .i64 0) := by simp [World.cell?, hX4, go_sem]
            have x4 : w4.cell? ⟨w1.heap.size, 4, none⟩ = some (.int .i64 0) := by simp [World.cell?, hX4, go_sem]
            have r0 : w4.cell? ⟨w.heap.size, 0, none⟩ = some (.int .i64 0) := by simp [World.cell?, hR9, go_sem]
            have rf0 : w4.frozen? ⟨w.heap.size, 0, none⟩ = false := by simp [World.frozen?, hR9, go_sem]
            have r1 : w4.cell? ⟨w.heap.size, 1, none⟩ = some (.int .i64 0) := by simp [World.cell?, hR9, go_sem]
            have rf1 : w4.frozen? ⟨w.heap.size, 1, none⟩ = false := by simp [World.frozen?, hR9, go_sem]
            have r2 : w4.cell? ⟨w.heap.size, 2, none⟩ = some (.int .i64 0) := by simp [World.cell?, hR9, go_sem]
            have rf2 : w4.frozen? ⟨w.heap.size, 2, none⟩ = false := by simp [World.frozen?, hR9, go_sem]
            have r3 : w4.cell? ⟨w.heap.size, 3, none⟩ = some (.int .i64 0) := by simp [World.cell?, hR9, go_sem]
            have rf3 : w4.frozen? ⟨w.heap.size, 3, none⟩ = false := by simp [World.frozen?, hR9, go_sem]
            have r4 : w4.cell? ⟨w.heap.size, 4, none⟩ = some (.int .i64 0) := by simp [World.cell?, hR9, go_sem]
            have rf4 : w4.frozen? ⟨w.heap.size, 4, none⟩ = false := by simp [World.frozen?, hR9, go_sem]
            go_wp2
            refine bodyPost_ret (v := .tuple #[.agg #[.int .i64 2, .int .i64 A1, .int .i64 0, .int .i64 0, .int .i64 0], .bool true]) (by simp (maxDischargeDepth := 9) [results, Tryz.results23, go_sem, *]) rfl ⟨_, _, _, _, _, true, rfl, unhide HI, (by repeat (first | (with_reducible exact Below.refl _ _) | (with_reducible assumption) | (with_reducible refine bel_set ?_ (by first | (simp; done) | (simp; omega)) _) | (with_reducible refine bel_alloc ?_ _) | (with_reducible refine bel_drew ?_) | (with_reducible refine bel_drewN ?_ _) | (with_reducible refine bel_trans ?_ (by with_reducible assumption))))⟩
          · have HNO : ¬ (okItm (2) (A1) (0) (0) (0) = true ∧ itmTxt (2) (A1) (0) (0) (0) = s) := fun h => hEq (hTx.symm.trans h.2)
            have n3 := toL_eq hEq
            clear ho hST hTx hX4
            have r0 : w4.cell? ⟨w.heap.size, 0, none⟩ = some (.int .i64 0) := by simp [World.cell?, hR9, go_sem]
            have rf0 : w4.frozen? ⟨w.heap.size, 0, none⟩ = false := by simp [World.frozen?, hR9, go_sem]
            have r1 : w4.cell? ⟨w.heap.size, 1, none⟩ = some (.int .i64 0) := by simp [World.cell?, hR9, go_sem]
            have rf1 : w4.frozen? ⟨w.heap.size, 1, none⟩ = false := by simp [World.frozen?, hR9, go_sem]
            have r2 : w4.cell? ⟨w.heap.size, 2, none⟩ = some (.int .i64 0) := by simp [World.cell?, hR9, go_sem]
            have rf2 : w4.frozen? ⟨w.heap.size, 2, none⟩ = false := by simp [World.frozen?, hR9, go_sem]
            have r3 : w4.cell? ⟨w.heap.size, 3, none⟩ = some (.int .i64 0) := by simp [World.cell?, hR9, go_sem]
            have rf3 : w4.frozen? ⟨w.heap.size, 3, none⟩ = false := by simp [World.frozen?, hR9, go_sem]
            have r4 : w4.cell? ⟨w.heap.size, 4, none⟩ = some (.int .i64 0) := by simp [World.cell?, hR9, go_sem]
            have rf4 : w4.frozen? ⟨w.heap.size, 4, none⟩ = false := by simp [World.frozen?, hR9, go_sem]
            go_wp2
            refine bodyPost_ret (v := .tuple #[.agg #[.int .i64 0, .int .i64 0, .int .i64 0, .int .i64 0, .int .i64 0], .bool false]) (by simp (maxDischargeDepth := 9) [results, Tryz.results23, go_sem, *]) rfl ⟨0, 0, 0, 0, 0, false, rfl, itR_of (unhide HW) (unhide HZ) (unhide HRX) HNO, (by repeat (first | (with_reducible exact Below.refl _ _) | (with_reducible assumption) | (with_reducible refine bel_set ?_ (by first | (simp; done) | (simp; omega)) _) | (with_reducible refine bel_alloc ?_ _) | (with_reducible refine bel_drew ?_) | (with_reducible refine bel_drewN ?_ _) | (with_reducible refine bel_trans ?_ (by with_reducible assumption))))⟩
      · have r2 : (x0.toList == [109, 97, 114, 107]) = false := toL_no (l := [109, 97, 114, 107]) e2
        by_cases e3 : x0 = ⟨#[119, 97, 108, 108]⟩
        · have r3 : (x0.toList == [119, 97, 108, 108]) = true := toL_yes e3
          obtain ⟨A1, hA1⟩ : ∃ A, atN L 1 = A := ⟨_, rfl⟩
          have hRX : rdX L = (3, 0, 0, 0, A1) := by rw [hLx]; simp only [rdX, if_neg e1, if_neg e2, if_pos e3]; rw [← hLx, hA1]
          have HA1 := hide hA1
          have HRX := hide hRX
          clear hRX hA1
          clear hLx e1 e2 e3
          have hS2 := hide (hS.below hbZ)
          go_wp2_with fail
          refine (l1ate _ (unhide hS2) (unhide HX) (by omega) HA1).mono ?_
          rintro e w9 ⟨rfl, hw⟩
          obtain rfl := hw.symm
          clear hw
          go_wp2_with fail
          have hbB : Below w.heap.size w (w1.alloc (.cells #[.int .i64 3, .int .i64 0, .int .i64 0, .int .i64 0, .int .i64 A1] 45)) := bel_alloc hbA _
          have hX2 : (w1.alloc (.cells #[.int .i64 3, .int .i64 0, .int .i64 0, .int .i64 0, .int .i64 A1] 45)).heap[w1.heap.size]? = some (.cells #[.int .i64 3, .int .i64 0, .int .i64 0, .int .i64 0, .int .i64 A1] 45 (0, 0)) := blk_at0
          have hR2 : (w1.alloc (.cells #[.int .i64 3, .int .i64 0, .int .i64 0, .int .i64 0, .int .i64 A1] 45)).heap[w.heap.size]? = some (.cells #[.int .i64 0, .int .i64 0, .int .i64 0, .int .i64 0, .int .i64 0] 45 (0, 0)) := ((bel_one w1 _).block _ z1).trans hR1
          have z2 : w1.heap.size < (w1.alloc (.cells #[.int .i64 3, .int .i64 0, .int .i64 0, .int .i64 0, .int .i64 A1] 45)).heap.size := by simp
          generalize (w1.alloc (.cells #[.int .i64 3, .int .i64 0, .int .i64 0, .int .i64 0, .int .i64 A1] 45)) = W2 at hbB hX2 hR2 z2 ⊢
          clear hbA hR1
          obtain ⟨ST, hST⟩ : ∃ ST, itmText (3) (0) (0) (0) (A1) = ST := ⟨_, rfl⟩
          have HST := hide hST
          refine (specitx _ HST).mono ?_
          rintro e w3 ⟨rfl, hb3⟩
          have z3 := hb3.size
          have hX3 := (hb3.block w1.heap.size (by omega)).trans hX2
          have hR3 := (hb3.block w.heap.size (by omega)).trans hR2
          have hbC : Below w.heap.size w w3 := bel_trans hbB hb3
          clear hb3
          have zr3 : w.heap.size < w3.heap.size := by omega
          cases ho : okItm (3) (0) (0) (0) (A1)
          · have HNO : ¬ (okItm (3) (0) (0) (0) (A1) = true ∧ itmTxt (3) (0) (0) (0) (A1) = s) := fun h => by rw [ho] at h; cases h.1
            obtain rfl : ST = ⟨#[]⟩ := hST.symm.trans (itmText_no ho)
            have hR9 := hR3
            clear ho hST hX2 hR2 hX3 hR3
            have r0 : w3.cell? ⟨w.heap.size, 0, none⟩ = some (.int .i64 0) := by simp [World.cell?, hR9, go_sem]
            have rf0 : w3.frozen? ⟨w.heap.size, 0, none⟩ = false := by simp [World.frozen?, hR9, go_sem]
            have r1 : w3.cell? ⟨w.heap.size, 1, none⟩ = some (.int .i64 0) := by simp [World.cell?, hR9, go_sem]
            have rf1 : w3.frozen? ⟨w.heap.size, 1, none⟩ = false := by simp [World.frozen?, hR9, go_sem]
            have r2 : w3.cell? ⟨w.heap.size, 2, none⟩ = some (.int .i64 0) := by simp [World.cell?, hR9, go_sem]
            have rf2 : w3.frozen? ⟨w.heap.size, 2, none⟩ = false := by simp [World.frozen?, hR9, go_sem]
            have r3 : w3.cell? ⟨w.heap.size, 3, none⟩ = some (.int .i64 0) := by simp [World.cell?, hR9, go_sem]
            have rf3 : w3.frozen? ⟨w.heap.size, 3, none⟩ = false := by simp [World.frozen?, hR9, go_sem]
            have r4 : w3.cell? ⟨w.heap.size, 4, none⟩ = some (.int .i64 0) := by simp [World.cell?, hR9, go_sem]
            have rf4 : w3.frozen? ⟨w.heap.size, 4, none⟩ = false := by simp [World.frozen?, hR9, go_sem]
            go_wp2
            refine bodyPost_ret (v := .tuple #[.agg #[.int .i64 0, .int .i64 0, .int .i64 0, .int .i64 0, .int .i64 0], .bool false]) (by simp (maxDischargeDepth := 9) [results, Tryz.results23, go_sem, *]) rfl ⟨0, 0, 0, 0, 0, false, rfl, itR_of (unhide HW) (unhide HZ) (unhide HRX) HNO, (by repeat (first | (with_reducible exact Below.refl _ _) | (with_reducible assumption) | (with_reducible refine bel_set ?_ (by first | (simp; done) | (simp; omega)) _) | (with_reducible refine bel_alloc ?_ _) | (with_reducible refine bel_drew ?_) | (with_reducible refine bel_drewN ?_ _) | (with_reducible refine bel_trans ?_ (by with_reducible assumption))))⟩
          · have hne := itmText_ne ho hST
            have hTx := (itmText_ok ho).symm.trans hST
            have x0 : w3.cell? ⟨w1.heap.size, 0, none⟩ = some (.int .i64 3) := by simp [World.cell?, hX3, go_sem]
            have x1 : w3.cell? ⟨w1.heap.size, 1, none⟩ = some (.int .i64 0) := by simp [World.cell?, hX3, go_sem]
            have x2 : w3.cell? ⟨w1.heap.size, 2, none⟩ = some (.int .i64 0) := by simp [World.cell?, hX3, go_sem]
            have x3 : w3.cell? ⟨w1.heap.size, 3, none⟩ = some (.int .i64 0) := by simp [World.cell?, hX3, go_sem]
            have x4 : w3.cell? ⟨w1.heap.size, 4, none⟩ = some (.int .i64 A1) := by simp [World.cell?, hX3, go_sem]
            go_wp2_with fail
            refine (specitx _ HST).mono ?_
            rintro e w4 ⟨rfl, hb4⟩
            have z4 := hb4.size
            have hX4 := (hb4.block w1.heap.size (by omega)).trans hX3
            have hR9 := (hb4.block w.heap.size (by omega)).trans hR3
            have hbD : Below w.heap.size w w4 := bel_trans hbC hb4
            have zr4 : w.heap.size < w4.heap.size := by omega
            have zx4 : w1.heap.size < w4.heap.size := by omega
            clear x0 x1 x2 x3 x4 hb4 hX3 hR3 hX2 hR2
            by_cases hEq : ST = s
            · have hTs := hTx.trans hEq
              obtain rfl := hEq
              have HI : Hid (ItR ST (3) (0) (0) (0) (A1) true) := hide (Or.inl ⟨rfl, ho, hTs⟩)
              clear ho hST hTx hTs
              have x0 : w4.cell? ⟨w1.heap.size, 0, none⟩ = some (.int .i64 3) := by simp [World.cell?, hX4, go_sem]
              have x1 : w4.cell? ⟨w1.heap.size, 1, none⟩ = some (.int .i64 0) := by simp [World.cell?, hX4, go_sem]
              have x2 : w4.cell? ⟨w1.heap.size, 2, none⟩ = some (.int .i64 0) := by simp [World.cell?, hX4, go_sem]
              have x3 : w4.cell? ⟨w1.heap.size, 3, none⟩ = some (.int .i64 0) := by simp [World.cell?, hX4, go_sem]
              have x4 : w4.cell? ⟨w1.heap.size, 4, none⟩ = some (.int .i64 A1) := by simp [World.cell?, hX4, go_sem]
              have r0 : w4.cell? ⟨w.heap.size, 0, none⟩ = some (.int .i64 0) := by simp [World.cell?, hR9, go_sem]
              have rf0 : w4.frozen? ⟨w.heap.size, 0, none⟩ = false := by simp [World.frozen?, hR9, go_sem]
              have r1 : w4.cell? ⟨w.heap.size, 1, none⟩ = some (.int .i64 0) := by simp [World.cell?, hR9, go_sem]
              have rf1 : w4.frozen? ⟨w.heap.size, 1, none⟩ = false := by simp [World.frozen?, hR9, go_sem]
              have r2 : w4.cell? ⟨w.heap.size, 2, none⟩ = some (.int .i64 0) := by simp [World.cell?, hR9, go_sem]
              have rf2 : w4.frozen? ⟨w.heap.size, 2, none⟩ = false := by simp [World.frozen?, hR9, go_sem]
              have r3 : w4.cell? ⟨w.heap.size, 3, none⟩ = some (.int .i64 0) := by simp [World.cell?, hR9, go_sem]
              have rf3 : w4.frozen? ⟨w.heap.size, 3, none⟩ = false := by simp [World.frozen?, hR9, go_sem]
              have r4 : w4.cell? ⟨w.heap.size, 4, none⟩ = some (.int .i64 0) := by simp [World.cell?, hR9, go_sem]
              have rf4 : w4.frozen? ⟨w.heap.size, 4, none⟩ = false := by simp [World.frozen?, hR9, go_sem]
              go_wp2
              refine bodyPost_ret (v := .tuple #[.agg #[.int .i64 3, .int .i64 0, .int .i64 0, .int .i64 0, .int .i64 A1], .bool true]) (by simp (maxDischargeDepth := 9) [results, Tryz.results23, go_sem, *]) rfl ⟨_, _, _, _, _, true, rfl, unhide HI, (by repeat (first | (with_reducible exact Below.refl _ _) | (with_reducible assumption) | (with_reducible refine bel_set ?_ (by first | (simp; done) | (simp; omega)) _) | (with_reducible refine bel_alloc ?_ _) | (with_reducible refine bel_drew ?_) | (with_reducible refine bel_drewN ?_ _) | (with_reducible refine bel_trans ?_ (by with_reducible assumption))))⟩
            · have HNO : ¬ (okItm (3) (0) (0) (0) (A1) = true ∧ itmTxt (3) (0) (0) (0) (A1) = s) := fun h => hEq (hTx.symm.trans h.2)
              have n3 := toL_eq hEq
              clear ho hST hTx hX4
              have r0 : w4.cell? ⟨w.heap.size, 0, none⟩ = some (.int .i64 0) := by simp [World.cell?, hR9, go_sem]
              have rf0 : w4.frozen? ⟨w.heap.size, 0, none⟩ = false := by simp [World.frozen?, hR9, go_sem]
              have r1 : w4.cell? ⟨w.heap.size, 1, none⟩ = some (.int .i64 0) := by simp [World.cell?, hR9, go_sem]
              have rf1 : w4.frozen? ⟨w.heap.size, 1, none⟩ = false := by simp [World.frozen?, hR9, go_sem]
              have r2 : w4.cell? ⟨w.heap.size, 2, none⟩ = some (.int .i64 0) := by simp [World.cell?, hR9, go_sem]
              have rf2 : w4.frozen? ⟨w.heap.size, 2, none⟩ = false := by simp [World.frozen?, hR9, go_sem]
              have r3 : w4.cell? ⟨w.heap.size, 3, none⟩ = some (.int .i64 0) := by simp [World.cell?, hR9, go_sem]
              have rf3 : w4.frozen? ⟨w.heap.size, 3, none⟩ = false := by simp [World.frozen?, hR9, go_sem]
              have r4 : w4.cell? ⟨w.heap.size, 4, none⟩ = some (.int .i64 0) := by simp [World.cell?, hR9, go_sem]
              have rf4 : w4.frozen? ⟨w.heap.size, 4, none⟩ = false := by simp [World.frozen?, hR9, go_sem]
              go_wp2
              refine bodyPost_ret (v := .tuple #[.agg #[.int .i64 0, .int .i64 0, .int .i64 0, .int .i64 0, .int .i64 0], .bool false]) (by simp (maxDischargeDepth := 9) [results, Tryz.results23, go_sem, *]) rfl ⟨0, 0, 0, 0, 0, false, rfl, itR_of (unhide HW) (unhide HZ) (unhide HRX) HNO, (by repeat (first | (with_reducible exact Below.refl _ _) | (with_reducible assumption) | (with_reducible refine bel_set ?_ (by first | (simp; done) | (simp; omega)) _) | (with_reducible refine bel_alloc ?_ _) | (with_reducible refine bel_drew ?_) | (with_reducible refine bel_drewN ?_ _) | (with_reducible refine bel_trans ?_ (by with_reducible assumption))))⟩
        · have r3 : (x0.toList == [119, 97, 108, 108]) = false := toL_no (l := [119, 97, 108, 108]) e3
          have HRX : Hid (rdX L = (0, 0, 0, 0, 0)) := hide (by rw [hLx]; simp only [rdX, if_neg e1, if_neg e2, if_neg e3])
          clear hLx e1 e2 e3
          go_wp2_with fail
          have hbB : Below w.heap.size w (w1.alloc (.cells #[.int .i64 0, .int .i64 0, .int .i64 0, .int .i64 0, .int .i64 0] 45)) := bel_alloc hbA _
          have hX2 : (w1.alloc (.cells #[.int .i64 0, .int .i64 0, .int .i64 0, .int .i64 0, .int .i64 0] 45)).heap[w1.heap.size]? = some (.cells #[.int .i64 0, .int .i64 0, .int .i64 0, .int .i64 0, .int .i64 0] 45 (0, 0)) := blk_at0
          have hR2 : (w1.alloc (.cells #[.int .i64 0, .int .i64 0, .int .i64 0, .int .i64 0, .int .i64 0] 45)).heap[w.heap.size]? = some (.cells #[.int .i64 0, .int .i64 0, .int .i64 0, .int .i64 0, .int .i64 0] 45 (0, 0)) := ((bel_one w1 _).block _ z1).trans hR1
          have z2 : w1.heap.size < (w1.alloc (.cells #[.int .i64 0, .int .i64 0, .int .i64 0, .int .i64 0, .int .i64 0] 45)).heap.size := by simp
          generalize (w1.alloc (.cells #[.int .i64 0, .int .i64 0, .int .i64 0, .int .i64 0, .int .i64 0] 45)) = W2 at hbB hX2 hR2 z2 ⊢
          clear hbA hR1
          obtain ⟨ST, hST⟩ : ∃ ST, itmText (0) (0) (0) (0) (0) = ST := ⟨_, rfl⟩
          have HST := hide hST
          refine (specitx _ HST).mono ?_
          rintro e w3 ⟨rfl, hb3⟩
          have z3 := hb3.size
          have hX3 := (hb3.block w1.heap.size (by omega)).trans hX2
          have hR3 := (hb3.block w.heap.size (by omega)).trans hR2
          have hbC : Below w.heap.size w w3 := bel_trans hbB hb3
          clear hb3
          have zr3 : w.heap.size < w3.heap.size := by omega
          cases ho : okItm (0) (0) (0) (0) (0)
          · have HNO : ¬ (okItm (0) (0) (0) (0) (0) = true ∧ itmTxt (0) (0) (0) (0) (0) = s) := fun h => by rw [ho] at h; cases h.1
            obtain rfl : ST = ⟨#[]⟩ := hST.symm.trans (itmText_no ho)
            have hR9 := hR3
            clear ho hST hX2 hR2 hX3 hR3
            have r0 : w3.cell? ⟨w.heap.size, 0, none⟩ = some (.int .i64 0) := by simp [World.cell?, hR9, go_sem]
            have rf0 : w3.frozen? ⟨w.heap.size, 0, none⟩ = false := by simp [World.frozen?, hR9, go_sem]
            have r1 : w3.cell? ⟨w.heap.size, 1, none⟩ = some (.int .i64 0) := by simp [World.cell?, hR9, go_sem]
            have rf1 : w3.frozen? ⟨w.heap.size, 1, none⟩ = false := by simp [World.frozen?, hR9, go_sem]
            have r2 : w3.cell? ⟨w.heap.size, 2, none⟩ = some (.int .i64 0) := by simp [World.cell?, hR9, go_sem]
            have rf2 : w3.frozen? ⟨w.heap.size, 2, none⟩ = false := by simp [World.frozen?, hR9, go_sem]
            have r3 : w3.cell? ⟨w.heap.size, 3, none⟩ = some (.int .i64 0) := by simp [World.cell?, hR9, go_sem]
            have rf3 : w3.frozen? ⟨w.heap.size, 3, none⟩ = false := by simp [World.frozen?, hR9, go_sem]
            have r4 : w3.cell? ⟨w.heap.size, 4, none⟩ = some (.int .i64 0) := by simp [World.cell?, hR9, go_sem]
            have rf4 : w3.frozen? ⟨w.heap.size, 4, none⟩ = false := by simp [World.frozen?, hR9, go_sem]
            go_wp2
            refine bodyPost_ret (v := .tuple #[.agg #[.int .i64 0, .int .i64 0, .int .i64 0, .int .i64 0, .int .i64 0], .bool false]) (by simp (maxDischargeDepth := 9) [results, Tryz.results23, go_sem, *]) rfl ⟨0, 0, 0, 0, 0, false, rfl, itR_of (unhide HW) (unhide HZ) (unhide HRX) HNO, (by repeat (first | (with_reducible exact Below.refl _ _) | (with_reducible assumption) | (with_reducible refine bel_set ?_ (by first | (simp; done) | (simp; omega)) _) | (with_reducible refine bel_alloc ?_ _) | (with_reducible refine bel_drew ?_) | (with_reducible refine bel_drewN ?_ _) | (with_reducible refine bel_trans ?_ (by with_reducible assumption))))⟩
          · have hne := itmText_ne ho hST
            have hTx := (itmText_ok ho).symm.trans hST
            have x0 : w3.cell? ⟨w1.heap.size, 0, none⟩ = some (.int .i64 0) := by simp [World.cell?, hX3, go_sem]
            have x1 : w3.cell? ⟨w1.heap.size, 1, none⟩ = some (.int .i64 0) := by simp [World.cell?, hX3, go_sem]
            have x2 : w3.cell? ⟨w1.heap.size, 2, none⟩ = some (.int .i64 0) := by simp [World.cell?, hX3, go_sem]
            have x3 : w3.cell? ⟨w1.heap.size, 3, none⟩ = some (.int .i64 0) := by simp [World.cell?, hX3, go_sem]
            have x4 : w3.cell? ⟨w1.heap.size, 4, none⟩ = some (.int .i64 0) := by simp [World.cell?, hX3, go_sem]
            go_wp2_with fail
            refine (specitx _ HST).mono ?_
            rintro e w4 ⟨rfl, hb4⟩
            have z4 := hb4.size
            have hX4 := (hb4.block w1.heap.size (by omega)).trans hX3
            have hR9 := (hb4.block w.heap.size (by omega)).trans hR3
            have hbD : Below w.heap.size w w4 := bel_trans hbC hb4
            have zr4 : w.heap.size < w4.heap.size := by omega
            have zx4 : w1.heap.size < w4.heap.size := by omega
            clear x0 x1 x2 x3 x4 hb4 hX3 hR3 hX2 hR2
            by_cases hEq : ST = s
            · have hTs := hTx.trans hEq
              obtain rfl := hEq
              have HI : Hid (ItR ST (0) (0) (0) (0) (0) true) := hide (Or.inl ⟨rfl, ho, hTs⟩)
              clear ho hST hTx hTs
              have x0 : w4.cell? ⟨w1.heap.size, 0, none⟩ = some (.int .i64 0) := by simp [World.cell?, hX4, go_sem]
              have x1 : w4.cell? ⟨w1.heap.size, 1, none⟩ = some (.int .i64 0) := by simp [World.cell?, hX4, go_sem]
              have x2 : w4.cell? ⟨w1.heap.size, 2, none⟩ = some (.int .i64 0) := by simp [World.cell?, hX4, go_sem]
              have x3 : w4.cell? ⟨w1.heap.size, 3, none⟩ = some (.int .i64 0) := by simp [World.cell?, hX4, go_sem]
              have x4 : w4.cell? ⟨w1.heap.size, 4, none⟩ = some (.int .i64 0) := by simp [World.cell?, hX4, go_sem]
              have r0 : w4.cell? ⟨w.heap.size, 0, none⟩ = some (.int .i64 0) := by simp [World.cell?, hR9, go_sem]
              have rf0 : w4.frozen? ⟨w.heap.size, 0, none⟩ = false := by simp [World.frozen?, hR9, go_sem]
              have r1 : w4.cell? ⟨w.heap.size, 1, none⟩ = some (.int .i64 0) := by simp [World.cell?, hR9, go_sem]
              have rf1 : w4.frozen? ⟨w.heap.size, 1, none⟩ = false := by simp [World.frozen?, hR9, go_sem]
              have r2 : w4.cell? ⟨w.heap.size, 2, none⟩ = some (.int .i64 0) := by simp [World.cell?, hR9, go_sem]
              have rf2 : w4.frozen? ⟨w.heap.size, 2, none⟩ = false := by simp [World.frozen?, hR9, go_sem]
              have r3 : w4.cell? ⟨w.heap.size, 3, none⟩ = some (.int .i64 0) := by simp [World.cell?, hR9, go_sem]
              have rf3 : w4.frozen? ⟨w.heap.size, 3, none⟩ = false := by simp [World.frozen?, hR9, go_sem]
              have r4 : w4.cell? ⟨w.heap.size, 4, none⟩ = some (.int .i64 0) := by simp [World.cell?, hR9, go_sem]
              have rf4 : w4.frozen? ⟨w.heap.size, 4, none⟩ = false := by simp [World.frozen?, hR9, go_sem]
              go_wp2
              refine bodyPost_ret (v := .tuple #[.agg #[.int .i64 0, .int .i64 0, .int .i64 0, .int .i64 0, .int .i64 0], .bool true]) (by simp (maxDischargeDepth := 9) [results, Tryz.results23, go_sem, *]) rfl ⟨_, _, _, _, _, true, rfl, unhide HI, (by repeat (first | (with_reducible exact Below.refl _ _) | (with_reducible assumption) | (with_reducible refine bel_set ?_ (by first | (simp; done) | (simp; omega)) _) | (with_reducible refine bel_alloc ?_ _) | (with_reducible refine bel_drew ?_) | (with_reducible refine bel_drewN ?_ _) | (with_reducible refine bel_trans ?_ (by with_reducible assumption))))⟩
            · have HNO : ¬ (okItm (0) (0) (0) (0) (0) = true ∧ itmTxt (0) (0) (0) (0) (0) = s) := fun h => hEq (hTx.symm.trans h.2)
              have n3 := toL_eq hEq
              clear ho hST hTx hX4
              have r0 : w4.cell? ⟨w.heap.size, 0, none⟩ = some (.int .i64 0) := by simp [World.cell?, hR9, go_sem]
              have rf0 : w4.frozen? ⟨w.heap.size, 0, none⟩ = false := by simp [World.frozen?, hR9, go_sem]
              have r1 : w4.cell? ⟨w.heap.size, 1, none⟩ = some (.int .i64 0) := by simp [World.cell?, hR9, go_sem]
              have rf1 : w4.frozen? ⟨w.heap.size, 1, none⟩ = false := by simp [World.frozen?, hR9, go_sem]
              have r2 : w4.cell? ⟨w.heap.size, 2, none⟩ = some (.int .i64 0) := by simp [World.cell?, hR9, go_sem]
              have rf2 : w4.frozen? ⟨w.heap.size, 2, none⟩ = false := by simp [World.frozen?, hR9, go_sem]
              have r3 : w4.cell? ⟨w.heap.size, 3, none⟩ = some (.int .i64 0) := by simp [World.cell?, hR9, go_sem]
              have rf3 : w4.frozen? ⟨w.heap.size, 3, none⟩ = false := by simp [World.frozen?, hR9, go_sem]
              have r4 : w4.cell? ⟨w.heap.size, 4, none⟩ = some (.int .i64 0) := by simp [World.cell?, hR9, go_sem]
              have rf4 : w4.frozen? ⟨w.heap.size, 4, none⟩ = false := by simp [World.frozen?, hR9, go_sem]
              go_wp2
              refine bodyPost_ret (v := .tuple #[.agg #[.int .i64 0, .int .i64 0, .int .i64 0, .int .i64 0, .int .i64 0], .bool false]) (by simp (maxDischargeDepth := 9) [results, Tryz.results23, go_sem, *]) rfl ⟨0, 0, 0, 0, 0, false, rfl, itR_of (unhide HW) (unhide HZ) (unhide HRX) HNO, (by repeat (first | (with_reducible exact Below.refl _ _) | (with_reducible assumption) | (with_reducible refine bel_set ?_ (by first | (simp; done) | (simp; omega)) _) | (with_reducible refine bel_alloc ?_ _) | (with_reducible refine bel_drew ?_) | (with_reducible refine bel_drewN ?_ _) | (with_reducible refine bel_trans ?_ (by with_reducible assumption))))⟩
end Go.Proofs.YtcokdcehjibanaaGreatDoor
