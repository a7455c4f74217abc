/- Proved here: the law on rows that are taken out returns true at every code. -/
import Derived.Test.YtjljiijjgmmieaaDrawTab
import Derived.Test.YtjljiijjgmmieaaFrTab
import Derived.Test.YtjljiijjgmmieaaFrOk
import Derived.Test.YtjljiijjgmmieaaTabOutI
import Derived.Test.YtjljiijjgmmieaaTabFnd2
import Derived.BigQuiet
namespace Go.Proofs.Ytjljiijjgmmieaa
open Go.ChangeShapes Go.WideShapes Go.ChangeAt Go.RowKit
set_option linter.unusedVariables false

theorem sameT_refl (xs : List TbR) : sameT xs xs = true := sameT_all rfl (fun k x y h1 h2 => by rw [h1] at h2; cases h2; simp [eqR])
theorem frtab_same (a1 a2 : Option Addr) (len cap1 cap2 : Nat) (xs : List TbR) (w : World) (h : TbRs w a1 len xs) (h' : TbRs w a2 len xs) : Calls Try.prog 10 #[.slice a1 len cap1, .slice a2 len cap2] w fun e w' => e = .returned (.bool true) ∧ Below w.heap.size w w' := by
  have h9 := frtab_any a1 a2 len cap1 len cap2 xs xs w h h'
  rw [sameT_refl] at h9
  exact h9
theorem implout_is (a : Option Addr) (len cap : Nat) (xs : List TbR) (ky st en : Int) (w : World) {RR : List TbR} (h : TbRs w a len xs) (hl : len ≤ 1048576) (hR : Hid (kpTb ky st en xs = RR)) : Calls Try.prog 7 #[.slice a len cap, .int .i64 ky, .agg #[.int .i64 st, .int .i64 en]] w fun e w' => ∃ v, e = .returned v ∧ OwnTb w' w.heap.size v RR ∧ Below w.heap.size w w' := by
  rw [← unhide hR]; exact implTabOut_any a len cap xs ky st en w h hl
theorem specout_is (a : Option Addr) (len cap : Nat) (xs : List TbR) (ky st en : Int) (w : World) {RR : List TbR} (h : TbRs w a len xs) (hl : len ≤ 1048576) (hR : Hid (kpTb ky st en xs = RR)) : Calls Try.prog 11 #[.slice a len cap, .int .i64 ky, .agg #[.int .i64 st, .int .i64 en]] w fun e w' => ∃ v, e = .returned v ∧ OwnTb w' w.heap.size v RR ∧ Below w.heap.size w w' := by
  rw [← unhide hR]; exact specTabOut_any a len cap xs ky st en w h hl
theorem implfind_is (a : Option Addr) (len cap : Nat) (xs : List TbR) (ky st en : Int) (w : World) {n s l m : Int} {b : Bool} (h : TbRs w a len xs) (hV : Hid (foundV (findT ky st en xs) = .tuple #[.agg #[.int .i64 n, .int .i64 s, .int .i64 l, .int .i64 m], .bool b])) : Calls Try.prog 8 #[.slice a len cap, .int .i64 ky, .agg #[.int .i64 st, .int .i64 en]] w fun e w' => e = .returned (.tuple #[.agg #[.int .i64 n, .int .i64 s, .int .i64 l, .int .i64 m], .bool b]) ∧ Below w.heap.size w w' := by
  rw [← unhide hV]; exact implfind_any a len cap xs ky st en w h
theorem found_b {o : Option TbR} {n s l m : Int} {b : Bool} (h : foundV o = .tuple #[.agg #[.int .i64 n, .int .i64 s, .int .i64 l, .int .i64 m], .bool b]) : b = o.isSome := by
  cases o with
  | none => simp [foundV] at h; simp [h]
  | some x => simp [foundV] at h; simp [h]
theorem find_len (ky st en : Int) (xs : List TbR) : (findT ky st en xs).isSome = decide ((kpTb ky st en xs).length < xs.length) := by
  unfold findT kpTb
  induction xs with
  | nil => rfl
  | cons x xs ih =>
    cases hb : x.isB ky st en with
    | true =>
      have h1 := List.length_filter_le (fun x => !TbR.isB ky st en x) xs
      simp [List.find?, List.filter, hb]
      omega
    | false =>
      simp only [List.find?, List.filter, hb, Bool.not_false, List.length_cons, ih]
      simp
theorem kpTb_at {ky st en : Int} {xs : List TbR} {i : Nat} {x : TbR} (h : xs[i]? = some x) (hb : x.isB ky st en = false) : (kpTb ky st en xs)[(kpTb ky st en (xs.take i)).length]? = some x ∧ (kpTb ky st en (xs.take (i + 1))).length = (kpTb ky st en (xs.take i)).length + 1 := by
  have hs : xs = xs.take i ++ (x :: xs.drop (i + 1)) := by
    obtain ⟨hi, rfl⟩ := List.getElem?_eq_some_iff.1 h
    rw [← List.drop_eq_getElem_cons hi, List.take_append_drop]
  have e : kpTb ky st en xs = kpTb ky st en (xs.take i) ++ x :: kpTb ky st en (xs.drop (i + 1)) := by
    conv => lhs; rw [hs]
    simp [kpTb, hb]
  constructor
  · rw [e, List.getElem?_append_right (Nat.le_refl _), Nat.sub_self]
    rfl
  · rw [kpTb_in h hb]; simp

set_option linter.unusedSimpArgs false in
set_option maxRecDepth 20000 in
set_option maxHeartbeats 8000000 in
theorem lawTabOutP (a : Option Addr) (len cap : Nat) (w : World) (hlc : len ≤ cap) (hm : len ≤ maxLen) (hb : BytesAt w a len) (hl : ∀ g o, a = some ⟨g, o, none⟩ → 0 < len → g < w.heap.size) (hn : a = none → cap = 0) : Calls Try.prog 3 #[.slice a len cap] w fun e w' => e = .returned (.bool true) ∧ Below w.heap.size w w' := by
  unfold maxLen at hm
  by_cases hlen : (len : Int) ≤ 1048576
  · go_enter Try.func3, Try.ntmps3
    go_wp2_with fail
    refine (drawto_any a len cap w hlc (by omega) hb hl hn).mono ?_
    rintro e' w1 ⟨u, xs, ky, st, en, rfl, hO, hxl, hb1⟩
    clear hb hl hn
    obtain ⟨ar, cr, rfl, HR0, _, _⟩ := holdTb hO (by omega)
    clear hO
    obtain ⟨RR, hRR⟩ : ∃ RR, kpTb ky st en xs = RR := ⟨_, rfl⟩
    have hRl : RR.length ≤ xs.length := by rw [← hRR]; exact kpTb_le _ _ _ _
    obtain ⟨fn, fs, fl, fm, hf⟩ : ∃ fn fs fl fm, aggF (findT ky st en xs) = (fn, fs, fl, fm) := ⟨_, _, _, _, rfl⟩
    obtain ⟨fb, hV⟩ := foundV_is _ hf
    have hfb : Hid (fb = decide (RR.length < xs.length)) := hide (by rw [found_b hV, find_len, hRR])
    have HR := hide hRR
    have HV := hide hV
    clear hRR hf hV
    have hbJ : Below w1.heap.size w1 (w1.alloc (.cells #[.int .i64 st, .int .i64 en] 25)) := bel_one _ _
    have HR1 := hide (HR0.below hbJ)
    clear HR0
    go_wp2_with fail
    refine (implout_is ar xs.length cr xs ky st en _ (unhide HR1) (by omega) HR).mono ?_
    rintro e' w2 ⟨v2, rfl, hO2, hb2⟩
    obtain ⟨al, cl, rfl, HL2, _, _⟩ := holdTb hO2 (by omega)
    have HR2 := hide ((unhide HR1).below hb2)
    have HL2h := hide HL2
    have z2 : w1.heap.size < w2.heap.size := by have h9 := hb2.size; simp at h9; omega
    have x0 : w2.cell? ⟨w1.heap.size, 0, none⟩ = some (.int .i64 st) := (hb2.cell (p := ⟨w1.heap.size, 0, none⟩) (by simp)).trans (by simp [go_sem])
    have x1 : w2.cell? ⟨w1.heap.size, 1, none⟩ = some (.int .i64 en) := (hb2.cell (p := ⟨w1.heap.size, 1, none⟩) (by simp)).trans (by simp [go_sem])
    clear hO2 HL2 HR1
    go_wp2_with fail
    refine (implfind_is ar xs.length cr xs ky st en _ (unhide HR2) HV).mono ?_
    rintro e' w3 ⟨rfl, hb3⟩
    have z3 : w1.heap.size < w3.heap.size := Nat.lt_of_lt_of_le z2 hb3.size
    have y0 : w3.cell? ⟨w1.heap.size, 0, none⟩ = some (.int .i64 st) := (hb3.cell (p := ⟨w1.heap.size, 0, none⟩) z2).trans x0
    have y1 : w3.cell? ⟨w1.heap.size, 1, none⟩ = some (.int .i64 en) := (hb3.cell (p := ⟨w1.heap.size, 1, none⟩) z2).trans x1
    have hbA : Below w3.heap.size w3 (w3.alloc (.cells #[.int .i64 fn, .int .i64 fs, .int .i64 fl, .int .i64 fm] 30)) := bel_one _ _
    have HR3 := hide (((unhide HR2).below hb3).below hbA)
    have HL3 := hide (((unhide HL2h).below hb3).below hbA)
    clear HR2 HL2h x0 x1
    go_wp2_with fail
    refine (specfind_at ar xs.length cr xs ky st en _ (unhide HR3) HV).mono ?_
    rintro e' w4 ⟨rfl, hb4⟩
    have z4 : w3.heap.size < w4.heap.size := by have h9 := hb4.size; simp at h9; omega
    have z14 : w1.heap.size < w4.heap.size := by omega
    have x0 : w4.cell? ⟨w1.heap.size, 0, none⟩ = some (.int .i64 st) := (hb4.cell (p := ⟨w1.heap.size, 0, none⟩) (by simp; omega)).trans ((hbA.cell (p := ⟨w1.heap.size, 0, none⟩) z3).trans y0)
    have x1 : w4.cell? ⟨w1.heap.size, 1, none⟩ = some (.int .i64 en) := (hb4.cell (p := ⟨w1.heap.size, 1, none⟩) (by simp; omega)).trans ((hbA.cell (p := ⟨w1.heap.size, 1, none⟩) z3).trans y1)
    have q0 : w4.cell? ⟨w3.heap.size, 0, none⟩ = some (.int .i64 fn) := (hb4.cell (p := ⟨w3.heap.size, 0, none⟩) (by simp)).trans (by simp [go_sem])
    have q1 : w4.cell? ⟨w3.heap.size, 1, none⟩ = some (.int .i64 fs) := (hb4.cell (p := ⟨w3.heap.size, 1, none⟩) (by simp)).trans (by simp [go_sem])
    have q2 : w4.cell? ⟨w3.heap.size, 2, none⟩ = some (.int .i64 fl) := (hb4.cell (p := ⟨w3.heap.size, 2, none⟩) (by simp)).trans (by simp [go_sem])
    have q3 : w4.cell? ⟨w3.heap.size, 3, none⟩ = some (.int .i64 fm) := (hb4.cell (p := ⟨w3.heap.size, 3, none⟩) (by simp)).trans (by simp [go_sem])
    have hbB : Below w4.heap.size w4 (w4.alloc (.cells #[.int .i64 fn, .int .i64 fs, .int .i64 fl, .int .i64 fm] 30)) := bel_one _ _
    have HR4 := hide (((unhide HR3).below hb4).below hbB)
    have HL4 := hide (((unhide HL3).below hb4).below hbB)
    clear HR3 HL3 y0 y1
    go_wp2_with fail
    refine (specout_is ar xs.length cr xs ky st en _ (unhide HR4) (by omega) HR).mono ?_
    rintro e' w5 ⟨v5, rfl, hO5, hb5⟩
    obtain ⟨al5, cl5, rfl, HL5, _, _⟩ := holdTb hO5 (by omega)
    have z5 : w4.heap.size < w5.heap.size := by have h9 := hb5.size; simp at h9; omega
    have z15 : w1.heap.size < w5.heap.size := by omega
    have z35 : w3.heap.size < w5.heap.size := by omega
    have HLb := hide ((unhide HL4).below hb5)
    have HRb := hide ((unhide HR4).below hb5)
    have HL5h := hide HL5
    have hb45 : Below w4.heap.size w4 w5 := bel_trans hbB hb5
    have y0 : w5.cell? ⟨w1.heap.size, 0, none⟩ = some (.int .i64 st) := (hb45.cell (p := ⟨w1.heap.size, 0, none⟩) (show w1.heap.size < w4.heap.size by omega)).trans x0
    have y1 : w5.cell? ⟨w1.heap.size, 1, none⟩ = some (.int .i64 en) := (hb45.cell (p := ⟨w1.heap.size, 1, none⟩) (show w1.heap.size < w4.heap.size by omega)).trans x1
    have t0 : w5.cell? ⟨w3.heap.size, 0, none⟩ = some (.int .i64 fn) := (hb45.cell (p := ⟨w3.heap.size, 0, none⟩) z4).trans q0
    have t1 : w5.cell? ⟨w3.heap.size, 1, none⟩ = some (.int .i64 fs) := (hb45.cell (p := ⟨w3.heap.size, 1, none⟩) z4).trans q1
    have t2 : w5.cell? ⟨w3.heap.size, 2, none⟩ = some (.int .i64 fl) := (hb45.cell (p := ⟨w3.heap.size, 2, none⟩) z4).trans q2
    have t3 : w5.cell? ⟨w3.heap.size, 3, none⟩ = some (.int .i64 fm) := (hb45.cell (p := ⟨w3.heap.size, 3, none⟩) z4).trans q3
    have r0 : w5.cell? ⟨w4.heap.size, 0, none⟩ = some (.int .i64 fn) := (hb5.cell (p := ⟨w4.heap.size, 0, none⟩) (by simp)).trans (by simp [go_sem])
    have r1 : w5.cell? ⟨w4.heap.size, 1, none⟩ = some (.int .i64 fs) := (hb5.cell (p := ⟨w4.heap.size, 1, none⟩) (by simp)).trans (by simp [go_sem])
    have r2 : w5.cell? ⟨w4.heap.size, 2, none⟩ = some (.int .i64 fl) := (hb5.cell (p := ⟨w4.heap.size, 2, none⟩) (by simp)).trans (by simp [go_sem])
    have r3 : w5.cell? ⟨w4.heap.size, 3, none⟩ = some (.int .i64 fm) := (hb5.cell (p := ⟨w4.heap.size, 3, none⟩) (by simp)).trans (by simp [go_sem])
    clear hO5 HL5 HL4 HR4 x0 x1 q0 q1 q2 q3
    go_wp2_with fail
    refine (frtab_same al al5 RR.length cl cl5 RR _ (unhide HLb) (unhide HL5h)).mono ?_
    rintro e' w6 ⟨rfl, hb6⟩
    have HL6 := hide ((unhide HLb).below hb6)
    have HR6 := hide ((unhide HRb).below hb6)
    have x0 : w6.cell? ⟨w1.heap.size, 0, none⟩ = some (.int .i64 st) := (hb6.cell (p := ⟨w1.heap.size, 0, none⟩) (show w1.heap.size < w5.heap.size by omega)).trans y0
    have x1 : w6.cell? ⟨w1.heap.size, 1, none⟩ = some (.int .i64 en) := (hb6.cell (p := ⟨w1.heap.size, 1, none⟩) (show w1.heap.size < w5.heap.size by omega)).trans y1
    have q0 : w6.cell? ⟨w3.heap.size, 0, none⟩ = some (.int .i64 fn) := (hb6.cell (p := ⟨w3.heap.size, 0, none⟩) (show w3.heap.size < w5.heap.size by omega)).trans t0
    have s0 : w6.cell? ⟨w4.heap.size, 0, none⟩ = some (.int .i64 fn) := (hb6.cell (p := ⟨w4.heap.size, 0, none⟩) z5).trans r0
    have q1 : w6.cell? ⟨w3.heap.size, 1, none⟩ = some (.int .i64 fs) := (hb6.cell (p := ⟨w3.heap.size, 1, none⟩) (show w3.heap.size < w5.heap.size by omega)).trans t1
    have s1 : w6.cell? ⟨w4.heap.size, 1, none⟩ = some (.int .i64 fs) := (hb6.cell (p := ⟨w4.heap.size, 1, none⟩) z5).trans r1
    have q2 : w6.cell? ⟨w3.heap.size, 2, none⟩ = some (.int .i64 fl) := (hb6.cell (p := ⟨w3.heap.size, 2, none⟩) (show w3.heap.size < w5.heap.size by omega)).trans t2
    have s2 : w6.cell? ⟨w4.heap.size, 2, none⟩ = some (.int .i64 fl) := (hb6.cell (p := ⟨w4.heap.size, 2, none⟩) z5).trans r2
    have q3 : w6.cell? ⟨w3.heap.size, 3, none⟩ = some (.int .i64 fm) := (hb6.cell (p := ⟨w3.heap.size, 3, none⟩) (show w3.heap.size < w5.heap.size by omega)).trans t3
    have s3 : w6.cell? ⟨w4.heap.size, 3, none⟩ = some (.int .i64 fm) := (hb6.cell (p := ⟨w4.heap.size, 3, none⟩) z5).trans r3
    have z6 : w1.heap.size < w6.heap.size := by have h9 := hb6.size; omega
    have hbF : Below w.heap.size w w6 := bel_trans hb1 (bel_trans hbJ (bel_trans hb2 (bel_trans hb3 (bel_trans hbA (bel_trans hb4 (bel_trans hb45 hb6))))))
    clear y0 y1 t0 t1 t2 t3 r0 r1 r2 r3 HLb HRb HL5h hb1 hbJ hb2 hb3 hbA hb4 hbB hb5 hb45 hb6
    go_wp2_with fail
    go_loopw [11, 12] (fun nv iv wr => ∃ i m : Nat, iv = .int .i64 i ∧ i ≤ xs.length ∧ nv = .int .i64 m ∧ Hid ((kpTb ky st en (xs.take i)).length = m) ∧ m ≤ 9 ∧ Below w6.heap.size w6 wr) (fun _ iv _ => xs.length - (intOf iv).toNat)
    case atStart => exact ⟨0, 0, rfl, Nat.zero_le _, rfl, hide (by simp [kpTb]), by omega, Below.refl _ _⟩
    case round =>
      clear q0 q1 q2 q3 s0 s1 s2 s3
      obtain ⟨i, m, rfl, hi, rfl, HM, hm8, hbw⟩ := hrel
      have s0 : wr.cell? ⟨w1.heap.size, 0, none⟩ = some (.int .i64 st) := (hbw.cell (p := ⟨w1.heap.size, 0, none⟩) z6).trans x0
      have s1 : wr.cell? ⟨w1.heap.size, 1, none⟩ = some (.int .i64 en) := (hbw.cell (p := ⟨w1.heap.size, 1, none⟩) z6).trans x1
      clear x0 x1
      by_cases hlt : i < xs.length
      · obtain ⟨x, hx⟩ : ∃ x, xs[i]? = some x := ⟨_, List.getElem?_eq_getElem hlt⟩
        have hltI : (i : Int) < (xs.length : Int) := by omega
        obtain ⟨_, _, h3⟩ := unhide HR6
        obtain ⟨g, o, rfl, hat⟩ := h3.resolve_left (by omega)
        obtain ⟨c0, c1, c2, c3, c4, c5, c6⟩ := (hat i x hx).below hbw (hat i x hx).lt
        clear hat h3
        have HX := hide hx
        clear hx
        cases hB : x.isB ky st en with
        | true =>
          have HK1 : Hid ((kpTb ky st en (xs.take (i + 1))).length = m) := hide (by rw [kpTb_no (unhide HX) hB]; exact unhide HM)
          simp only [TbR.isB, Bool.and_eq_true, beq_iff_eq] at hB
          obtain ⟨e1, e2, e3⟩ := hB
          rw [e1] at c0
          rw [e2] at c1
          rw [e3] at c2
          clear e1 e2 e3 HM
          go_wp2_with fail
          go_quiet (fail)
          go_wp2
          go_roundw
          case rel => exact ⟨i + 1, m, by go_num, by omega, rfl, HK1, hm8, (by repeat (first | (with_reducible exact Below.refl _ _) | (with_reducible assumption) | (with_reducible refine bel_set ?_ (by first | (simp; done) | (simp; omega)) _) | (with_reducible refine bel_alloc ?_ _) | (with_reducible refine bel_drew ?_) | (with_reducible refine bel_drewN ?_ _) | (with_reducible refine bel_trans ?_ (by with_reducible assumption))))⟩
          case measure => simp [intOf]; omega
        | false =>
          obtain ⟨hk2, hk1⟩ := kpTb_at (unhide HX) hB
          rw [unhide HR, unhide HM] at hk2
          rw [unhide HM] at hk1
          have hmy : m < RR.length := (List.getElem?_eq_some_iff.1 hk2).1
          obtain ⟨_, _, h6⟩ := unhide HL6
          obtain ⟨g6, o6, rfl, hat6⟩ := h6.resolve_left (by omega)
          obtain ⟨d0, d1, d2, d3, d4, d5, d6⟩ := (hat6 m x hk2).below hbw (hat6 m x hk2).lt
          have hmI : (m : Int) < (RR.length : Int) := by omega
          have hmD : decide ((RR.length : Int) ≤ (m : Int)) = false := decide_eq_false (by omega)
          have HK1 := hide hk1
          clear hat6 h6 hk2 hk1 HM
          by_cases e1 : x.ky = ky
          · have e2 : ¬ (x.st = st ∧ x.en = en) := fun ⟨h1, h2⟩ => by simp [TbR.isB, e1, h1, h2] at hB
            clear hB
            rw [e1] at c0 d0
            by_cases f1 : x.st = st
            · have f2 : ¬ x.en = en := fun h2 => e2 ⟨f1, h2⟩
              have f2' : (x.en == en) = false := by simp [f2]
              rw [f1] at c1 d1
              clear e1 e2 f1
              go_wp2_with fail
              go_quiet (fail)
              go_wp2_with fail
              go_quiet (fail)
              go_wp2
              go_roundw
              case rel => exact ⟨i + 1, m + 1, by go_num, by omega, by go_num, HK1, by omega, (by repeat (first | (with_reducible exact Below.refl _ _) | (with_reducible assumption) | (with_reducible refine bel_set ?_ (by first | (simp; done) | (simp; omega)) _) | (with_reducible refine bel_alloc ?_ _) | (with_reducible refine bel_drew ?_) | (with_reducible refine bel_drewN ?_ _) | (with_reducible refine bel_trans ?_ (by with_reducible assumption))))⟩
              case measure => simp [intOf]; omega
            · have f1' : (x.st == st) = false := by simp [f1]
              clear e1 e2
              go_wp2_with fail
              go_quiet (fail)
              go_wp2_with fail
              go_quiet (fail)
              go_wp2
              go_roundw
              case rel => exact ⟨i + 1, m + 1, by go_num, by omega, by go_num, HK1, by omega, (by repeat (first | (with_reducible exact Below.refl _ _) | (with_reducible assumption) | (with_reducible refine bel_set ?_ (by first | (simp; done) | (simp; omega)) _) | (with_reducible refine bel_alloc ?_ _) | (with_reducible refine bel_drew ?_) | (with_reducible refine bel_drewN ?_ _) | (with_reducible refine bel_trans ?_ (by with_reducible assumption))))⟩
              case measure => simp [intOf]; omega
          · have e1' : (x.ky == ky) = false := by simp [e1]
            clear hB
            go_wp2_with fail
            go_quiet (fail)
            go_wp2_with fail
            go_quiet (fail)
            go_wp2
            go_roundw
            case rel => exact ⟨i + 1, m + 1, by go_num, by omega, by go_num, HK1, by omega, (by repeat (first | (with_reducible exact Below.refl _ _) | (with_reducible assumption) | (with_reducible refine bel_set ?_ (by first | (simp; done) | (simp; omega)) _) | (with_reducible refine bel_alloc ?_ _) | (with_reducible refine bel_drew ?_) | (with_reducible refine bel_drewN ?_ _) | (with_reducible refine bel_trans ?_ (by with_reducible assumption))))⟩
            case measure => simp [intOf]; omega
      · have hin : i = xs.length := by omega
        have hmy : m = RR.length := by
          have h9 := unhide HM
          rw [hin, List.take_length, unhide HR] at h9
          exact h9.symm
        have hE1 : ((m : Int) == (RR.length : Int)) = true := by simp [hmy]
        have hE2 : (m == RR.length) = true := by simp [hmy]
        have hB1 : decide ((m : Int) < (xs.length : Int)) = fb := by rw [unhide hfb, hmy]; simp
        have hB2 : decide (m < xs.length) = fb := by rw [unhide hfb, hmy]
        clear hin hmy HM
        go_wp2_with fail
        refine (frok_any _).mono ?_
        rintro e' w8 ⟨rfl, hb8⟩
        go_wp2
        go_ret
        exact ⟨rfl, bel_trans hbF (bel_trans hbw hb8)⟩
  · go_enter Try.func3, Try.ntmps3
    go_wp2
    go_ret
    exact ⟨rfl, Below.refl _ _⟩
end Go.Proofs.Ytjljiijjgmmieaa
