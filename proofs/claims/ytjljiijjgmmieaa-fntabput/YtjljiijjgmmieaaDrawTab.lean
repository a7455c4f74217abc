/- Proved here: rows, a key and a window are drawn; rows and one row are. -/
import Derived.Test.YtjljiijjgmmieaaRowsD
import Derived.Test.YtjljiijjgmmieaaDrawInv2
namespace Go.Proofs.Ytjljiijjgmmieaa
open Go.ChangeShapes Go.WideShapes Go.ChangeAt Go.RowKit
set_option linter.unusedVariables false

theorem own_setT {W : World} {p : Addr} {u : Value} {B : Nat} {e : TypeId} {size n : Nat} {v : Value} {xs : List Value} (h : W.ownsRow B e size v n xs) (hp : p.block < B) : (W.setCell p u).ownsRow B e size v n xs := pn_upB h (fun b hv => Below.heap_setCell _ _ _ _ (fun e => by have := (World.ownsRow.lt h b hv).1; omega))
def PRows (B0 : Nat) : Prd := fun v w => ∃ xs : List TbR, OwnTb w B0 v xs ∧ xs.length ≤ 9
theorem st_rows {R B0 : Nat} (h : R < B0) : St R (PRows B0) := fun _ _ _ k ⟨xs, h1, h2⟩ => ⟨xs, ownTb_kp h1 k h, h2⟩
def PRow : Prd := fun v _ => ∃ y0 y1 y2 y3 y4 y5 y6 : Int, v = .agg #[.int .i64 y0, .int .i64 y1, .int .i64 y2, .int .i64 y3, .int .i64 y4, .int .i64 y5, .int .i64 y6]
theorem st_row (R : Nat) : St R PRow := fun _ _ _ _ h => h

def drawtfP (w : World) (e' : Ending) (w' : World) : Prop := ∃ (u : Value) (xs : List TbR) (k st en : Int), e' = .returned (.tuple #[u, .int .i64 k, .agg #[.int .i64 st, .int .i64 en]]) ∧ OwnTb w' w.heap.size u xs ∧ xs.length ≤ 9 ∧ Below w.heap.size w w'
def psdrawtf (R B0 : Nat) : List Prd := [PIs (.pointer (some ⟨R, 0, none⟩)), PRows B0, PIs (.pointer (some ⟨R, 0, none⟩)), PInt 0 2, PIs (.agg #[.int .i64 0, .int .i64 5]), PIs (.agg #[.int .i64 5, .int .i64 10]), PIs (.agg #[.int .i64 3, .int .i64 12]), PSlT R 3 #[.int .i64 0, .int .i64 5, .int .i64 5, .int .i64 10, .int .i64 3, .int .i64 12] 25, PIs (.pointer (some ⟨R, 0, none⟩)), PInt 0 2, PPtW R, PWin, PRows B0, PInt 0 2, PAny]
theorem stdrawtf (R B0 : Nat) (hRB : R < B0) : AllSt R (psdrawtf R B0) := ⟨st_is _ _, st_rows hRB, st_is _ _, st_int _ _ _, st_is _ _, st_is _ _, st_is _ _, st_slt _ _ _ _, st_is _ _, st_int _ _ _, st_ptw _, st_win _, st_rows hRB, st_int _ _ _, st_any _, trivial⟩

set_option linter.unusedSimpArgs false in
set_option maxRecDepth 20000 in
set_option maxHeartbeats 16000000 in
theorem drawtf_any (a0 : Option Addr) (len0 cap0 : Nat) (w : World) (hlc : len0 ≤ cap0) (hm : len0 ≤ 1048576) (hb : BytesAt w a0 len0) (hl : ∀ g o, a0 = some ⟨g, o, none⟩ → 0 < len0 → g < w.heap.size) (hn : a0 = none → cap0 = 0) : Calls Try.prog 19 #[.slice a0 len0 cap0] w fun e w' => drawtfP w e w' := by
  have hbA : Below w.heap.size w (w.alloc (.cells #[.int .i64 0, .int .i64 0] 25)) := bel_one _ _
  have hX0 : (w.alloc (.cells #[.int .i64 0, .int .i64 0] 25)).heap[w.heap.size]? = some (.cells #[.int .i64 0, .int .i64 0] 25 (0, 0)) := heap_alloc_new _ _
  go_enter Try.func19, Try.ntmps19
  go_wp2_with fail
  refine (open_any a0 len0 cap0 _ hlc hm (hb.bel hl hbA) (fun g o h1 h2 => Nat.lt_of_lt_of_le (hl g o h1 h2) hbA.size) hn).mono ?_
  rintro e' w1 ⟨R, len, cap, rfl, hR1, hR2, hb1, hrd⟩
  have hX1 := (hb1.block w.heap.size (by simp)).trans hX0
  have hRw : w.heap.size < R := by simp at hR1; omega
  have hb01 : Below w.heap.size w w1 := hbA.trans (hb1.mono (by simp))
  clear hb hl hn hX0 hR1
  obtain ⟨a, ha⟩ : ∃ a, a = a0 := ⟨_, rfl⟩
  rw [← ha] at hrd
  obtain ⟨B0, hB0⟩ : ∃ B0, B0 = w1.heap.size := ⟨_, rfl⟩
  have hRB : R < B0 := by omega
  obtain ⟨p, hp0⟩ : ∃ p, p = 0 := ⟨_, rfl⟩
  rw [← hp0] at hrd
  go_wp2_with fail
  have hst := stdrawtf R B0 hRB
  refine wp_region_last (by kernel_rfl) (by kernel_rfl) (by kernel_rfl) (DrawingX R B0 a len cap p w1 (psdrawtf R B0) [1, 3, 9] (fun V => #[.slice a0 len0 cap0, undef, V 12, V 13, .pointer (some ⟨w.heap.size, 0, none⟩), .pointer (some ⟨R, 0, none⟩), .slice a0 len0 cap0, .pointer (some ⟨R, 0, none⟩), V 0, V 1, V 2, V 3, V 4, V 5, V 6, V 7, V 8, V 9, V 10, V 11]) []) ?_ ?_
  · refine ⟨fun j => if j = 12 then .slice none 0 0 else if j = 13 then .int .i64 0 else undef, rfl, ?_, ⟨(Below.refl _ _).drew, fun _ _ _ => rfl⟩, ?_, ?_, p, ?_, ?_⟩
    · intro j hj
      exact absurd hj (by simp)
    · simp; omega
    · omega
    · omega
    · exact ⟨hrd.1, hrd.2, hrd.3, hrd.4, hrd.5, hrd.6, hrd.7⟩
  refine ⟨?_, ?_, ?_, ?_, ?_, ?_, ?_, ?_, ?_, ?_, ?_, ?_, ?_, ?_, ?_⟩
  · intro L ac W hI hL hA K' hK
    obtain ⟨V, rfl, hP, hk, hB, hR, hr⟩ := hI
    go_simp
    refine hK.out _ _ (DrawingX.pure (i := 0) (.pointer (some ⟨R, 0, none⟩)) hP hk hB hR hr rfl ?_)
    simp [put1]
  · intro L ac W hI hL hA K' hK
    obtain ⟨V, rfl, hP, hk, hB, hR, hr⟩ := hI
    have e0 : V 0 = (.pointer (some ⟨R, 0, none⟩)) := hP 0 (hA ⟨0, .data⟩ (by simp) rfl)
    simp only [e0]
    obtain ⟨p', hp', hd⟩ := hr
    have hlt : cntL L [1, 3, 9] + 1 ≤ cntL (more L 1) [1, 3, 9] := cntL_lt (i := 1) hL [1, 3, 9] (by decide)
    have hcn := cntL_len L [1, 3, 9]
    simp only [List.length_cons, List.length_nil] at hcn
    go_simp
    (go_at_call 25; refine (rows_any R a len cap p' W (by omega) (by omega) hd).mono ?_; rintro e' W' ⟨u, xs, rfl, hO, hxl, kW, p2, hp2, rW⟩)
    (try go_wp2_with fail)
    refine hK.out _ _ (DrawingX.drew (i := 1) u hst hP hk hB hR kW ⟨p2, by omega, rW⟩ ⟨xs, World.ownsRow.mono hO hB, hxl⟩ ?_)
    simp [put1, e0]
  · intro L ac W hI hL hA K' hK
    obtain ⟨V, rfl, hP, hk, hB, hR, hr⟩ := hI
    go_simp
    refine hK.out _ _ (DrawingX.pure (i := 2) (.pointer (some ⟨R, 0, none⟩)) hP hk hB hR hr rfl ?_)
    simp [put1]
  · intro L ac W hI hL hA K' hK
    obtain ⟨V, rfl, hP, hk, hB, hR, hr⟩ := hI
    have e2 : V 2 = (.pointer (some ⟨R, 0, none⟩)) := hP 2 (hA ⟨2, .data⟩ (by simp) rfl)
    simp only [e2]
    obtain ⟨p', hp', hd⟩ := hr
    have hlt : cntL L [1, 3, 9] + 1 ≤ cntL (more L 3) [1, 3, 9] := cntL_lt (i := 3) hL [1, 3, 9] (by decide)
    have hcn := cntL_len L [1, 3, 9]
    simp only [List.length_cons, List.length_nil] at hcn
    go_simp
    (go_at_call 26; refine (pick_any R a len cap p' 3 W (by omega) (by omega) hd).mono ?_; rintro e' W' ⟨x, rfl, x0, x1, kW, rW⟩)
    (try go_wp2_with fail)
    refine hK.out _ _ (DrawingX.drew (i := 3) (.int .i64 x) hst hP hk hB hR kW ⟨p' + 1, by omega, rW (by omega)⟩ ⟨x, rfl, by omega, by omega⟩ ?_)
    simp [put1, e2]
  · intro L ac W hI hL hA K' hK
    obtain ⟨V, rfl, hP, hk, hB, hR, hr⟩ := hI
    go_simp
    refine hK.out _ _ (DrawingX.pure (i := 4) (.agg #[.int .i64 0, .int .i64 5]) hP hk hB hR hr rfl ?_)
    simp [put1]
  · intro L ac W hI hL hA K' hK
    obtain ⟨V, rfl, hP, hk, hB, hR, hr⟩ := hI
    go_simp
    refine hK.out _ _ (DrawingX.pure (i := 5) (.agg #[.int .i64 5, .int .i64 10]) hP hk hB hR hr rfl ?_)
    simp [put1]
  · intro L ac W hI hL hA K' hK
    obtain ⟨V, rfl, hP, hk, hB, hR, hr⟩ := hI
    go_simp
    refine hK.out _ _ (DrawingX.pure (i := 6) (.agg #[.int .i64 3, .int .i64 12]) hP hk hB hR hr rfl ?_)
    simp [put1]
  · intro L ac W hI hL hA K' hK
    obtain ⟨V, rfl, hP, hk, hB, hR, hr⟩ := hI
    have e4 : V 4 = (.agg #[.int .i64 0, .int .i64 5]) := hP 4 (hA ⟨4, .data⟩ (by simp) rfl)
    have e5 : V 5 = (.agg #[.int .i64 5, .int .i64 10]) := hP 5 (hA ⟨5, .data⟩ (by simp) rfl)
    have e6 : V 6 = (.agg #[.int .i64 3, .int .i64 12]) := hP 6 (hA ⟨6, .data⟩ (by simp) rfl)
    simp only [e4, e5, e6]
    go_simp
    refine hK.out _ _ (DrawingX.made (i := 7) (.slice (some ⟨W.heap.size, 0, none⟩) 3 3) (.cells #[.int .i64 0, .int .i64 5, .int .i64 5, .int .i64 10, .int .i64 3, .int .i64 12] 25) hst hP hk hB hR hr ⟨_, rfl, by omega, heap_alloc_new _ _⟩ ?_)
    simp [put1, e4, e5, e6]
  · intro L ac W hI hL hA K' hK
    obtain ⟨V, rfl, hP, hk, hB, hR, hr⟩ := hI
    go_simp
    refine hK.out _ _ (DrawingX.pure (i := 8) (.pointer (some ⟨R, 0, none⟩)) hP hk hB hR hr rfl ?_)
    simp [put1]
  · intro L ac W hI hL hA K' hK
    obtain ⟨V, rfl, hP, hk, hB, hR, hr⟩ := hI
    have e8 : V 8 = (.pointer (some ⟨R, 0, none⟩)) := hP 8 (hA ⟨8, .data⟩ (by simp) rfl)
    simp only [e8]
    obtain ⟨p', hp', hd⟩ := hr
    have hlt : cntL L [1, 3, 9] + 1 ≤ cntL (more L 9) [1, 3, 9] := cntL_lt (i := 9) hL [1, 3, 9] (by decide)
    have hcn := cntL_len L [1, 3, 9]
    simp only [List.length_cons, List.length_nil] at hcn
    go_simp
    (go_at_call 26; refine (pick_any R a len cap p' 3 W (by omega) (by omega) hd).mono ?_; rintro e' W' ⟨x, rfl, x0, x1, kW, rW⟩)
    (try go_wp2_with fail)
    refine hK.out _ _ (DrawingX.drew (i := 9) (.int .i64 x) hst hP hk hB hR kW ⟨p' + 1, by omega, rW (by omega)⟩ ⟨x, rfl, by omega, by omega⟩ ?_)
    simp [put1, e8]
  · intro L ac W hI hL hA K' hK
    obtain ⟨V, rfl, hP, hk, hB, hR, hr⟩ := hI
    obtain ⟨g7, e7, n7, k7⟩ := (show PSlT R 3 #[.int .i64 0, .int .i64 5, .int .i64 5, .int .i64 10, .int .i64 3, .int .i64 12] 25 (V 7) W from hP 7 (hA ⟨7, .data⟩ (by simp) rfl))
    obtain ⟨z9, e9, lo9, hi9⟩ := (show PInt 0 2 (V 9) W from hP 9 (hA ⟨9, .data⟩ (by simp) rfl))
    simp only [e7, e9]
    obtain ⟨za, zb, h9a, h9b⟩ := elW z9 lo9 (by omega)
    have q0 := (cells_blk (n := 0) k7 (z9.toNat * 2)).1.trans h9a
    have q1 := (cells_blk (n := 0) k7 (z9.toNat * 2 + 1)).1.trans h9b
    have hix : (0 : Int) ≤ z9 ∧ z9 < 3 := ⟨lo9, by omega⟩
    have hix1 : ¬ z9 < 0 := by omega
    have hix2 : z9.toNat < 3 := by omega
    go_simp
    refine hK.out _ _ (DrawingX.pure (i := 10) (.pointer (some ⟨g7, z9.toNat * 2, none⟩)) hP hk hB hR hr ⟨_, _, _, _, rfl, n7, q0, q1⟩ ?_)
    simp [put1, e7, e9]
  · intro L ac W hI hL hA K' hK
    obtain ⟨V, rfl, hP, hk, hB, hR, hr⟩ := hI
    obtain ⟨g10, o10, za10, zb10, e10, n10, c10a, c10b⟩ := (show PPtW R (V 10) W from hP 10 (hA ⟨10, .data⟩ (by simp) rfl))
    simp only [e10]
    go_simp
    refine hK.out _ _ (DrawingX.pure (i := 11) (.agg #[.int .i64 za10, .int .i64 zb10]) hP hk hB hR hr ⟨_, _, rfl⟩ ?_)
    simp [put1, e10]
  · intro L ac W hI hL hA K' hK
    obtain ⟨V, rfl, hP, hk, hB, hR, hr⟩ := hI
    obtain ⟨xs1, o1, l1⟩ := (show PRows B0 (V 1) W from hP 1 (hA ⟨1, .data⟩ (by simp) rfl))
    have e1 : V 1 = V 1 := rfl
    skip
    go_simp
    refine hK.out _ _ (DrawingX.pure (i := 12) (V 1) hP hk hB hR hr ⟨xs1, o1, l1⟩ ?_)
    simp [put1]
  · intro L ac W hI hL hA K' hK
    obtain ⟨V, rfl, hP, hk, hB, hR, hr⟩ := hI
    obtain ⟨z3, e3, lo3, hi3⟩ := (show PInt 0 2 (V 3) W from hP 3 (hA ⟨3, .data⟩ (by simp) rfl))
    simp only [e3]
    go_simp
    refine hK.out _ _ (DrawingX.pure (i := 13) (.int .i64 z3) hP hk hB hR hr ⟨_, rfl, by omega, by omega⟩ ?_)
    simp [put1, e3]
  · intro L ac W hI hA K' hK
    obtain ⟨V, rfl, hP, hk, hB, hR, p', hp', hd⟩ := hI
    obtain ⟨a11, b11, e11⟩ := (show PWin (V 11) W from hP 11 (hA 11 (by decide)))
    obtain ⟨z13, e13, _, _⟩ := (show PInt 0 2 (V 13) W from hP 13 (hA 13 (by decide)))
    obtain ⟨xs1, o1, l1⟩ := (show PRows B0 (V 12) W from hP 12 (hA 12 (by decide)))
    have hXW := (hk.all w.heap.size (by omega) (by omega)).trans hX1
    have hbF : Below w.heap.size w W := hb01.trans (hk.low.mono (by omega))
    obtain ⟨x0, f0⟩ := cells_blk (n := 0) hXW 0
    obtain ⟨x1, f1⟩ := cells_blk (n := 0) hXW 1
    simp only [List.getElem?_toArray, List.getElem?_cons_zero, List.getElem?_cons_succ] at x0 x1
    simp only [e11, e13]
    have Ho := hide o1
    clear o1 hP hst hXW hX1
    go_simp
    refine hK.out _ _ ?_
    go_wp2
    refine bodyPost_ret (v := .tuple #[V 12, .int .i64 z13, .agg #[.int .i64 a11, .int .i64 b11]]) (by simp (maxDischargeDepth := 9) [results, Try.results19, go_sem, *]) rfl ⟨_, xs1, z13, a11, b11, rfl, ?_, l1, ?_⟩
    · refine World.ownsRow.mono (base := B0) ?_ (by omega)
      have Ho' : W.ownsRow B0 35 7 (V 12) xs1.length (flatTb xs1) := unhide Ho
      repeat (first | (with_reducible exact Ho') | (with_reducible refine own_setT ?_ (by simp; omega)))
    · repeat (first | (with_reducible exact hbF) | (with_reducible refine bel_set ?_ (by simp) _))

def drawtpP (w : World) (e' : Ending) (w' : World) : Prop := ∃ (u : Value) (xs : List TbR) (y0 y1 y2 y3 y4 y5 y6 : Int), e' = .returned (.tuple #[u, .agg #[.int .i64 y0, .int .i64 y1, .int .i64 y2, .int .i64 y3, .int .i64 y4, .int .i64 y5, .int .i64 y6]]) ∧ OwnTb w' w.heap.size u xs ∧ xs.length ≤ 9 ∧ Below w.heap.size w w'
def psdrawtp (R B0 : Nat) : List Prd := [PIs (.pointer (some ⟨R, 0, none⟩)), PRows B0, PIs (.pointer (some ⟨R, 0, none⟩)), PInt 0 2, PIs (.agg #[.int .i64 0, .int .i64 5]), PIs (.agg #[.int .i64 5, .int .i64 10]), PIs (.agg #[.int .i64 3, .int .i64 12]), PSlT R 3 #[.int .i64 0, .int .i64 5, .int .i64 5, .int .i64 10, .int .i64 3, .int .i64 12] 25, PIs (.pointer (some ⟨R, 0, none⟩)), PInt 0 2, PPtW R, PWin, PIs (.pointer (some ⟨R, 0, none⟩)), PAgg, PRow, PRows B0, PAny]
theorem stdrawtp (R B0 : Nat) (hRB : R < B0) : AllSt R (psdrawtp R B0) := ⟨st_is _ _, st_rows hRB, st_is _ _, st_int _ _ _, st_is _ _, st_is _ _, st_is _ _, st_slt _ _ _ _, st_is _ _, st_int _ _ _, st_ptw _, st_win _, st_is _ _, st_agg _, st_row _, st_rows hRB, st_any _, trivial⟩

set_option linter.unusedSimpArgs false in
set_option maxRecDepth 20000 in
set_option maxHeartbeats 16000000 in
theorem drawtp_any (a0 : Option Addr) (len0 cap0 : Nat) (w : World) (hlc : len0 ≤ cap0) (hm : len0 ≤ 1048576) (hb : BytesAt w a0 len0) (hl : ∀ g o, a0 = some ⟨g, o, none⟩ → 0 < len0 → g < w.heap.size) (hn : a0 = none → cap0 = 0) : Calls Try.prog 16 #[.slice a0 len0 cap0] w fun e w' => drawtpP w e w' := by
  have hbA : Below w.heap.size w (w.alloc (.cells #[.int .i64 0, .int .i64 0, .int .i64 0, .int .i64 0, .int .i64 0, .int .i64 0, .int .i64 0] 35)) := bel_one _ _
  have hX0 : (w.alloc (.cells #[.int .i64 0, .int .i64 0, .int .i64 0, .int .i64 0, .int .i64 0, .int .i64 0, .int .i64 0] 35)).heap[w.heap.size]? = some (.cells #[.int .i64 0, .int .i64 0, .int .i64 0, .int .i64 0, .int .i64 0, .int .i64 0, .int .i64 0] 35 (0, 0)) := heap_alloc_new _ _
  go_enter Try.func16, Try.ntmps16
  go_wp2_with fail
  refine (open_any a0 len0 cap0 _ hlc hm (hb.bel hl hbA) (fun g o h1 h2 => Nat.lt_of_lt_of_le (hl g o h1 h2) hbA.size) hn).mono ?_
  rintro e' w1 ⟨R, len, cap, rfl, hR1, hR2, hb1, hrd⟩
  have hX1 := (hb1.block w.heap.size (by simp)).trans hX0
  have hRw : w.heap.size < R := by simp at hR1; omega
  have hb01 : Below w.heap.size w w1 := hbA.trans (hb1.mono (by simp))
  clear hb hl hn hX0 hR1
  obtain ⟨a, ha⟩ : ∃ a, a = a0 := ⟨_, rfl⟩
  rw [← ha] at hrd
  obtain ⟨B0, hB0⟩ : ∃ B0, B0 = w1.heap.size := ⟨_, rfl⟩
  have hRB : R < B0 := by omega
  obtain ⟨p, hp0⟩ : ∃ p, p = 0 := ⟨_, rfl⟩
  rw [← hp0] at hrd
  go_wp2_with fail
  have hst := stdrawtp R B0 hRB
  refine wp_region_last (by kernel_rfl) (by kernel_rfl) (by kernel_rfl) (DrawingX R B0 a len cap p w1 (psdrawtp R B0) [1, 3, 9, 13] (fun V => #[.slice a0 len0 cap0, undef, V 15, .pointer (some ⟨w.heap.size, 0, none⟩), .pointer (some ⟨R, 0, none⟩), .slice a0 len0 cap0, .pointer (some ⟨R, 0, none⟩), V 0, V 1, V 2, V 3, V 4, V 5, V 6, V 7, V 8, V 9, V 10, V 11, V 12, V 13, V 14]) []) ?_ ?_
  · refine ⟨fun j => if j = 15 then .slice none 0 0 else undef, rfl, ?_, ⟨(Below.refl _ _).drew, fun _ _ _ => rfl⟩, ?_, ?_, p, ?_, ?_⟩
    · intro j hj
      exact absurd hj (by simp)
    · simp; omega
    · omega
    · omega
    · exact ⟨hrd.1, hrd.2, hrd.3, hrd.4, hrd.5, hrd.6, hrd.7⟩
  refine ⟨?_, ?_, ?_, ?_, ?_, ?_, ?_, ?_, ?_, ?_, ?_, ?_, ?_, ?_, ?_, ?_, ?_⟩
  · intro L ac W hI hL hA K' hK
    obtain ⟨V, rfl, hP, hk, hB, hR, hr⟩ := hI
    go_simp
    refine hK.out _ _ (DrawingX.pure (i := 0) (.pointer (some ⟨R, 0, none⟩)) hP hk hB hR hr rfl ?_)
    simp [put1]
  · intro L ac W hI hL hA K' hK
    obtain ⟨V, rfl, hP, hk, hB, hR, hr⟩ := hI
    have e0 : V 0 = (.pointer (some ⟨R, 0, none⟩)) := hP 0 (hA ⟨0, .data⟩ (by simp) rfl)
    simp only [e0]
    obtain ⟨p', hp', hd⟩ := hr
    have hlt : cntL L [1, 3, 9, 13] + 1 ≤ cntL (more L 1) [1, 3, 9, 13] := cntL_lt (i := 1) hL [1, 3, 9, 13] (by decide)
    have hcn := cntL_len L [1, 3, 9, 13]
    simp only [List.length_cons, List.length_nil] at hcn
    go_simp
    (go_at_call 25; refine (rows_any R a len cap p' W (by omega) (by omega) hd).mono ?_; rintro e' W' ⟨u, xs, rfl, hO, hxl, kW, p2, hp2, rW⟩)
    (try go_wp2_with fail)
    refine hK.out _ _ (DrawingX.drew (i := 1) u hst hP hk hB hR kW ⟨p2, by omega, rW⟩ ⟨xs, World.ownsRow.mono hO hB, hxl⟩ ?_)
    simp [put1, e0]
  · intro L ac W hI hL hA K' hK
    obtain ⟨V, rfl, hP, hk, hB, hR, hr⟩ := hI
    go_simp
    refine hK.out _ _ (DrawingX.pure (i := 2) (.pointer (some ⟨R, 0, none⟩)) hP hk hB hR hr rfl ?_)
    simp [put1]
  · intro L ac W hI hL hA K' hK
    obtain ⟨V, rfl, hP, hk, hB, hR, hr⟩ := hI
    have e2 : V 2 = (.pointer (some ⟨R, 0, none⟩)) := hP 2 (hA ⟨2, .data⟩ (by simp) rfl)
    simp only [e2]
    obtain ⟨p', hp', hd⟩ := hr
    have hlt : cntL L [1, 3, 9, 13] + 1 ≤ cntL (more L 3) [1, 3, 9, 13] := cntL_lt (i := 3) hL [1, 3, 9, 13] (by decide)
    have hcn := cntL_len L [1, 3, 9, 13]
    simp only [List.length_cons, List.length_nil] at hcn
    go_simp
    (go_at_call 26; refine (pick_any R a len cap p' 3 W (by omega) (by omega) hd).mono ?_; rintro e' W' ⟨x, rfl, x0, x1, kW, rW⟩)
    (try go_wp2_with fail)
    refine hK.out _ _ (DrawingX.drew (i := 3) (.int .i64 x) hst hP hk hB hR kW ⟨p' + 1, by omega, rW (by omega)⟩ ⟨x, rfl, by omega, by omega⟩ ?_)
    simp [put1, e2]
  · intro L ac W hI hL hA K' hK
    obtain ⟨V, rfl, hP, hk, hB, hR, hr⟩ := hI
    go_simp
    refine hK.out _ _ (DrawingX.pure (i := 4) (.agg #[.int .i64 0, .int .i64 5]) hP hk hB hR hr rfl ?_)
    simp [put1]
  · intro L ac W hI hL hA K' hK
    obtain ⟨V, rfl, hP, hk, hB, hR, hr⟩ := hI
    go_simp
    refine hK.out _ _ (DrawingX.pure (i := 5) (.agg #[.int .i64 5, .int .i64 10]) hP hk hB hR hr rfl ?_)
    simp [put1]
  · intro L ac W hI hL hA K' hK
    obtain ⟨V, rfl, hP, hk, hB, hR, hr⟩ := hI
    go_simp
    refine hK.out _ _ (DrawingX.pure (i := 6) (.agg #[.int .i64 3, .int .i64 12]) hP hk hB hR hr rfl ?_)
    simp [put1]
  · intro L ac W hI hL hA K' hK
    obtain ⟨V, rfl, hP, hk, hB, hR, hr⟩ := hI
    have e4 : V 4 = (.agg #[.int .i64 0, .int .i64 5]) := hP 4 (hA ⟨4, .data⟩ (by simp) rfl)
    have e5 : V 5 = (.agg #[.int .i64 5, .int .i64 10]) := hP 5 (hA ⟨5, .data⟩ (by simp) rfl)
    have e6 : V 6 = (.agg #[.int .i64 3, .int .i64 12]) := hP 6 (hA ⟨6, .data⟩ (by simp) rfl)
    simp only [e4, e5, e6]
    go_simp
    refine hK.out _ _ (DrawingX.made (i := 7) (.slice (some ⟨W.heap.size, 0, none⟩) 3 3) (.cells #[.int .i64 0, .int .i64 5, .int .i64 5, .int .i64 10, .int .i64 3, .int .i64 12] 25) hst hP hk hB hR hr ⟨_, rfl, by omega, heap_alloc_new _ _⟩ ?_)
    simp [put1, e4, e5, e6]
  · intro L ac W hI hL hA K' hK
    obtain ⟨V, rfl, hP, hk, hB, hR, hr⟩ := hI
    go_simp
    refine hK.out _ _ (DrawingX.pure (i := 8) (.pointer (some ⟨R, 0, none⟩)) hP hk hB hR hr rfl ?_)
    simp [put1]
  · intro L ac W hI hL hA K' hK
    obtain ⟨V, rfl, hP, hk, hB, hR, hr⟩ := hI
    have e8 : V 8 = (.pointer (some ⟨R, 0, none⟩)) := hP 8 (hA ⟨8, .data⟩ (by simp) rfl)
    simp only [e8]
    obtain ⟨p', hp', hd⟩ := hr
    have hlt : cntL L [1, 3, 9, 13] + 1 ≤ cntL (more L 9) [1, 3, 9, 13] := cntL_lt (i := 9) hL [1, 3, 9, 13] (by decide)
    have hcn := cntL_len L [1, 3, 9, 13]
    simp only [List.length_cons, List.length_nil] at hcn
    go_simp
    (go_at_call 26; refine (pick_any R a len cap p' 3 W (by omega) (by omega) hd).mono ?_; rintro e' W' ⟨x, rfl, x0, x1, kW, rW⟩)
    (try go_wp2_with fail)
    refine hK.out _ _ (DrawingX.drew (i := 9) (.int .i64 x) hst hP hk hB hR kW ⟨p' + 1, by omega, rW (by omega)⟩ ⟨x, rfl, by omega, by omega⟩ ?_)
    simp [put1, e8]
  · intro L ac W hI hL hA K' hK
    obtain ⟨V, rfl, hP, hk, hB, hR, hr⟩ := hI
    obtain ⟨g7, e7, n7, k7⟩ := (show PSlT R 3 #[.int .i64 0, .int .i64 5, .int .i64 5, .int .i64 10, .int .i64 3, .int .i64 12] 25 (V 7) W from hP 7 (hA ⟨7, .data⟩ (by simp) rfl))
    obtain ⟨z9, e9, lo9, hi9⟩ := (show PInt 0 2 (V 9) W from hP 9 (hA ⟨9, .data⟩ (by simp) rfl))
    simp only [e7, e9]
    obtain ⟨za, zb, h9a, h9b⟩ := elW z9 lo9 (by omega)
    have q0 := (cells_blk (n := 0) k7 (z9.toNat * 2)).1.trans h9a
    have q1 := (cells_blk (n := 0) k7 (z9.toNat * 2 + 1)).1.trans h9b
    have hix : (0 : Int) ≤ z9 ∧ z9 < 3 := ⟨lo9, by omega⟩
    have hix1 : ¬ z9 < 0 := by omega
    have hix2 : z9.toNat < 3 := by omega
    go_simp
    refine hK.out _ _ (DrawingX.pure (i := 10) (.pointer (some ⟨g7, z9.toNat * 2, none⟩)) hP hk hB hR hr ⟨_, _, _, _, rfl, n7, q0, q1⟩ ?_)
    simp [put1, e7, e9]
  · intro L ac W hI hL hA K' hK
    obtain ⟨V, rfl, hP, hk, hB, hR, hr⟩ := hI
    obtain ⟨g10, o10, za10, zb10, e10, n10, c10a, c10b⟩ := (show PPtW R (V 10) W from hP 10 (hA ⟨10, .data⟩ (by simp) rfl))
    simp only [e10]
    go_simp
    refine hK.out _ _ (DrawingX.pure (i := 11) (.agg #[.int .i64 za10, .int .i64 zb10]) hP hk hB hR hr ⟨_, _, rfl⟩ ?_)
    simp [put1, e10]
  · intro L ac W hI hL hA K' hK
    obtain ⟨V, rfl, hP, hk, hB, hR, hr⟩ := hI
    go_simp
    refine hK.out _ _ (DrawingX.pure (i := 12) (.pointer (some ⟨R, 0, none⟩)) hP hk hB hR hr rfl ?_)
    simp [put1]
  · intro L ac W hI hL hA K' hK
    obtain ⟨V, rfl, hP, hk, hB, hR, hr⟩ := hI
    have e12 : V 12 = (.pointer (some ⟨R, 0, none⟩)) := hP 12 (hA ⟨12, .data⟩ (by simp) rfl)
    simp only [e12]
    obtain ⟨p', hp', hd⟩ := hr
    have hlt : cntL L [1, 3, 9, 13] + 1 ≤ cntL (more L 13) [1, 3, 9, 13] := cntL_lt (i := 13) hL [1, 3, 9, 13] (by decide)
    have hcn := cntL_len L [1, 3, 9, 13]
    simp only [List.length_cons, List.length_nil] at hcn
    go_simp
    (go_at_call 27; refine (agg_any R a len cap p' 9 W (by omega) (by omega) (by omega) (by omega) hd).mono ?_; rintro e' W' ⟨n0, m0, l0, t0, rfl, _, _, _, _, kW, p2, hp2, rW⟩)
    (try go_wp2_with fail)
    refine hK.out _ _ (DrawingX.drew (i := 13) (.agg #[.int .i64 n0, .int .i64 m0, .int .i64 l0, .int .i64 t0]) hst hP hk hB hR kW ⟨p2, by omega, rW⟩ ⟨_, _, _, _, rfl⟩ ?_)
    simp [put1, e12]
  · intro L ac W hI hL hA K' hK
    obtain ⟨V, rfl, hP, hk, hB, hR, hr⟩ := hI
    obtain ⟨z3, e3, lo3, hi3⟩ := (show PInt 0 2 (V 3) W from hP 3 (hA ⟨3, .data⟩ (by simp) rfl))
    obtain ⟨a11, b11, e11⟩ := (show PWin (V 11) W from hP 11 (hA ⟨11, .data⟩ (by simp) rfl))
    obtain ⟨n13, m13, l13, t13, e13⟩ := (show PAgg (V 13) W from hP 13 (hA ⟨13, .data⟩ (by simp) rfl))
    simp only [e3, e11, e13]
    go_simp
    refine hK.out _ _ (DrawingX.pure (i := 14) (.agg #[.int .i64 z3, .int .i64 a11, .int .i64 b11, .int .i64 n13, .int .i64 m13, .int .i64 l13, .int .i64 t13]) hP hk hB hR hr ⟨_, _, _, _, _, _, _, rfl⟩ ?_)
    simp [put1, e3, e11, e13]
  · intro L ac W hI hL hA K' hK
    obtain ⟨V, rfl, hP, hk, hB, hR, hr⟩ := hI
    obtain ⟨xs1, o1, l1⟩ := (show PRows B0 (V 1) W from hP 1 (hA ⟨1, .data⟩ (by simp) rfl))
    have e1 : V 1 = V 1 := rfl
    skip
    go_simp
    refine hK.out _ _ (DrawingX.pure (i := 15) (V 1) hP hk hB hR hr ⟨xs1, o1, l1⟩ ?_)
    simp [put1]
  · intro L ac W hI hA K' hK
    obtain ⟨V, rfl, hP, hk, hB, hR, p', hp', hd⟩ := hI
    obtain ⟨y0, y1, y2, y3, y4, y5, y6, e14⟩ := (show PRow (V 14) W from hP 14 (hA 14 (by decide)))
    obtain ⟨xs1, o1, l1⟩ := (show PRows B0 (V 15) W from hP 15 (hA 15 (by decide)))
    have hXW := (hk.all w.heap.size (by omega) (by omega)).trans hX1
    have hbF : Below w.heap.size w W := hb01.trans (hk.low.mono (by omega))
    obtain ⟨x0, f0⟩ := cells_blk (n := 0) hXW 0
    obtain ⟨x1, f1⟩ := cells_blk (n := 0) hXW 1
    obtain ⟨x2, f2⟩ := cells_blk (n := 0) hXW 2
    obtain ⟨x3, f3⟩ := cells_blk (n := 0) hXW 3
    obtain ⟨x4, f4⟩ := cells_blk (n := 0) hXW 4
    obtain ⟨x5, f5⟩ := cells_blk (n := 0) hXW 5
    obtain ⟨x6, f6⟩ := cells_blk (n := 0) hXW 6
    simp only [List.getElem?_toArray, List.getElem?_cons_zero, List.getElem?_cons_succ] at x0 x1 x2 x3 x4 x5 x6
    simp only [e14]
    have Ho := hide o1
    clear o1 hP hst hXW hX1
    go_simp
    refine hK.out _ _ ?_
    go_wp2
    refine bodyPost_ret (v := .tuple #[V 15, .agg #[.int .i64 y0, .int .i64 y1, .int .i64 y2, .int .i64 y3, .int .i64 y4, .int .i64 y5, .int .i64 y6]]) (by simp (maxDischargeDepth := 9) [results, Try.results16, go_sem, *]) rfl ⟨_, xs1, y0, y1, y2, y3, y4, y5, y6, rfl, ?_, l1, ?_⟩
    · refine World.ownsRow.mono (base := B0) ?_ (by omega)
      have Ho' : W.ownsRow B0 35 7 (V 15) xs1.length (flatTb xs1) := unhide Ho
      repeat (first | (with_reducible exact Ho') | (with_reducible refine own_setT ?_ (by simp; omega)))
    · repeat (first | (with_reducible exact hbF) | (with_reducible refine bel_set ?_ (by simp) _))

theorem drawto_any (a0 : Option Addr) (len0 cap0 : Nat) (w : World) (hlc : len0 ≤ cap0) (hm : len0 ≤ 1048576) (hb : BytesAt w a0 len0) (hl : ∀ g o, a0 = some ⟨g, o, none⟩ → 0 < len0 → g < w.heap.size) (hn : a0 = none → cap0 = 0) : Calls Try.prog 6 #[.slice a0 len0 cap0] w fun e w' => drawtfP w e w' := by
  go_enter Try.func6, Try.ntmps6
  go_wp2_with fail
  have hbA : Below w.heap.size w (w.alloc (.cells #[.int .i64 0, .int .i64 0] 25)) := bel_one _ _
  refine (drawtf_any a0 len0 cap0 _ hlc hm (hb.bel hl hbA) (fun g o h1 h2 => Nat.lt_of_lt_of_le (hl g o h1 h2) hbA.size) hn).mono ?_
  rintro e' w1 ⟨u, xs, k, st, en, rfl, hO, hxl, hb1⟩
  have x0 : w1.cell? ⟨w.heap.size, 0, none⟩ = some (.int .i64 0) := (hb1.cell (p := ⟨w.heap.size, 0, none⟩) (by simp)).trans (by simp [go_sem])
  have x1 : w1.cell? ⟨w.heap.size, 1, none⟩ = some (.int .i64 0) := (hb1.cell (p := ⟨w.heap.size, 1, none⟩) (by simp)).trans (by simp [go_sem])
  have f0 : w1.frozen? ⟨w.heap.size, 0, none⟩ = false := (hb1.frozen (p := ⟨w.heap.size, 0, none⟩) (by simp)).trans (by simp [go_sem])
  have f1 : w1.frozen? ⟨w.heap.size, 1, none⟩ = false := (hb1.frozen (p := ⟨w.heap.size, 1, none⟩) (by simp)).trans (by simp [go_sem])
  have HO : Hid (w1.ownsRow (w.alloc (.cells #[.int .i64 0, .int .i64 0] 25)).heap.size 35 7 u xs.length (flatTb xs)) := hide hO
  have hbF : Below w.heap.size w w1 := bel_trans hbA hb1
  clear hO hb hl hn
  go_wp2
  refine bodyPost_ret (v := .tuple #[u, .int .i64 k, .agg #[.int .i64 st, .int .i64 en]]) (by simp (maxDischargeDepth := 9) [results, Try.results6, go_sem, *]) rfl ⟨_, xs, k, st, en, rfl, ?_, hxl, ?_⟩
  · refine World.ownsRow.mono (base := (w.alloc (.cells #[.int .i64 0, .int .i64 0] 25)).heap.size) ?_ (by simp)
    repeat (first | (with_reducible exact unhide HO) | (with_reducible refine own_setT ?_ (by simp)))
  · repeat (first | (with_reducible exact hbF) | (with_reducible refine bel_set ?_ (by simp) _))
end Go.Proofs.Ytjljiijjgmmieaa
