/- Proved here: two lists of rows are drawn; the law on lists that are the same returns true at every code. -/
import Derived.Test.YtjljiijjgmmieaaDrawTab
import Derived.Test.YtjljiijjgmmieaaFrTab
import Derived.Laws.AppendOwnNone
import Derived.Laws.OwnMore
namespace Go.Proofs.Ytjljiijjgmmieaa
open Go.ChangeShapes Go.WideShapes Go.ChangeAt Go.RowKit
set_option linter.unusedVariables false

theorem flatTb_set (xs : List TbR) (k : Nat) (x : TbR) (hx : xs[k]? = some x) (a b c d : Int) : ((((flatTb xs).set (k * 7 + 3) (.int .i64 a)).set (k * 7 + 4) (.int .i64 b)).set (k * 7 + 5) (.int .i64 c)).set (k * 7 + 6) (.int .i64 d) = flatTb (xs.set k ⟨x.ky, x.st, x.en, a, b, c, d⟩) := by
  induction xs generalizing k with
  | nil => simp at hx
  | cons y r ih =>
    have hf : flatTb (y :: r) = y.cells ++ flatTb r := rfl
    cases k with
    | zero => simp at hx; subst hx; rfl
    | succ k =>
      have hf2 : flatTb (y :: r.set k ⟨x.ky, x.st, x.en, a, b, c, d⟩) = y.cells ++ flatTb (r.set k ⟨x.ky, x.st, x.en, a, b, c, d⟩) := rfl
      have hl : y.cells.length = 7 := rfl
      rw [List.set_cons_succ, hf, hf2, ← ih k (by simpa using hx)]
      rw [List.set_append_right _ _ (by rw [hl]; omega), List.set_append_right _ _ (by rw [hl]; omega), List.set_append_right _ _ (by rw [hl]; omega), List.set_append_right _ _ (by rw [hl]; omega), hl]
      rw [show (k + 1) * 7 + 3 - 7 = k * 7 + 3 by omega, show (k + 1) * 7 + 4 - 7 = k * 7 + 4 by omega, show (k + 1) * 7 + 5 - 7 = k * 7 + 5 by omega, show (k + 1) * 7 + 6 - 7 = k * 7 + 6 by omega]
theorem ownTb_put {W : World} {B g cp n : Nat} {xs : List TbR} (h : OwnTb W B (.slice (some ⟨g, 0, none⟩) n cp) xs) (hn : xs.length = n) (k : Nat) (x : TbR) (hx : xs[k]? = some x) (a b c d : Int) : OwnTb ((((W.setCell ⟨g, k * 7 + 3, none⟩ (.int .i64 a)).setCell ⟨g, k * 7 + 4, none⟩ (.int .i64 b)).setCell ⟨g, k * 7 + 5, none⟩ (.int .i64 c)).setCell ⟨g, k * 7 + 6, none⟩ (.int .i64 d)) B (.slice (some ⟨g, 0, none⟩) n cp) (xs.set k ⟨x.ky, x.st, x.en, a, b, c, d⟩) := by
  subst hn
  have hl : (xs.set k ⟨x.ky, x.st, x.en, a, b, c, d⟩).length = xs.length := by simp
  unfold OwnTb
  rw [hl, ← flatTb_set xs k x hx]
  exact (World.ownsRow.stored (World.ownsRow.stored (World.ownsRow.stored (World.ownsRow.stored h _ _).1 _ _).1 _ _).1 _ _).1
theorem ownTb_form {W : World} {B : Nat} {v : Value} {xs : List TbR} (h : OwnTb W B v xs) (hp : 1 ≤ xs.length) : ∃ g cp, v = .slice (some ⟨g, 0, none⟩) xs.length cp ∧ B ≤ g ∧ g < W.heap.size ∧ (∀ o, W.frozen? ⟨g, o, none⟩ = false) := by
  rcases h.2 with ⟨rfl, h0⟩ | ⟨g, cap, cur, rfl, hB, hblk, hc, _⟩
  · omega
  · exact ⟨g, cap, rfl, hB, (Array.getElem?_eq_some_iff.1 hblk).1, fun o => by simp [World.frozen?, hblk, go_sem]⟩
theorem cellsTbA {W : World} {a : Option Addr} {n : Nat} {xs : List TbR} {q : Addr} (h : TbRs W a n xs) (ha : a = some q) : ∀ j u, (flatTb xs)[j]? = some u → W.cell? (q.add j) = some u := by
  intro j u hu
  obtain ⟨h1, _, h3⟩ := h
  have hj : j < xs.length * 7 := by have := (List.getElem?_eq_some_iff.1 hu).1; rw [flatTb_len] at this; exact this
  obtain ⟨g, o, e, hat⟩ := h3.resolve_left (by omega)
  rw [ha] at e
  cases e
  obtain ⟨i, r, hr, hi, rfl⟩ : ∃ i r, r < 7 ∧ i < xs.length ∧ j = i * 7 + r := ⟨j / 7, j % 7, Nat.mod_lt _ (by decide), by omega, by omega⟩
  have hxi : xs[i]? = some xs[i] := List.getElem?_eq_getElem hi
  obtain ⟨c0, c1, c2, c3, c4, c5, c6⟩ := hat i xs[i] hxi
  obtain ⟨d0, d1, d2, d3, d4, d5, d6⟩ := flatTb_get hxi
  have key : ∀ (t : Nat) (v : Value), W.cell? ⟨g, o + i * 7 + t, none⟩ = some v → (flatTb xs)[i * 7 + t]? = some v → r = t → W.cell? ((⟨g, o, none⟩ : Addr).add (i * 7 + r)) = some u := fun t v hc hd ht => by
    subst ht
    rw [hd] at hu
    cases hu
    have hA : ∀ n, (⟨g, o, none⟩ : Addr).add n = ⟨g, o + n, none⟩ := fun n => by cases n <;> simp [Addr.add]
    rw [hA, ← Nat.add_assoc]
    exact hc
  obtain rfl | rfl | rfl | rfl | rfl | rfl | rfl : r = 0 ∨ r = 1 ∨ r = 2 ∨ r = 3 ∨ r = 4 ∨ r = 5 ∨ r = 6 := by omega
  · exact key 0 _ c0 d0 rfl
  · exact key 1 _ c1 d1 rfl
  · exact key 2 _ c2 d2 rfl
  · exact key 3 _ c3 d3 rfl
  · exact key 4 _ c4 d4 rfl
  · exact key 5 _ c5 d5 rfl
  · exact key 6 _ c6 d6 rfl
theorem flatTb_one (xs : List TbR) : ∀ u ∈ flatTb xs, u.oneCell' = true := by
  intro u hu
  simp only [flatTb, List.mem_flatMap] at hu
  obtain ⟨x, _, hx⟩ := hu
  simp only [TbR.cells, List.mem_cons, List.not_mem_nil, or_false] at hx
  rcases hx with rfl | rfl | rfl | rfl | rfl | rfl | rfl <;> rfl
/-- What is drawn: two lists of rows. -/
def DrawTSP (w : World) (e' : Ending) (w' : World) : Prop := ∃ (u v : Value) (xs ys : List TbR), e' = .returned (.tuple #[u, v]) ∧ OwnTb w' w.heap.size u xs ∧ OwnTb w' w.heap.size v ys ∧ xs.length ≤ 9 ∧ ys.length ≤ 9 ∧ Below w.heap.size w w'

set_option linter.unusedSimpArgs false in
set_option maxRecDepth 20000 in
set_option maxHeartbeats 4000000 in
theorem drawts_any (a : Option Addr) (len cap : Nat) (w : World) (hlc : len ≤ cap) (hm : len ≤ 1048576) (hb : BytesAt w a len) (hl : ∀ g o, a = some ⟨g, o, none⟩ → 0 < len → g < w.heap.size) (hn : a = none → cap = 0) : Calls Try.prog 13 #[.slice a len cap] w fun e w' => DrawTSP w e w' := by
  obtain ⟨i0, hi, hz0, hz1, hz2⟩ := info_parts Try.infoTb
  go_enter Try.func13, Try.ntmps13
  go_wp2_with fail
  refine (open_any a len cap _ hlc hm hb hl hn).mono ?_
  rintro e' w1 ⟨R, ln, cp, rfl, hR1, hR2, hb1, hrd⟩
  clear hb hl hn
  go_wp2_with fail
  refine (rows_any R a ln cp 0 _ (by omega) hR2 hrd).mono ?_
  rintro e' w2 ⟨u, xs, rfl, hO2, hxl, k2, p2, hp2, rd2⟩
  have z2 : R < w2.heap.size := Nat.lt_of_lt_of_le hR2 k2.low.size
  have z12 : w1.heap.size ≤ w2.heap.size := k2.low.size
  have hb02 : Below w.heap.size w w2 := hb1.trans (k2.low.mono hR1)
  have z0 : w.heap.size ≤ w1.heap.size := hb1.size
  obtain ⟨a2, c2, rfl, HT2, _, _⟩ := holdTb hO2 (by omega)
  have HO2 := hide hO2
  clear hO2 hrd
  cases a2 with
  | none =>
    have hx0 : xs.length = 0 := by
      rcases HT2.2.2 with h | ⟨g, o, e, _⟩
      · exact h
      · cases e
    have hnil : (Value.slice none xs.length c2) = .slice none 0 0 := by
      rcases (unhide HO2).2 with ⟨h, _⟩ | ⟨g, cap', cur, h, _⟩
      · exact h
      · cases h
    have hlit : (w2.alloc (.cells #[] 35)).ownsRow w2.heap.size 35 7 (.slice (some ⟨w2.heap.size, 0, none⟩) 0 0) 0 (flatTb []) := World.ownsRow_lit (base := w2.heap.size) (size := 7) w2 #[] 0 (Nat.le_refl _) (by decide) (by simp)
    have HL := hide hlit
    have hbA : Below w2.heap.size w2 (w2.alloc (.cells #[] 35)) := bel_one _ _
    have HO3 := hide (pn_upB (unhide HO2) (fun b hv => hbA.block b (World.ownsRow.lt (unhide HO2) b hv).2))
    rw [hnil] at HO3
    rw [hnil]
    clear hlit hnil HO2 HT2
    go_wp2_with (at_builtin; go_loud (refine wpList_append_own_none rfl _ _ 23 rfl w2.heap.size 35 i0 7 Try.underlying23 hi (.slice (some ⟨w2.heap.size, 0, none⟩) 0 0) 0 (flatTb []) rfl (unhide HL) rfl ?_))
    go_wp2
    refine bodyPost_ret (v := .tuple #[.slice none 0 0, .slice (some ⟨w2.heap.size, 0, none⟩) 0 0]) (by simp (maxDischargeDepth := 9) [results, Try.results13, go_sem, *]) rfl ⟨_, _, xs, [], rfl, World.ownsRow.mono (unhide HO3) z0, World.ownsRow.mono (unhide HL) (by omega), by omega, by simp, hb02.trans (hbA.mono (by omega))⟩
  | some q =>
    have HTh := hide (HT2.below (bel_one w2 (.cells #[] 35)))
    clear HT2
    go_wp2_with (at_builtin; go_loud (refine wpList_append_own _ rfl _ _ 23 rfl w2.heap.size 35 i0 _ 7 56 Try.underlying23 hi hz0 hz1 hz2 rfl (by decide) (.slice (some ⟨w2.heap.size, 0, none⟩) 0 0) 0 [] rfl (World.ownsRow_lit (base := w2.heap.size) (size := 7) w2 #[] 0 (Nat.le_refl _) (by decide) (by simp)) q xs.length c2 (flatTb xs) rfl (flatTb_len xs) (cellsTbA (unhide HTh) rfl) (flatTb_one xs) (by unfold maxLen; omega) (by omega) (by simp) ?_); intro v3 w3 hown hgrow _)
    rw [Nat.zero_add, List.nil_append] at hown
    have hb3 : Below w2.heap.size w2 w3 := (bel_one w2 _).grown hgrow (by simp) (fun k hk => by simp [Value.ownBlock] at hk; omega)
    have hO3 : OwnTb w3 w2.heap.size v3 xs := hown
    have hU3 : OwnTb w3 w1.heap.size (.slice (some q) xs.length c2) xs := pn_upB (unhide HO2) (fun b hv => hb3.block b (World.ownsRow.lt (unhide HO2) b hv).2)
    have hUl : Hid (∀ b, (Value.slice (some q) xs.length c2).ownBlock = some b → b < w2.heap.size) := hide (fun b hv => (World.ownsRow.lt (unhide HO2) b hv).2)
    have HU3 := hide hU3
    have rd3 := rd2.up (hb3.mono (by omega))
    have hb03 : Below w.heap.size w w3 := hb02.trans (hb3.mono (by omega))
    have z3 : w2.heap.size ≤ w3.heap.size := hb3.size
    clear hown hgrow HTh hU3 HO2 rd2
    by_cases hx0 : xs.length = 0
    · obtain ⟨a3, c3, rfl, _, _, _⟩ := holdTb hO3 (by omega)
      have HO3 := hide hO3
      have hLN : ¬ 0 < xs.length := by omega
      have hLI : ¬ (0 : Int) < (xs.length : Int) := by omega
      have hLd : decide (0 < xs.length) = false := decide_eq_false hLN
      clear hO3 hx0
      go_wp2
      refine bodyPost_ret (v := .tuple #[.slice (some q) xs.length c2, .slice a3 xs.length c3]) (by simp (maxDischargeDepth := 9) [results, Try.results13, go_sem, *]) rfl ⟨_, _, xs, xs, rfl, World.ownsRow.mono (unhide HU3) z0, World.ownsRow.mono (unhide HO3) (by omega), hxl, hxl, hb03⟩
    · obtain ⟨g, cp3, rfl, hg1, hg2, hgf⟩ := ownTb_form hO3 (by omega)
      have HO3 := hide hO3
      have hLN : 0 < xs.length := by omega
      have hLI : (0 : Int) < (xs.length : Int) := by omega
      have hLd : decide (0 < xs.length) = true := decide_eq_true hLN
      clear hO3 hx0 hgf
      go_simp
      go_wp2_with fail
      refine (pick_any R a ln cp p2 2 _ (by decide) (by decide) rd3).mono ?_
      rintro e' w4 ⟨y, rfl, _, _, k4, r4⟩
      have rd4 := r4 (by omega)
      have HO4 := hide (ownTb_kp (unhide HO3) k4 z2)
      have HU4 := hide (ownTb_kp (unhide HU3) k4 hR2)
      have hb04 : Below w.heap.size w w4 := hb03.trans (k4.low.mono hR1)
      have z4 : w3.heap.size ≤ w4.heap.size := k4.low.size
      clear HO3 HU3 rd3 r4 k4
      by_cases hy : y = 0
      · subst hy
        go_wp2_with fail
        refine (pick_any R a ln cp (p2 + 1) xs.length _ (by omega) (by omega) rd4).mono ?_
        rintro e' w5 ⟨kz, rfl, kl, ku, k5, r5⟩
        obtain ⟨k, rfl⟩ := Int.eq_ofNat_of_zero_le kl
        have rd5 := r5 (by omega)
        have HO5 := hide (ownTb_kp (unhide HO4) k5 z2)
        have HU5 := hide (ownTb_kp (unhide HU4) k5 hR2)
        have hb05 : Below w.heap.size w w5 := hb04.trans (k5.low.mono hR1)
        have z5 : w4.heap.size ≤ w5.heap.size := k5.low.size
        clear HO4 HU4 rd4 r5 k5
        go_wp2_with fail
        refine (agg_any R a ln cp (p2 + 1 + 1) 9 _ (by decide) (by decide) (by omega) (by omega) rd5).mono ?_
        rintro e' w6 ⟨n0, m0, l0, t0, rfl, _, _, _, _, k6, _, _, _⟩
        have hO6 := ownTb_kp (unhide HO5) k6 z2
        have HU6 := hide (ownTb_kp (unhide HU5) k6 hR2)
        have hb06 : Below w.heap.size w w6 := hb05.trans (k6.low.mono hR1)
        have hk : k < xs.length := by omega
        have hkI : (k : Int) < (xs.length : Int) := by omega
        obtain ⟨x, hx⟩ : ∃ x, xs[k]? = some x := ⟨_, List.getElem?_eq_getElem hk⟩
        obtain ⟨g', cp', he, _, _, hgf⟩ := ownTb_form hO6 (by omega)
        simp only [Value.slice.injEq, Option.some.injEq, Addr.mk.injEq, and_true, true_and] at he
        obtain ⟨rfl, rfl⟩ := he
        obtain ⟨c0, c1, c2', c3, c4, c5, c6⟩ : TbRAt w6 g (k * 7) x := by
          obtain ⟨_, _, e, HT, _, _⟩ := holdTb hO6 (by omega)
          simp only [Value.slice.injEq, true_and] at e
          obtain ⟨rfl, rfl⟩ := e
          obtain ⟨_, _, h3⟩ := HT
          obtain ⟨g2, o2, e2, hat⟩ := h3.resolve_left (by omega)
          cases e2
          have h9 := hat k x hx
          rw [Nat.zero_add] at h9
          exact h9
        have f3 := hgf (k * 7 + 3)
        have f4 := hgf (k * 7 + 4)
        have f5 := hgf (k * 7 + 5)
        have f6 := hgf (k * 7 + 6)
        have hput := ownTb_put hO6 rfl k x hx n0 m0 l0 t0
        have HP := hide hput
        clear hput hO6 HO5 HU5 rd5 hgf hx k6 c0 c1 c2'
        go_wp2
        refine bodyPost_ret (v := .tuple #[.slice (some q) xs.length c2, .slice (some ⟨g, 0, none⟩) xs.length cp3]) (by simp (maxDischargeDepth := 9) [results, Try.results13, go_sem, *]) rfl ⟨_, _, xs, _, rfl, ?_, World.ownsRow.mono (unhide HP) (by omega), hxl, by simp; omega, ?_⟩
        · have hne : ∀ b, (Value.slice (some q) xs.length c2).ownBlock = some b → b ≠ g := fun b hv => by have := unhide hUl b hv; omega
          refine World.ownsRow.mono ?_ z0
          refine pn_upB (unhide HU6) (fun b hv => ?_)
          exact (Below.heap_setCell _ _ _ _ (hne b hv)).trans ((Below.heap_setCell _ _ _ _ (hne b hv)).trans ((Below.heap_setCell _ _ _ _ (hne b hv)).trans (Below.heap_setCell _ _ _ _ (hne b hv))))
        · exact (((hb06.setCell (p := ⟨g, _, none⟩) (show w.heap.size ≤ g by omega) _).setCell (p := ⟨g, _, none⟩) (show w.heap.size ≤ g by omega) _).setCell (p := ⟨g, _, none⟩) (show w.heap.size ≤ g by omega) _).setCell (p := ⟨g, _, none⟩) (show w.heap.size ≤ g by omega) _
      · have hy' : (y == 0) = false := by simp [hy]
        go_wp2
        refine bodyPost_ret (v := .tuple #[.slice (some q) xs.length c2, .slice (some ⟨g, 0, none⟩) xs.length cp3]) (by simp (maxDischargeDepth := 9) [results, Try.results13, go_sem, *]) rfl ⟨_, _, xs, xs, rfl, World.ownsRow.mono (unhide HU4) z0, World.ownsRow.mono (unhide HO4) (by omega), hxl, hxl, hb04⟩
theorem sameT_comm (xs ys : List TbR) : sameT ys xs = sameT xs ys := by
  have key : ∀ xa xb : List TbR, sameT xa xb = true → sameT xb xa = true := by
    intro xa xb h
    refine sameT_all (sameT_len h).symm (fun k x y hx hy => ?_)
    cases he : eqR x y with
    | true => rfl
    | false =>
      have he2 : eqR y x = false := by
        cases h9 : eqR y x with
        | false => rfl
        | true => simp only [eqR, Bool.and_eq_true, beq_iff_eq] at h9; simp [eqR, h9] at he
      rw [sameT_hit hy hx he2] at h
      cases h
  cases h : sameT xs ys with
  | true => exact key _ _ h
  | false =>
    cases h2 : sameT ys xs with
    | false => rfl
    | true => rw [key _ _ h2] at h; cases h
theorem implsame_is (a1 a2 : Option Addr) (len1 cap1 len2 cap2 : Nat) (xs ys : List TbR) (w : World) {bb : Bool} (h : TbRs w a1 len1 xs) (h' : TbRs w a2 len2 ys) (hB : Hid (sameT xs ys = bb)) : Calls Try.prog 14 #[.slice a1 len1 cap1, .slice a2 len2 cap2] w fun e w' => e = .returned (.bool bb) ∧ Below w.heap.size w w' := by
  rw [← unhide hB]; exact implsame_any a1 a2 len1 cap1 len2 cap2 xs ys w h h'
theorem specsame_is (a1 a2 : Option Addr) (len1 cap1 len2 cap2 : Nat) (xs ys : List TbR) (w : World) {bb : Bool} (h : TbRs w a1 len1 xs) (h' : TbRs w a2 len2 ys) (hB : Hid (sameT xs ys = bb)) : Calls Try.prog 15 #[.slice a1 len1 cap1, .slice a2 len2 cap2] w fun e w' => e = .returned (.bool bb) ∧ Below w.heap.size w w' := by
  rw [← unhide hB]; exact specsame_any a1 a2 len1 cap1 len2 cap2 xs ys w h h'
theorem frtab_is (a1 a2 : Option Addr) (len1 cap1 len2 cap2 : Nat) (xs ys : List TbR) (w : World) {bb : Bool} (h : TbRs w a1 len1 xs) (h' : TbRs w a2 len2 ys) (hB : Hid (sameT xs ys = bb)) : Calls Try.prog 10 #[.slice a1 len1 cap1, .slice a2 len2 cap2] w fun e w' => e = .returned (.bool bb) ∧ Below w.heap.size w w' := by
  rw [← unhide hB]; exact frtab_any a1 a2 len1 cap1 len2 cap2 xs ys w h h'

set_option linter.unusedSimpArgs false in
set_option maxRecDepth 20000 in
set_option maxHeartbeats 8000000 in
theorem lawTabSameP (a : Option Addr) (len cap : Nat) (w : World) (hlc : len ≤ cap) (hm : len ≤ maxLen) (hb : BytesAt w a len) (hl : ∀ g o, a = some ⟨g, o, none⟩ → 0 < len → g < w.heap.size) (hn : a = none → cap = 0) : Calls Try.prog 4 #[.slice a len cap] w fun e w' => e = .returned (.bool true) ∧ Below w.heap.size w w' := by
  unfold maxLen at hm
  by_cases hlen : (len : Int) ≤ 1048576
  · go_enter Try.func4, Try.ntmps4
    go_wp2_with fail
    refine (drawts_any a len cap w hlc (by omega) hb hl hn).mono ?_
    rintro e' w1 ⟨u, v, xs, ys, rfl, hO1, hO2, hxl, hyl, hb1⟩
    clear hb hl hn
    obtain ⟨a1, c1, rfl, H1, _, _⟩ := holdTb hO1 (by omega)
    obtain ⟨a2, c2, rfl, H2, _, _⟩ := holdTb hO2 (by omega)
    obtain ⟨bb, hB⟩ : ∃ bb, sameT xs ys = bb := ⟨_, rfl⟩
    have HB := hide hB
    have HC : Hid (sameT ys xs = bb) := hide (by rw [sameT_comm]; exact hB)
    have HE : Hid (sameT [] [] = true) := hide rfl
    have G1 := hide H1
    have G2 := hide H2
    clear hO1 hO2 hB H1 H2
    go_wp2_with fail
    refine (implsame_is a1 a2 xs.length c1 ys.length c2 xs ys _ (unhide G1) (unhide G2) HB).mono ?_
    rintro e' w2 ⟨rfl, hb2⟩
    have G12 := hide ((unhide G1).below hb2)
    have G22 := hide ((unhide G2).below hb2)
    clear G1 G2
    go_wp2_with fail
    refine (frtab_is a1 a2 xs.length c1 ys.length c2 xs ys _ (unhide G12) (unhide G22) HB).mono ?_
    rintro e' w3 ⟨rfl, hb3⟩
    have G13 := hide ((unhide G12).below hb3)
    have G23 := hide ((unhide G22).below hb3)
    clear G12 G22
    go_wp2_with fail
    refine (implsame_is a1 a2 xs.length c1 ys.length c2 xs ys _ (unhide G13) (unhide G23) HB).mono ?_
    rintro e' w4 ⟨rfl, hb4⟩
    have G14 := hide ((unhide G13).below hb4)
    have G24 := hide ((unhide G23).below hb4)
    clear G13 G23
    go_wp2_with fail
    refine (specsame_is a1 a2 xs.length c1 ys.length c2 xs ys _ (unhide G14) (unhide G24) HB).mono ?_
    rintro e' w5 ⟨rfl, hb5⟩
    have G15 := hide ((unhide G14).below hb5)
    have G25 := hide ((unhide G24).below hb5)
    clear G14 G24
    go_wp2_with fail
    refine (implsame_is a2 a1 ys.length c2 xs.length c1 ys xs _ (unhide G25) (unhide G15) HC).mono ?_
    rintro e' w6 ⟨rfl, hb6⟩
    have G16 := hide ((unhide G15).below hb6)
    have G26 := hide ((unhide G25).below hb6)
    clear G15 G25
    go_wp2_with fail
    refine (frtab_is a1 a2 xs.length c1 ys.length c2 xs ys _ (unhide G16) (unhide G26) HB).mono ?_
    rintro e' w7 ⟨rfl, hb7⟩
    clear G16 G26
    have hbF : Below w.heap.size w w7 := bel_trans hb1 (bel_trans hb2 (bel_trans hb3 (bel_trans hb4 (bel_trans hb5 (bel_trans hb6 hb7)))))
    have hbZ : Below w7.heap.size w7 ((w7.alloc (.cells #[] 35)).alloc (.cells #[] 35)) := bel_alloc (bel_one _ _) _
    clear hb1 hb2 hb3 hb4 hb5 hb6 hb7
    go_wp2_with fail
    refine (implsame_is _ _ 0 0 0 0 [] [] _ ⟨rfl, Nat.zero_le _, Or.inl rfl⟩ ⟨rfl, Nat.zero_le _, Or.inl rfl⟩ HE).mono ?_
    rintro e' w8 ⟨rfl, hb8⟩
    go_wp2
    go_ret
    exact ⟨rfl, bel_trans hbF (bel_trans hbZ hb8)⟩
  · go_enter Try.func4, Try.ntmps4
    go_wp2
    go_ret
    exact ⟨rfl, Below.refl _ _⟩
end Go.Proofs.Ytjljiijjgmmieaa
