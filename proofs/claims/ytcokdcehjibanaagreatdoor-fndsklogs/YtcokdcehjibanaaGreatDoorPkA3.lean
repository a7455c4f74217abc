/- Laid together: texts that were built one by one. -/
import Derived.Test.YtcokdcehjibanaaGreatDoorDraw3
import Derived.Test.YtcokdcehjibanaaGreatDoorPkA0
import Derived.Laws.OwnMore
import Derived.Test.YtcokdcehjibanaaGreatDoorPkA2
import Derived.Test.YtcokdcehjibanaaGreatDoorItmTx
import Derived.Test.YtcokdcehjibanaaGreatDoorDig
import Derived.BigQuiet
/- Proved here: slices of texts of one's own: where they lie, and what their cells hold. -/
namespace Go.Proofs.YtcokdcehjibanaaGreatDoor
open Go.ChangeShapes Go.WideShapes Go.ChangeAt Go.RowKit
set_option linter.unusedVariables false
set_option linter.unusedSimpArgs false

theorem Tryz.infoStr : (Tryz.prog.info? 9).map (fun i => (i.zero, i.size, i.bytes)) = some (some (.string ⟨#[]⟩), 1, 16) := by kernel_rfl

theorem flatSt_map (ys : List StR) : flatSt ys = ys.map fun x => Value.string x.s := by
  induction ys with
  | nil => rfl
  | cons x r ih => show x.cells ++ flatSt r = _; rw [ih]; rfl
theorem flat_stL (L : List ByteArray) : flatSt (stL L) = L.map Value.string := by rw [flatSt_map]; simp [stL]
theorem addr_add (g o j : Nat) : ((⟨g, o, none⟩ : Addr).add j) = ⟨g, o + j, none⟩ := by
  unfold Addr.add
  split
  · rename_i h0; rw [h0]; simp
  · simp
/-- A slice of texts of one's own, not empty: where it lies, and what its cells hold. -/
theorem ownSt_shape {W : World} {B : Nat} {v : Value} {L : List ByteArray} (h : OwnSt W B v (stL L)) (hp : 0 < L.length) : ∃ g c, v = .slice (some ⟨g, 0, none⟩) L.length c ∧ B ≤ g ∧ g < W.heap.size ∧ L.length ≤ c := by
  unfold OwnSt at h
  rw [stL_len] at h
  rcases h.2 with ⟨_, h0⟩ | ⟨g, cap, cur, rfl, hB, hblk, hnc, _⟩
  · omega
  · exact ⟨g, cap, rfl, hB, (Array.getElem?_eq_some_iff.1 hblk).1, hnc⟩
theorem ownSt_cell {W : World} {B g n c : Nat} {L : List ByteArray} (h : OwnSt W B (.slice (some ⟨g, 0, none⟩) n c) (stL L)) {i : Nat} {x : ByteArray} (hi : L[i]? = some x) : W.cell? ⟨g, i, none⟩ = some (.string x) ∧ W.frozen? ⟨g, i, none⟩ = false := by
  have hil := (List.getElem?_eq_some_iff.1 hi).1
  unfold OwnSt at h
  rw [stL_len, flat_stL] at h
  rcases h.2 with ⟨h0, _⟩ | ⟨g', cap, cur, h0, hB, hblk, hnc, hcm, hsz, htk⟩
  · cases h0
  · simp only [Value.slice.injEq, Option.some.injEq, Addr.mk.injEq, and_true, true_and] at h0
    obtain ⟨rfl, rfl, rfl⟩ := h0
    refine ⟨?_, Joins.unfrozen_of_block hblk i⟩
    rw [Joins.cell_of_block hblk i]
    have h9 : (cur.toList.take (L.length * 1))[i]? = some (.string x) := by rw [htk, List.getElem?_map, hi]; rfl
    rw [List.getElem?_take_of_lt (by omega)] at h9
    simpa using h9
theorem ownSt_set {W : World} {B g n c : Nat} {L : List ByteArray} (h : OwnSt W B (.slice (some ⟨g, 0, none⟩) n c) (stL L)) (i : Nat) (y : ByteArray) : OwnSt (W.setCell ⟨g, i, none⟩ (.string y)) B (.slice (some ⟨g, 0, none⟩) n c) (stL (L.set i y)) := by
  have hn : n = L.length := by
    unfold OwnSt at h
    rw [stL_len] at h
    rcases h.2 with ⟨h0, _⟩ | ⟨g', cap, cur, h0, _⟩
    · cases h0
    · simp only [Value.slice.injEq] at h0; exact h0.2.1
  unfold OwnSt at h ⊢
  rw [stL_len, flat_stL] at h ⊢
  subst hn
  have h9 := (h.stored i (.string y)).1
  rw [List.length_set, List.map_set]; exact h9
theorem cells_tl {W : World} {B g n c : Nat} {L : List ByteArray} (h : OwnSt W B (.slice (some ⟨g, 0, none⟩) n c) (stL L)) (o : Nat) (M : List ByteArray) (hM : ∀ j x, M[j]? = some x → L[o + j]? = some x) : ∀ j u, (M.map Value.string)[j]? = some u → W.cell? ((⟨g, o, none⟩ : Addr).add j) = some u := by
  intro j u hu
  rw [List.getElem?_map, Option.map_eq_some_iff] at hu
  obtain ⟨x, hx, rfl⟩ := hu
  rw [addr_add]
  exact (ownSt_cell h (hM j x hx)).1
theorem own_of {W : World} {B : Nat} {v : Value} {n : Nat} {L : List ByteArray} (hn : n = L.length) (h : W.ownsRow B 9 1 v n (L.map Value.string)) : OwnSt W B v (stL L) := by
  unfold OwnSt; rw [stL_len, flat_stL]; subst hn; exact h
theorem own_to {W : World} {B : Nat} {v : Value} {n : Nat} {L : List ByteArray} (hn : L.length = n) (h : OwnSt W B v (stL L)) : W.ownsRow B 9 1 v n (L.map Value.string) := by
  unfold OwnSt at h; rw [stL_len, flat_stL] at h; subst hn; exact h
theorem ownKJ {R : Nat} {W W' : World} {B : Nat} {v : Value} {ys : List StR} (h : OwnSt W B v ys) (hB : R < B) (hb : Kp R W W') : OwnSt W' B v ys := by
  rcases h with ⟨hl, h | ⟨g, cap, cur, rfl, hBg, hblk, r⟩⟩
  · exact ⟨hl, Or.inl h⟩
  · exact ⟨hl, Or.inr ⟨g, cap, cur, rfl, hBg, (hb.all g (Array.getElem?_eq_some_iff.1 hblk).1 (by omega)).trans hblk, r⟩⟩
theorem st_id (ys : List StR) : ys = stL (ys.map (·.s)) := by
  induction ys with
  | nil => rfl
  | cons x r ih => show x :: r = ⟨x.s⟩ :: stL (r.map (·.s)); rw [← ih]
theorem kp_grown {R : Nat} {w W W' : World} {row : Option Nat} (h : Kp R w W) (hR : R < w.heap.size) (hg : W.grownBy W' row) (hr : ∀ k, row = some k → w.heap.size ≤ k) : Kp R w W' :=
  ⟨h.low.grown hg (Nat.le_of_lt (Nat.lt_of_lt_of_le hR h.low.size)) (fun k hk => by have := hr k hk; omega), fun b hb hn => (hg.block b (Nat.lt_of_lt_of_le hb h.low.size) (fun e => by have := hr b e.symm; omega)).trans (h.all b hb hn)⟩
theorem one_str (M : List ByteArray) : ∀ u ∈ M.map Value.string, u.oneCell' = true := by
  intro u hu
  obtain ⟨x, _, rfl⟩ := List.mem_map.1 hu
  rfl
theorem sliceJ {W : World} {B : Nat} {e : TypeId} {size n : Nat} {v : Value} {xs : List Value} (h : W.ownsRow B e size v n xs) : ∃ a c, v = .slice a n c := by
  rcases h.2 with ⟨rfl, h0⟩ | ⟨g, cap, cur, rfl, _⟩
  · exact ⟨none, 0, by rw [h0]⟩
  · exact ⟨_, _, rfl⟩
theorem tk_at {L : List ByteArray} {k j : Nat} {x : ByteArray} (h : (L.take k)[j]? = some x) : L[j]? = some x := by
  have hj := (List.getElem?_eq_some_iff.1 h).1
  rw [List.length_take] at hj
  rwa [List.getElem?_take_of_lt (by omega)] at h
end Go.Proofs.YtcokdcehjibanaaGreatDoor
/- Proved here: lines of logs, in the specification. -/
namespace Go.Proofs.YtcokdcehjibanaaGreatDoor
open Go.ChangeShapes Go.WideShapes Go.ChangeAt Go.RowKit
set_option linter.unusedVariables false
set_option linter.unusedSimpArgs false

theorem dk_last {W : World} {B n : Nat} {v : Value} {M : List ByteArray} {x : ByteArray} (h : W.ownsRow B 9 1 v (n + 1) (M.map Value.string ++ [.string x])) : W.ownsRow B 9 1 v (n + 1) ((M ++ [x]).map Value.string) := by simpa using h
theorem dk_pre {Ls : List (List It)} {i : Nat} {l : List It} {M M1 : List ByteArray} (hM : M = dskF (Ls.take i) 0) (h : Ls[i]? = some l) (hp : M1 = M ++ (if 0 < i then [dashB] else [])) : M1 ++ l.map lnX = dskF (Ls.take (i + 1)) 0 := by
  rw [dskF_take h, hp, hM, List.append_assoc]
theorem dk_item {M1 : List ByteArray} {l : List It} {k : Nat} {x : It} {s : ByteArray} (h : l[k]? = some x) (hs : lnX x = s) : M1 ++ (l.take (k + 1)).map lnX = (M1 ++ (l.take k).map lnX) ++ [s] := by
  rw [List.take_add_one, h]; simp [hs]
theorem spectx_e (x : It) {s : ByteArray} (w : World) (h : Hid (lnX x = s)) : Calls Tryz.prog 25 #[.agg #[.int .i64 x.q, .int .i64 x.t, .int .i64 x.k, .int .i64 x.v, .int .i64 x.n]] w fun e w' => e = .returned (.string s) ∧ Below w.heap.size w w' := by
  rw [← unhide h]; exact specitmtext_any x.q x.t x.k x.v x.n w
theorem dskO_no {Ls : List (List It)} {i : Nat} {l : List It} (h : Ls[i]? = some l) (ho : okLog l = false) : dskO Ls = [] := by
  unfold dskO
  rw [if_neg (fun h9 => ?_)]
  have := List.all_eq_true.1 h9.1 l (List.mem_of_getElem? h)
  rw [ho] at this
  cases this
theorem dskO_long {Ls : List (List It)} (h : 400 < (dskF Ls 0).length) : dskO Ls = [] := by
  unfold dskO
  rw [if_neg (fun h9 => by omega)]
theorem dskO_is {Ls : List (List It)} (h : Ls.all okLog = true) (h2 : (dskF Ls 0).length ≤ 400) : dskO Ls = dskF Ls 0 := by
  unfold dskO
  rw [if_pos ⟨h, h2⟩]
theorem dskF_bd {Ls : List (List It)} (hl : ∀ l ∈ Ls, l.length ≤ 1000) (hn : Ls.length ≤ 1000) (i : Nat) : (dskF (Ls.take i) 0).length ≤ 1001000 := by
  have h1 := dskF_mono Ls i
  have h2 := dskF_len Ls 1000 hl
  have h3 : Ls.length * 1001 ≤ 1000 * 1001 := Nat.mul_le_mul_right _ hn
  omega
theorem dk_all {W : World} {B n m : Nat} {v : Value} {M M' : List ByteArray} (hn : n = m) (hM : M = M') (h : W.ownsRow B 9 1 v n (M.map Value.string)) : W.ownsRow B 9 1 v m (M'.map Value.string) := by subst hn; subst hM; exact h
theorem dk_own {W : World} {B n : Nat} {v : Value} {M L : List ByteArray} (hn : n = L.length) (hM : M = L) (h : W.ownsRow B 9 1 v n (M.map Value.string)) : OwnSt W B v (stL L) := by subst hM; exact own_of hn h
theorem ok_all {xs : List (List It)} {i : Nat} {l : List It} (h : (xs.take i).all okLog = true) (hx : xs[i]? = some l) (ho : okLog l = true) : (xs.take (i + 1)).all okLog = true := by
  rw [List.take_add_one, hx, List.all_append, h]; simp [ho]
theorem speclog_e {b : Option Addr} {d : Nat} {l : List It} {o : Bool} (w : World) (h : Its w b l.length l) (ho : Hid (okLog l = o)) : Calls Tryz.prog 24 #[.slice b l.length d] w fun e w' => e = .returned (.bool o) ∧ Below w.heap.size w w' := by
  rw [← unhide ho]; exact speclog_any b l.length d l w h
theorem its_below {w w' : World} {b : Option Addr} {n : Nat} {l : List It} (h : Its w b n l) (hb : Below w.heap.size w w') : Its w' b n l := by
  refine ⟨h.1, h.2.1, h.2.2.imp id fun ⟨g, o, e, hx⟩ => ⟨g, o, e, fun i x hi => ?_⟩⟩
  exact (hx i x hi).below hb (hx.lt (Nat.lt_of_le_of_lt (Nat.zero_le _) (List.getElem?_eq_some_iff.1 hi).1))
set_option maxRecDepth 20000 in
set_option maxHeartbeats 4000000 in
theorem specdskitems_any {B : Nat} {v : Value} {us : List Value} {Ls : List (List It)} (w : World) (h : LgO w B v us Ls) (hl : ∀ l ∈ Ls, l.length ≤ 1000) (hn : Ls.length ≤ 1000) : Calls Tryz.prog 10 #[v] w fun e w' => ∃ v', e = .returned v' ∧ OwnSt w' w.heap.size v' (stL (dskO Ls)) ∧ Below w.heap.size w w' := by
  obtain ⟨i0, hi, hz0, hz1, hz2⟩ := info_parts Tryz.infoStr
  obtain ⟨av, cv, rfl⟩ := h.slice
  have HL := hide hl
  have HBD := hide (fun i => dskF_bd hl hn i)
  clear hl
  go_enter Tryz.func10, Tryz.ntmps10
  go_wp2
  go_loopw [3, 4] (fun ov iv wr => ∃ (i n : Nat), i ≤ Ls.length ∧ iv = .int .i64 i ∧ Hid (wr.ownsRow w.heap.size 9 1 ov n ((dskF (Ls.take i) 0).map Value.string)) ∧ Hid (n = (dskF (Ls.take i) 0).length) ∧ Hid ((Ls.take i).all okLog = true) ∧ Below w.heap.size w wr) (fun _ i _ => Ls.length - (intOf i).toNat)
  case atStart => exact ⟨0, 0, Nat.zero_le _, rfl, hide (ownLit (W := w) (B := w.heap.size) _ _ (Nat.le_refl _) rfl), hide rfl, hide rfl, bel_one _ _⟩
  case round =>
    obtain ⟨i, n, hi9, rfl, HO, Hn0, HA, hbw⟩ := hrel
    have hnb : n ≤ 1001000 := by rw [unhide Hn0]; exact unhide HBD i
    by_cases hlt : i < Ls.length
    · obtain ⟨M, hM⟩ : ∃ M, dskF (Ls.take i) 0 = M := ⟨_, rfl⟩
      have Hn : Hid (n = M.length) := hide (by rw [← hM]; exact unhide Hn0)
      have HO2 := hide (dk_all rfl hM (unhide HO))
      have HM := hide hM.symm
      clear HO hM Hn0
      obtain ⟨l, hlk⟩ : ∃ l, Ls[i]? = some l := ⟨_, List.getElem?_eq_getElem (by omega)⟩
      have hll : l.length ≤ 1000 := unhide HL l (List.mem_of_getElem? hlk)
      obtain ⟨g, cc, e1, _, hg, _⟩ := h.shape (by omega)
      simp only [Value.slice.injEq, true_and] at e1
      obtain ⟨rfl, rfl⟩ := e1
      obtain ⟨b, d, _, hc0, hI⟩ := h.at_ hlk (Nat.le_trans hll (by decide))
      have HI := hide hI
      have HLK := hide hlk
      have hws := hbw.size
      have hcr := (hbw.cell (p := ⟨g, i, none⟩) hg).trans hc0
      have hgr : g < wr.heap.size := Nat.lt_of_lt_of_le hg hws
      clear hI hlk
      obtain ⟨ob, hob⟩ : ∃ ob, okLog l = ob := ⟨_, rfl⟩
      have HOK := hide hob
      clear hob
      go_wp2_with fail
      refine (speclog_e (b := b) (d := d) _ (its_below (unhide HI) hbw) HOK).mono ?_
      rintro e w9 ⟨rfl, hb9⟩
      have HO9 := hide (ownBel (unhide HO2) hb9)
      have hb9w := bel_trans hbw hb9
      clear hcr HO2 hb9 hgr
      cases ob with
      | false =>
        have HE := hide (dskO_no (unhide HLK) (unhide HOK))
        go_wp2
        go_ret
        exact ⟨_, rfl, by rw [unhide HE]; exact ownLit (W := w9) (B := w.heap.size) _ _ hb9w.size rfl, bel_alloc hb9w _⟩
      | true =>
        rcases Nat.eq_zero_or_pos i with hi0 | hi0
        · obtain ⟨M1, hM1⟩ : ∃ M1, M1 = M := ⟨_, rfl⟩
          obtain ⟨n1, hn1⟩ : ∃ n1, n1 = n := ⟨_, rfl⟩
          have HPre := hide (dk_pre (M1 := M1) (unhide HM) (unhide HLK) (by rw [hM1, if_neg (by omega)]; simp))
          have Hn1 : Hid (n1 = M1.length) := hide (by rw [hM1, hn1]; exact unhide Hn)
          have HO1 := hide (dk_all (n := n) (m := n1) (M' := M1) hn1.symm hM1.symm (unhide HO9))
          have hz : decide (0 < (i : Int)) = false := by simp; omega
          have hz2 : decide (0 < i) = false := by simp; omega
          have hn1b : n1 ≤ 1002000 := by omega
          have HBo := hb9w
          clear HO9 hM1 hn1 hb9w hi0
          go_wp2
          clear hz hz2
          go_loopw [3, 5] (fun ov kv wt => ∃ k : Nat, k ≤ l.length ∧ kv = .int .i64 k ∧ Hid (wt.ownsRow w.heap.size 9 1 ov (n1 + k) ((M1 ++ (l.take k).map lnX).map Value.string)) ∧ Below w.heap.size w wt) (fun _ kv _ => l.length - (intOf kv).toNat)
          case atStart => exact ⟨0, Nat.zero_le _, rfl, hide (dk_all (by omega) (by simp) (unhide HO1)), HBo⟩
          case round =>
            obtain ⟨k, hk, rfl, HK, hbt⟩ := hrel
            have hws := hbt.size
            have hc := (hbt.cell (p := ⟨g, i, none⟩) hg).trans hc0
            clear HO1 HBo
            by_cases hkl : k < l.length
            · obtain ⟨x, hxk⟩ : ∃ x, l[k]? = some x := ⟨_, List.getElem?_eq_getElem (by omega)⟩
              obtain ⟨_, _, hx9⟩ := unhide HI
              obtain ⟨gi, oi, rfl, hr⟩ := hx9.resolve_left (by omega)
              have hgi : gi < w.heap.size := hr.lt (by omega)
              obtain ⟨d0, d1, d2, d3, d4⟩ := (hr k _ hxk).below hbt hgi
              obtain ⟨sx, hsx⟩ : ∃ sx, lnX x = sx := ⟨_, rfl⟩
              have HT := hide hsx
              have HX := hide hxk
              have hkb := hide (show n1 + k ≤ 1003000 by omega)
              clear hx9 hr hsx hxk
              go_wp2_with fail
              refine (spectx_e x _ HT).mono ?_
              rintro e wc ⟨rfl, hbc⟩
              have HC := hide (ownBel (unhide HK) hbc)
              have hbtc := bel_trans hbt hbc
              have zc := hbtc.size
              have hge := hide (fun b hb => World.ownsRow.lt (unhide HC) b hb)
              have hk3 := unhide hkb
              clear d0 d1 d2 d3 d4 hbc HK hc
              go_wp2_with (at_builtin; go_loud (refine wpList_append_own _ rfl _ _ 25 rfl w.heap.size 9 i0 _ 1 16 Tryz.underlying25 hi hz0 hz1 hz2 rfl (by decide) u3 _ _ rfl (World.ownsRow.alloc (unhide HC) _) ⟨wc.heap.size, 0, none⟩ 1 1 [.string sx] rfl rfl (cells_newSt wc sx _) (by simp [Value.oneCell']) (by unfold maxLen; omega) (by omega) (by simp; omega) ?_); intro v' w5 hown' hgrow _)
              have hb5 : Below w.heap.size w w5 := (bel_alloc hbtc _).grown hgrow (by simp; omega) (fun k9 h9 => (unhide hge k9 h9).1)
              have HN := hide (dk_all rfl (dk_item (M1 := M1) (unhide HX) (unhide HT)).symm (dk_last hown'))
              clear hge hown' hgrow HC
              go_roundw
              case rel => exact ⟨k + 1, by omega, by go_num, HN, hb5⟩
              case measure => simp [intOf]; omega
            · obtain rfl : k = l.length := by omega
              have HN := hide (dk_all (M' := dskF (Ls.take (i + 1)) 0) rfl (by rw [List.take_of_length_le (Nat.le_refl _)]; exact unhide HPre) (unhide HK))
              clear HK
              go_wp2
              go_roundw
              case rel => exact ⟨i + 1, n1 + l.length, by omega, by go_num, HN, hide (by rw [← unhide HPre, List.length_append, List.length_map, ← unhide Hn1]), hide (ok_all (unhide HA) (unhide HLK) (unhide HOK)), hbt⟩
              case measure => simp [intOf]; omega
        · have hz : decide (0 < (i : Int)) = true := by simp; omega
          have zw := (hb9w).size
          have hge := hide (fun b hb => World.ownsRow.lt (unhide HO9) b hb)
          go_wp2_with (at_builtin; go_loud (refine wpList_append_own _ rfl _ _ 25 rfl w.heap.size 9 i0 _ 1 16 Tryz.underlying25 hi hz0 hz1 hz2 rfl (by decide) u3 _ _ rfl (World.ownsRow.alloc (unhide HO9) _) ⟨w9.heap.size, 0, none⟩ 1 1 [.string ⟨#[45]⟩] rfl rfl (cells_newSt w9 ⟨#[45]⟩ _) (by simp [Value.oneCell']) (by unfold maxLen; omega) (by omega) (by simp; omega) ?_); intro v' w5 hown' hgrow _)
          have HBo : Below w.heap.size w w5 := (bel_alloc hb9w _).grown hgrow (by simp; omega) (fun k9 h9 => (unhide hge k9 h9).1)
          obtain ⟨M1, hM1⟩ : ∃ M1, M1 = M ++ [dashB] := ⟨_, rfl⟩
          obtain ⟨n1, hn1⟩ : ∃ n1, n1 = n + 1 := ⟨_, rfl⟩
          have HPre := hide (dk_pre (M1 := M1) (unhide HM) (unhide HLK) (by rw [hM1, if_pos hi0]))
          have Hn1 : Hid (n1 = M1.length) := hide (by rw [hM1, hn1, List.length_append, ← unhide Hn]; rfl)
          have HO1 := hide (dk_all (n := n + 1) (m := n1) (M' := M1) hn1.symm hM1.symm (dk_last (x := dashB) hown'))
          have hn1b : n1 ≤ 1002000 := by omega
          clear HO9 hM1 hn1 hb9w hown' hgrow hge hz hi0 zw
          go_loopw [3, 5] (fun ov kv wt => ∃ k : Nat, k ≤ l.length ∧ kv = .int .i64 k ∧ Hid (wt.ownsRow w.heap.size 9 1 ov (n1 + k) ((M1 ++ (l.take k).map lnX).map Value.string)) ∧ Below w.heap.size w wt) (fun _ kv _ => l.length - (intOf kv).toNat)
          case atStart => exact ⟨0, Nat.zero_le _, rfl, hide (dk_all (by omega) (by simp) (unhide HO1)), HBo⟩
          case round =>
            obtain ⟨k, hk, rfl, HK, hbt⟩ := hrel
            have hws := hbt.size
            have hc := (hbt.cell (p := ⟨g, i, none⟩) hg).trans hc0
            clear HO1 HBo
            by_cases hkl : k < l.length
            · obtain ⟨x, hxk⟩ : ∃ x, l[k]? = some x := ⟨_, List.getElem?_eq_getElem (by omega)⟩
              obtain ⟨_, _, hx9⟩ := unhide HI
              obtain ⟨gi, oi, rfl, hr⟩ := hx9.resolve_left (by omega)
              have hgi : gi < w.heap.size := hr.lt (by omega)
              obtain ⟨d0, d1, d2, d3, d4⟩ := (hr k _ hxk).below hbt hgi
              obtain ⟨sx, hsx⟩ : ∃ sx, lnX x = sx := ⟨_, rfl⟩
              have HT := hide hsx
              have HX := hide hxk
              have hkb := hide (show n1 + k ≤ 1003000 by omega)
              clear hx9 hr hsx hxk
              go_wp2_with fail
              refine (spectx_e x _ HT).mono ?_
              rintro e wc ⟨rfl, hbc⟩
              have HC := hide (ownBel (unhide HK) hbc)
              have hbtc := bel_trans hbt hbc
              have zc := hbtc.size
              have hge := hide (fun b hb => World.ownsRow.lt (unhide HC) b hb)
              have hk3 := unhide hkb
              clear d0 d1 d2 d3 d4 hbc HK hc
              go_wp2_with (at_builtin; go_loud (refine wpList_append_own _ rfl _ _ 25 rfl w.heap.size 9 i0 _ 1 16 Tryz.underlying25 hi hz0 hz1 hz2 rfl (by decide) u3 _ _ rfl (World.ownsRow.alloc (unhide HC) _) ⟨wc.heap.size, 0, none⟩ 1 1 [.string sx] rfl rfl (cells_newSt wc sx _) (by simp [Value.oneCell']) (by unfold maxLen; omega) (by omega) (by simp; omega) ?_); intro v' w5 hown' hgrow _)
              have hb5 : Below w.heap.size w w5 := (bel_alloc hbtc _).grown hgrow (by simp; omega) (fun k9 h9 => (unhide hge k9 h9).1)
              have HN := hide (dk_all rfl (dk_item (M1 := M1) (unhide HX) (unhide HT)).symm (dk_last hown'))
              clear hge hown' hgrow HC
              go_roundw
              case rel => exact ⟨k + 1, by omega, by go_num, HN, hb5⟩
              case measure => simp [intOf]; omega
            · obtain rfl : k = l.length := by omega
              have HN := hide (dk_all (M' := dskF (Ls.take (i + 1)) 0) rfl (by rw [List.take_of_length_le (Nat.le_refl _)]; exact unhide HPre) (unhide HK))
              clear HK
              go_wp2
              go_roundw
              case rel => exact ⟨i + 1, n1 + l.length, by omega, by go_num, HN, hide (by rw [← unhide HPre, List.length_append, List.length_map, ← unhide Hn1]), hide (ok_all (unhide HA) (unhide HLK) (unhide HOK)), hbt⟩
              case measure => simp [intOf]; omega
    · have HE : Hid (dskF (Ls.take i) 0 = dskF Ls 0) := hide (by rw [List.take_of_length_le (by omega)])
      have HA2 : Hid (Ls.all okLog = true) := hide (by have h1 := unhide HA; rwa [List.take_of_length_le (by omega)] at h1)
      have Hn2 : Hid (n = (dskF Ls 0).length) := hide (by rw [← unhide HE]; exact unhide Hn0)
      obtain ⟨av3, cv3, e3⟩ := sliceJ (unhide HO)
      subst e3
      by_cases h4 : 400 < n
      · have HE2 := hide (dskO_long (Ls := Ls) (by rw [← unhide Hn2]; exact h4))
        have h4' : decide (400 < n) = true := decide_eq_true h4
        go_wp2
        go_ret
        exact ⟨_, rfl, by rw [unhide HE2]; exact ownLit (W := wr) (B := w.heap.size) _ _ hbw.size rfl, bel_alloc hbw _⟩
      · have HE2 := hide (dskO_is (Ls := Ls) (unhide HA2) (by rw [← unhide Hn2]; omega))
        have h4' : decide (400 < n) = false := decide_eq_false h4
        go_wp2
        go_ret
        exact ⟨_, rfl, by rw [unhide HE2]; exact dk_own (unhide Hn2) (unhide HE) (unhide HO), hbw⟩
end Go.Proofs.YtcokdcehjibanaaGreatDoor
/- Proved here: a text is bent at a drawn place. -/
namespace Go.Proofs.YtcokdcehjibanaaGreatDoor
open Go.ChangeShapes Go.WideShapes Go.ChangeAt Go.RowKit
set_option linter.unusedVariables false

theorem el8 (x : Int) (bx1 : 0 ≤ x) (bx2 : x ≤ 255) (y : Int) (h3 : 0 ≤ y) (h4 : y < 8) : ∃ t : Int, (#[Value.int .i64 32, .int .i64 48, .int .i64 49, .int .i64 46, .int .i64 45, .int .i64 97, .int .i64 0, .int .i64 x] : Array Value)[y.toNat]? = some (.int .i64 t) ∧ ([Value.int .i64 32, .int .i64 48, .int .i64 49, .int .i64 46, .int .i64 45, .int .i64 97, .int .i64 0, .int .i64 x] : List Value)[y.toNat]? = some (.int .i64 t) ∧ (∀ h, ([Value.int .i64 32, .int .i64 48, .int .i64 49, .int .i64 46, .int .i64 45, .int .i64 97, .int .i64 0, .int .i64 x] : List Value)[y.toNat]'h = .int .i64 t) ∧ 0 ≤ t ∧ t ≤ 255 := by
  have : y = 0 ∨ y = 1 ∨ y = 2 ∨ y = 3 ∨ y = 4 ∨ y = 5 ∨ y = 6 ∨ y = 7 := by omega
  rcases this with rfl | rfl | rfl | rfl | rfl | rfl | rfl | rfl
  · exact ⟨32, rfl, rfl, fun _ => rfl, by omega, by omega⟩
  · exact ⟨48, rfl, rfl, fun _ => rfl, by omega, by omega⟩
  · exact ⟨49, rfl, rfl, fun _ => rfl, by omega, by omega⟩
  · exact ⟨46, rfl, rfl, fun _ => rfl, by omega, by omega⟩
  · exact ⟨45, rfl, rfl, fun _ => rfl, by omega, by omega⟩
  · exact ⟨97, rfl, rfl, fun _ => rfl, by omega, by omega⟩
  · exact ⟨0, rfl, rfl, fun _ => rfl, by omega, by omega⟩
  · exact ⟨x, rfl, rfl, fun _ => rfl, by omega, by omega⟩
/-- A text that is drawn. -/
def TxtP (n : Nat) (R : Nat) (w : World) (a : Option Addr) (len cap p : Nat) (e : Ending) (w' : World) : Prop := ∃ s : ByteArray, e = .returned (.string s) ∧ s.size ≤ n ∧ Kp R w w' ∧ ∃ p', p' ≤ p + 6 ∧ Rd R w' a len cap p'
theorem u8_in {t : Int} (h0 : 0 ≤ t) (h1 : t ≤ 255) : IntKind.u8.wrap t = t := by
  have h2 : (t % 256 : Int) = t := by omega
  simp [IntKind.wrap, IntKind.bits, IntKind.signed, h2]

set_option maxRecDepth 20000 in
set_option maxHeartbeats 4000000 in
theorem bent_any (R : Nat) (a : Option Addr) (len cap p : Nat) (s : ByteArray) (w : World) (hs : s.size ≤ 1000) (hp : p ≤ 900000) (hR : R < w.heap.size) (h : Rd R w a len cap p) : Calls Tryz.prog 35 #[.pointer (some ⟨R, 0, none⟩), .string s] w fun e w' => TxtP (s.size + 1) R w a len cap p e w' := by
  have r0 := hide h
  have hn0 : w.heap.size ≠ R := by omega
  clear h
  go_enter Tryz.func35, Tryz.ntmps35
  go_wp2_with (first
    | (go_at_call 14; (with_reducible refine (pick_any R a len cap p ((s.size : Int) + 1) _ (by omega) (by omega) ((unhide r0).kp hR (by repeat (first | (with_reducible exact Below.refl _ _) | (with_reducible refine bel_alloc ?_ _) | (with_reducible refine bel_drew ?_) | (with_reducible refine bel_drewN ?_ _))))).mono ?_); rintro e wa ⟨k, rfl, bk1, bk2, kwa, qwa⟩; have rwa := hide (qwa (by omega)); clear qwa; have zwa := kwa.low.size; have hRwa : R < wa.heap.size := (by (try simp at zwa); omega); have hnwa : wa.heap.size ≠ R := (by omega); have hcwa := (fun b o hb hn => kwa.cell (b := b) (o := o) hb hn); have hfwa := (fun b o hb hn => kwa.frozen (b := b) (o := o) hb hn); have hzwa : w.heap.size ≤ wa.heap.size := (by (try simp at zwa); omega); obtain ⟨kN, rfl⟩ : ∃ n : Nat, k = n := ⟨k.toNat, by omega⟩; have hkN : kN ≤ s.size := (by omega))
    | (go_at_call 14; (with_reducible refine (pick_any R a len cap (p + 1) 256 _ (by omega) (by omega) ((unhide rwa).kp hRwa (by repeat (first | (with_reducible exact Below.refl _ _) | (with_reducible refine bel_alloc ?_ _) | (with_reducible refine bel_drew ?_) | (with_reducible refine bel_drewN ?_ _))))).mono ?_); rintro e wb ⟨x, rfl, bx1, bx2, kwb, qwb⟩; have rwb := hide (qwb (by omega)); clear qwb; have zwb := kwb.low.size; have hRwb : R < wb.heap.size := (by (try simp at zwb); omega); have hnwb : wb.heap.size ≠ R := (by omega); have hcwb := (fun b o hb hn => kwb.cell (b := b) (o := o) hb hn); have hfwb := (fun b o hb hn => kwb.frozen (b := b) (o := o) hb hn); have hzwb : w.heap.size ≤ wb.heap.size := (by (try simp at zwb); omega); (try have ywawb : wa.heap.size < wb.heap.size := (by (try simp at zwb); omega)))
    | (go_at_call 14; (with_reducible refine (pick_any R a len cap (p + 2) 8 _ (by omega) (by omega) ((unhide rwb).kp hRwb (by repeat (first | (with_reducible exact Below.refl _ _) | (with_reducible refine bel_alloc ?_ _) | (with_reducible refine bel_drew ?_) | (with_reducible refine bel_drewN ?_ _))))).mono ?_); rintro e wc ⟨y, rfl, by1, by2, kwc, qwc⟩; have rwc := hide (qwc (by omega)); clear qwc; have zwc := kwc.low.size; have hRwc : R < wc.heap.size := (by (try simp at zwc); omega); have hnwc : wc.heap.size ≠ R := (by omega); have hcwc := (fun b o hb hn => kwc.cell (b := b) (o := o) hb hn); have hfwc := (fun b o hb hn => kwc.frozen (b := b) (o := o) hb hn); have hzwc : w.heap.size ≤ wc.heap.size := (by (try simp at zwc); omega); (try have ywbwc : wb.heap.size < wc.heap.size := (by (try simp at zwc); omega)); (try have ywawc : wa.heap.size < wc.heap.size := (by (try simp at zwc); omega)); obtain ⟨t, ht, ht', ht'', bt1, bt2⟩ := el8 x (by omega) (by omega) y by1 by2; have hwt := u8_in bt1 bt2; obtain ⟨c, hcc, hcv⟩ := conv1c t bt1 bt2 wc))
  have e1 : (s.extract 0 kN).size = kN := by rw [ByteArray.size_extract]; omega
  have e2 : (s.extract kN s.size).size = s.size - kN := by rw [ByteArray.size_extract]; omega
  have e3 : (s.extract (kN + 1) s.size).size = s.size - (kN + 1) := by rw [ByteArray.size_extract]; omega
  have e4 : (⟨#[c]⟩ : ByteArray).size = 1 := rfl
  go_wp2_with (first
    | (go_at_call 14; (with_reducible refine (pick_any R a len cap (p + 3) 3 _ (by omega) (by omega) ((unhide rwc).kp hRwc (by repeat (first | (with_reducible exact Below.refl _ _) | (with_reducible refine bel_alloc ?_ _) | (with_reducible refine bel_drew ?_) | (with_reducible refine bel_drewN ?_ _))))).mono ?_); rintro e wd ⟨v, rfl, bv1, bv2, kwd, qwd⟩; have rwd := hide (qwd (by omega)); clear qwd; have zwd := kwd.low.size; have hRwd : R < wd.heap.size := (by (try simp at zwd); omega); have hnwd : wd.heap.size ≠ R := (by omega); have hcwd := (fun b o hb hn => kwd.cell (b := b) (o := o) hb hn); have hfwd := (fun b o hb hn => kwd.frozen (b := b) (o := o) hb hn); have hzwd : w.heap.size ≤ wd.heap.size := (by (try simp at zwd); omega); (try have ywcwd : wc.heap.size < wd.heap.size := (by (try simp at zwd); omega)); (try have ywbwd : wb.heap.size < wd.heap.size := (by (try simp at zwd); omega)); (try have ywawd : wa.heap.size < wd.heap.size := (by (try simp at zwd); omega))))
  · go_quiet (fail)
    go_wp2
    go_ret
    exact ⟨_, rfl, (by simp only [ByteArray.size_append]; omega), (by repeat (first | (with_reducible refine kp_setN ?_ (by first | (simp; done) | (simp; omega)) (by with_reducible assumption) _) | (with_reducible assumption) | (with_reducible exact Kp.refl _ _) | (with_reducible refine kp_set ?_ _) | (with_reducible refine kp_alloc (by with_reducible assumption) ?_ _) | (with_reducible refine kp_drew ?_) | (with_reducible refine kp_drewN ?_ _) | (with_reducible refine Kp.trans ?_ (by with_reducible assumption)))), p + 4, by omega, ((unhide rwd).draws _)⟩
  · go_ret
    exact ⟨_, rfl, (by simp only [ByteArray.size_append]; omega), (by repeat (first | (with_reducible refine kp_setN ?_ (by first | (simp; done) | (simp; omega)) (by with_reducible assumption) _) | (with_reducible assumption) | (with_reducible exact Kp.refl _ _) | (with_reducible refine kp_set ?_ _) | (with_reducible refine kp_alloc (by with_reducible assumption) ?_ _) | (with_reducible refine kp_drew ?_) | (with_reducible refine kp_drewN ?_ _) | (with_reducible refine Kp.trans ?_ (by with_reducible assumption)))), p + 4, by omega, (unhide rwd)⟩
  · have hk3 : kN + 1 ≤ s.size := by
      have h8 : ((kN : Int) == (s.size : Int)) = false := by assumption
      rw [beq_eq_false_iff_ne] at h8
      omega
    go_wp2_with (first
      | (go_at_call 14; (with_reducible refine (pick_any R a len cap (p + 4) 2 _ (by omega) (by omega) ((unhide rwd).kp hRwd (by repeat (first | (with_reducible exact Below.refl _ _) | (with_reducible refine bel_alloc ?_ _) | (with_reducible refine bel_drew ?_) | (with_reducible refine bel_drewN ?_ _))))).mono ?_); rintro e wf ⟨u, rfl, bu1, bu2, kwf, qwf⟩; have rwf := hide (qwf (by omega)); clear qwf; have zwf := kwf.low.size; have hRwf : R < wf.heap.size := (by (try simp at zwf); omega); have hnwf : wf.heap.size ≠ R := (by omega); have hcwf := (fun b o hb hn => kwf.cell (b := b) (o := o) hb hn); have hfwf := (fun b o hb hn => kwf.frozen (b := b) (o := o) hb hn); have hzwf : w.heap.size ≤ wf.heap.size := (by (try simp at zwf); omega); (try have ywdwf : wd.heap.size < wf.heap.size := (by (try simp at zwf); omega)); (try have ywcwf : wc.heap.size < wf.heap.size := (by (try simp at zwf); omega)); (try have ywbwf : wb.heap.size < wf.heap.size := (by (try simp at zwf); omega)); (try have ywawf : wa.heap.size < wf.heap.size := (by (try simp at zwf); omega))))
    · go_quiet (fail)
      go_wp2
      go_ret
      exact ⟨_, rfl, (by simp only [ByteArray.size_append]; omega), (by repeat (first | (with_reducible refine kp_setN ?_ (by first | (simp; done) | (simp; omega)) (by with_reducible assumption) _) | (with_reducible assumption) | (with_reducible exact Kp.refl _ _) | (with_reducible refine kp_set ?_ _) | (with_reducible refine kp_alloc (by with_reducible assumption) ?_ _) | (with_reducible refine kp_drew ?_) | (with_reducible refine kp_drewN ?_ _) | (with_reducible refine Kp.trans ?_ (by with_reducible assumption)))), p + 5, by omega, ((unhide rwf).draws _)⟩
    · go_quiet (fail)
      go_wp2
      go_ret
      exact ⟨_, rfl, (by simp only [ByteArray.size_append]; omega), (by repeat (first | (with_reducible refine kp_setN ?_ (by first | (simp; done) | (simp; omega)) (by with_reducible assumption) _) | (with_reducible assumption) | (with_reducible exact Kp.refl _ _) | (with_reducible refine kp_set ?_ _) | (with_reducible refine kp_alloc (by with_reducible assumption) ?_ _) | (with_reducible refine kp_drew ?_) | (with_reducible refine kp_drewN ?_ _) | (with_reducible refine Kp.trans ?_ (by with_reducible assumption)))), p + 5, by omega, ((unhide rwf).draws _)⟩
end Go.Proofs.YtcokdcehjibanaaGreatDoor
/- Proved here: logs and logs' lines are drawn. -/
namespace Go.Proofs.YtcokdcehjibanaaGreatDoor
open Go.ChangeShapes Go.WideShapes Go.ChangeAt Go.RowKit
set_option linter.unusedVariables false
set_option linter.unusedSimpArgs false

def DskItemsP (w : World) (e' : Ending) (w' : World) : Prop := ∃ (lv : Value) (us : List Value) (Ls : List (List It)), e' = .returned lv ∧ LgO w' w.heap.size lv us Ls ∧ Ls.length ≤ 45 ∧ (∀ l ∈ Ls, l.length ≤ 41) ∧ Below w.heap.size w w'
set_option maxRecDepth 20000 in
set_option maxHeartbeats 4000000 in
theorem drawdskitems_any (a : Option Addr) (len cap : Nat) (w : World) (hlc : len ≤ cap) (hlm : len ≤ 1048576) (hb : BytesAt w a len) (hl : ∀ g o, a = some ⟨g, o, none⟩ → 0 < len → g < w.heap.size) (hn : a = none → cap = 0) : Calls Tryz.prog 4 #[.slice a len cap] w fun e' w' => DskItemsP w e' w' := by
  obtain ⟨i0, hi, hz0, hz1, hz2⟩ := info_parts Tryz.infoLg
  go_enter Tryz.func4, Tryz.ntmps4
  go_wp2_with fail
  refine (open_any a len cap _ hlc hlm hb hl hn).mono ?_
  rintro e1 w1 ⟨R, len', cap', rfl, h1, h2, hb1, hr⟩
  have hb' := BytesAt.bel hb hl hb1
  have hl' : ∀ g o, a = some ⟨g, o, none⟩ → 0 < len → g < w1.heap.size := fun g o ha hp => Nat.lt_of_lt_of_le (hl g o ha hp) hb1.size
  have z1 := hb1.size
  clear hb hl
  go_wp2_with fail
  refine (drawflonew_any a len cap w1 hlc hlm hb' hl' hn).mono ?_
  rintro e2 w2 ⟨s, t, k, z, q, l, e, b, v, r, lv, us, Ls, rfl, hO, hLn, hL, hb2⟩
  have hq2 : Below w2.heap.size w2 (w2.alloc (.cells #[.int .i64 s, .int .i64 t, .int .i64 k, .int .i64 z, .int .i64 q, .int .i64 l, .int .i64 e, .bool b, .int .i64 v, .int .i64 r] 36)) := bel_one _ _
  have z2 := hb2.size
  have HL := hide hL
  have HB3 := hide (bel_trans (bel_trans hb1 hb2) hq2)
  have HR3 := hide ((hr.kp h2 hb2).kp (by omega) hq2)
  have HO3 := hide (hO.bel hq2)
  have hz3 : (w2.alloc (.cells #[.int .i64 s, .int .i64 t, .int .i64 k, .int .i64 z, .int .i64 q, .int .i64 l, .int .i64 e, .bool b, .int .i64 v, .int .i64 r] 36)).heap.size = w2.heap.size + 1 := by simp
  clear hb' hl' hb1 hb2 hq2 hr hO hL
  go_upto_region 3 with fail
  generalize (w2.alloc (.cells #[.int .i64 s, .int .i64 t, .int .i64 k, .int .i64 z, .int .i64 q, .int .i64 l, .int .i64 e, .bool b, .int .i64 v, .int .i64 r] 36)) = w3 at HB3 HR3 HO3 hz3 ⊢
  go_wp2_with fail
  refine (pick_any R a len' cap' 0 6 _ (by decide) (by omega) (unhide HR3)).mono ?_
  rintro e3 w4 ⟨y, rfl, y0, y1, k4, r4⟩
  have z4 := k4.low.size
  have HB4 := hide (show Below w.heap.size w w4 from (unhide HB3).trans (k4.low.mono (by omega)))
  have HO4 := hide ((unhide HO3).kp (by omega) k4)
  have HR4 := hide (r4 (by omega))
  clear HB3 HR3 HO3 k4 r4
  by_cases hy : y = 0
  · subst hy
    go_wp2_with fail
    refine (any_any R a len' cap' 1 2 _ (by decide) (by decide) (by omega) (by omega) (unhide HR4)).mono ?_
    rintro e5 w6 ⟨u, xs, rfl, hu, hxl, k6, p6, hp6, r6⟩
    obtain ⟨au, cu, rfl⟩ := own_slice hu
    have z56 := k6.low.size
    have HB6 := hide (show Below w.heap.size w w6 from (unhide HB4).trans (k6.low.mono (by omega)))
    have HO6 := hide ((unhide HO4).kp (by omega) k6)
    have HA := hide ((unhide HO4).apart hu (Nat.le_refl _))
    have HU := hide (lg_mono hu (B' := w1.heap.size) (by omega))
    have HR6 := hide r6
    obtain ⟨av, cv, rfl⟩ := (unhide HO6).slice
    have hgeB := hide (unhide HO6).row.lt
    clear HB4 HO4 HR4 hu k6 r6
    go_wp2_with (at_builtin; go_loud (refine wpList_append_own _ rfl _ _ 23 rfl w1.heap.size 40 i0 _ 1 24 Tryz.underlying23 hi hz0 hz1 hz2 rfl (by decide) (.slice av Ls.length cv) _ _ rfl (World.ownsRow.alloc (unhide HO6).row _) ⟨w6.heap.size, 0, none⟩ 1 1 [(.slice au xs.length cu)] rfl rfl (cell_new1L w6 rfl _ _) (by simp [Value.oneCell']) (by unfold maxLen; omega) (by omega) (by simp; omega) ?_); intro v' w7 hown hgrow _)
    have hb7 : Below w1.heap.size w6 w7 := ((Below.refl _ w6).alloc (by omega) _).grown hgrow (by simp; omega) (fun k9 h9 => (unhide hgeB k9 h9).1)
    have z7 := hb7.size
    have HO7 := hide ((unhide HO6).push (unhide HU) (unhide HA) hown hgrow)
    have HB7 := hide (show Below w.heap.size w w7 from (unhide HB6).trans (hb7.mono (by omega)))
    have HR7 := hide ((unhide HR6).up (hb7.mono (by omega)))
    have HL7 := hide (bd_snoc (P := fun (l : List It) => l.length ≤ 41) (unhide HL) hxl)
    have hLn7 : (Ls ++ [xs]).length ≤ 5 := by simp; omega
    clear HO6 HB6 HU HA hown hgrow hb7 hgeB HL HR6 hLn
    generalize Ls ++ [xs] = Ls at HO7 HL7 hLn7
    have HL := HL7
    clear HL7
    go_wp2_with fail
    refine (pick_any R a len' cap' p6 24 _ (by decide) (by omega) (unhide HR7)).mono ?_
    rintro e5 wp ⟨y2, rfl, y20, y21, kp, rp⟩
    have zp := kp.low.size
    have HBp := hide (show Below w.heap.size w wp from (unhide HB7).trans (kp.low.mono (by omega)))
    have HOp := hide ((unhide HO7).kp (by omega) kp)
    have HRp := hide (rp (by omega))
    clear HO7 HR7 HB7 kp rp
    by_cases hy2 : y2 = 0
    · subst hy2
      go_wp2
      obtain ⟨nL, hnL⟩ : ∃ nL, Ls.length = nL := ⟨_, rfl⟩
      go_loopw [5, 6] (fun lv iv wr => ∃ (i : Nat) (us : List Value) (Ms : List (List It)) (p' : Nat), iv = .int .i64 i ∧ i ≤ 40 ∧ Ms.length ≤ nL + i ∧ Hid (LgO wr w1.heap.size lv us Ms) ∧ Hid (∀ l ∈ Ms, l.length ≤ 41) ∧ Hid (Below w.heap.size w wr) ∧ w1.heap.size ≤ wr.heap.size ∧ p' ≤ p6 + 1 + 110 * i ∧ Hid (Rd R wr a len' cap' p')) (fun _ iv _ => 40 - (intOf iv).toNat)
      case atStart => exact ⟨0, _, Ls, p6 + 1, rfl, by omega, by omega, HOp, HL, HBp, by omega, by omega, HRp⟩
      case round =>
        clear HOp HBp HRp HL
        obtain ⟨i, us, Ls, p', rfl, hi40, hLi, HO, HL, HB, hwr, hp', HD⟩ := hrel
        by_cases hlt : (i : Int) < 40
        · go_wp2_with fail
          refine (logL_any R a len' cap' p' 10 wr (by omega) (by omega) (by omega) (unhide HD)).mono ?_
          rintro e2 wd ⟨u, LL, rfl, hu, _, ⟨hxl1, hxl⟩, kd, p2, hp2, rd⟩
          obtain ⟨gu, cu, rfl, _⟩ := own_form hu hxl1
          have zd := kd.low.size
          have HBd := hide (show Below w.heap.size w wd from (unhide HB).trans (kd.low.mono (by omega)))
          have HOd := hide ((unhide HO).kp (by omega) kd)
          have HDd := hide rd
          have HA := hide ((unhide HO).apart hu (Nat.le_refl _))
          have HU := hide (lg_mono hu (B' := w1.heap.size) (by omega))
          have HLd := hide (bd_snoc (unhide HL) (P := fun (l : List It) => l.length ≤ 41) (show LL.length ≤ 41 by omega))
          obtain ⟨av, cv, rfl⟩ := (unhide HOd).slice
          have hgeB := hide (unhide HOd).row.lt
          clear HB HO HD kd rd hu HL
          go_wp2_with (at_builtin; go_loud (refine wpList_append_own _ rfl _ _ 23 rfl w1.heap.size 40 i0 _ 1 24 Tryz.underlying23 hi hz0 hz1 hz2 rfl (by decide) (.slice av Ls.length cv) _ _ rfl (World.ownsRow.alloc (unhide HOd).row _) ⟨wd.heap.size, 0, none⟩ 1 1 [(.slice (some ⟨gu, 0, none⟩) LL.length cu)] rfl rfl (cell_new1L wd rfl _ _) (by simp [Value.oneCell']) (by unfold maxLen; omega) (by omega) (by simp; omega) ?_); intro v' w5 hown hgrow _)
          have hb5 : Below w1.heap.size wd w5 := ((Below.refl _ wd).alloc (by omega) _).grown hgrow (by simp; omega) (fun k9 h9 => (unhide hgeB k9 h9).1)
          have z5 := hb5.size
          have HO5 := hide ((unhide HOd).push (unhide HU) (unhide HA) hown hgrow)
          have HB5 := hide (show Below w.heap.size w w5 from (unhide HBd).trans (hb5.mono (by omega)))
          have HD5 := hide ((unhide HDd).up (hb5.mono (by omega)))
          clear HOd HBd HDd HU HA hown hgrow hb5 hgeB
          go_roundw
          case rel => exact ⟨i + 1, _, _, p2, by go_num, by omega, by rw [List.length_append]; exact Nat.succ_le_succ hLi, HO5, HLd, HB5, by omega, by omega, HD5⟩
          case measure => simp [intOf]; omega
        · go_wp2
          go_ret
          exact ⟨_, us, Ls, rfl, (unhide HO).mono (by omega), by omega, unhide HL, unhide HB⟩
    · have hy3 : (y2 == 0) = false := by simp [hy2]
      go_wp2
      go_ret
      exact ⟨_, _, Ls, rfl, (unhide HOp).mono (by omega), by omega, unhide HL, unhide HBp⟩
  · have hy' : (y == 0) = false := by simp [hy]
    go_wp2_with fail
    refine (pick_any R a len' cap' 1 24 _ (by decide) (by omega) (unhide HR4)).mono ?_
    rintro e5 wp ⟨y2, rfl, y20, y21, kp, rp⟩
    have zp := kp.low.size
    have HBp := hide (show Below w.heap.size w wp from (unhide HB4).trans (kp.low.mono (by omega)))
    have HOp := hide ((unhide HO4).kp (by omega) kp)
    have HRp := hide (rp (by omega))
    clear HO4 HR4 HB4 kp rp
    by_cases hy2 : y2 = 0
    · subst hy2
      go_wp2
      obtain ⟨nL, hnL⟩ : ∃ nL, Ls.length = nL := ⟨_, rfl⟩
      go_loopw [5, 6] (fun lv iv wr => ∃ (i : Nat) (us : List Value) (Ms : List (List It)) (p' : Nat), iv = .int .i64 i ∧ i ≤ 40 ∧ Ms.length ≤ nL + i ∧ Hid (LgO wr w1.heap.size lv us Ms) ∧ Hid (∀ l ∈ Ms, l.length ≤ 41) ∧ Hid (Below w.heap.size w wr) ∧ w1.heap.size ≤ wr.heap.size ∧ p' ≤ 1 + 1 + 110 * i ∧ Hid (Rd R wr a len' cap' p')) (fun _ iv _ => 40 - (intOf iv).toNat)
      case atStart => exact ⟨0, _, Ls, 1 + 1, rfl, by omega, by omega, HOp, HL, HBp, by omega, by omega, HRp⟩
      case round =>
        clear HOp HBp HRp HL
        obtain ⟨i, us, Ls, p', rfl, hi40, hLi, HO, HL, HB, hwr, hp', HD⟩ := hrel
        by_cases hlt : (i : Int) < 40
        · go_wp2_with fail
          refine (logL_any R a len' cap' p' 10 wr (by omega) (by omega) (by omega) (unhide HD)).mono ?_
          rintro e2 wd ⟨u, LL, rfl, hu, _, ⟨hxl1, hxl⟩, kd, p2, hp2, rd⟩
          obtain ⟨gu, cu, rfl, _⟩ := own_form hu hxl1
          have zd := kd.low.size
          have HBd := hide (show Below w.heap.size w wd from (unhide HB).trans (kd.low.mono (by omega)))
          have HOd := hide ((unhide HO).kp (by omega) kd)
          have HDd := hide rd
          have HA := hide ((unhide HO).apart hu (Nat.le_refl _))
          have HU := hide (lg_mono hu (B' := w1.heap.size) (by omega))
          have HLd := hide (bd_snoc (unhide HL) (P := fun (l : List It) => l.length ≤ 41) (show LL.length ≤ 41 by omega))
          obtain ⟨av, cv, rfl⟩ := (unhide HOd).slice
          have hgeB := hide (unhide HOd).row.lt
          clear HB HO HD kd rd hu HL
          go_wp2_with (at_builtin; go_loud (refine wpList_append_own _ rfl _ _ 23 rfl w1.heap.size 40 i0 _ 1 24 Tryz.underlying23 hi hz0 hz1 hz2 rfl (by decide) (.slice av Ls.length cv) _ _ rfl (World.ownsRow.alloc (unhide HOd).row _) ⟨wd.heap.size, 0, none⟩ 1 1 [(.slice (some ⟨gu, 0, none⟩) LL.length cu)] rfl rfl (cell_new1L wd rfl _ _) (by simp [Value.oneCell']) (by unfold maxLen; omega) (by omega) (by simp; omega) ?_); intro v' w5 hown hgrow _)
          have hb5 : Below w1.heap.size wd w5 := ((Below.refl _ wd).alloc (by omega) _).grown hgrow (by simp; omega) (fun k9 h9 => (unhide hgeB k9 h9).1)
          have z5 := hb5.size
          have HO5 := hide ((unhide HOd).push (unhide HU) (unhide HA) hown hgrow)
          have HB5 := hide (show Below w.heap.size w w5 from (unhide HBd).trans (hb5.mono (by omega)))
          have HD5 := hide ((unhide HDd).up (hb5.mono (by omega)))
          clear HOd HBd HDd HU HA hown hgrow hb5 hgeB
          go_roundw
          case rel => exact ⟨i + 1, _, _, p2, by go_num, by omega, by rw [List.length_append]; exact Nat.succ_le_succ hLi, HO5, HLd, HB5, by omega, by omega, HD5⟩
          case measure => simp [intOf]; omega
        · go_wp2
          go_ret
          exact ⟨_, us, Ls, rfl, (unhide HO).mono (by omega), by omega, unhide HL, unhide HB⟩
    · have hy3 : (y2 == 0) = false := by simp [hy2]
      go_wp2
      go_ret
      exact ⟨_, _, Ls, rfl, (unhide HOp).mono (by omega), by omega, unhide HL, unhide HBp⟩

/-- Drawn lines of logs. -/
def ItmsP (R : Nat) (w : World) (e' : Ending) (w' : World) : Prop := ∃ (v : Value) (L : List ByteArray), e' = .returned v ∧ OwnSt w' w.heap.size v (stL L) ∧ L.length ≤ 51 ∧ (∀ x ∈ L, x.size ≤ 1000) ∧ Kp R w w'
theorem okLog_pos {l : List It} (h : okLog l = true) : 1 ≤ l.length := by
  unfold okLog at h
  simp only [Bool.and_eq_true] at h
  have := inB_iff.1 h.1.1
  omega
theorem lines_drawn {Ls : List (List It)} (h : ∀ l ∈ Ls, okLog l = true ∧ l.length ≤ 14) (h1 : 1 ≤ Ls.length) (h3 : Ls.length ≤ 3) : 1 ≤ (dskO Ls).length ∧ (dskO Ls).length ≤ 50 := by
  have h4 := dskF_len Ls 14 (fun l hl => (h l hl).2)
  rw [dskO_is (List.all_eq_true.2 fun l hl => (h l hl).1) (by omega)]
  refine ⟨?_, by omega⟩
  cases Ls with
  | nil => simp at h1
  | cons l r =>
    have := okLog_pos (h l (by simp)).1
    show 1 ≤ (((if 0 < 0 then [dashB] else []) ++ l.map lnX) ++ dskF r 1).length
    simp
    omega
set_option maxRecDepth 20000 in
set_option maxHeartbeats 8000000 in
theorem items_any (R : Nat) (a : Option Addr) (len cap p0 : Nat) (s t k z q l e : Int) (b : Bool) (v r : Int) (w : World) (hs1 : 1 ≤ s) (hs2 : s ≤ 3) (hp0 : p0 ≤ 1000) (hR0 : R < w.heap.size) (h : Rd R w a len cap p0) : Calls Tryz.prog 20 #[.pointer (some ⟨R, 0, none⟩), .agg #[.int .i64 s, .int .i64 t, .int .i64 k, .int .i64 z, .int .i64 q, .int .i64 l, .int .i64 e, .bool b, .int .i64 v, .int .i64 r], .int .i64 2] w fun e w' => ItmsP R w e w' := by
  obtain ⟨i0, hi, hz0, hz1, hz2⟩ := info_parts Tryz.infoStr
  have hq : Below w.heap.size w (w.alloc (.cells #[.int .i64 s, .int .i64 t, .int .i64 k, .int .i64 z, .int .i64 q, .int .i64 l, .int .i64 e, .bool b, .int .i64 v, .int .i64 r] 36)) := bel_one _ _
  have bJ : (w.alloc (.cells #[.int .i64 s, .int .i64 t, .int .i64 k, .int .i64 z, .int .i64 q, .int .i64 l, .int .i64 e, .bool b, .int .i64 v, .int .i64 r] 36)).heap[w.heap.size]? = some (.cells #[.int .i64 s, .int .i64 t, .int .i64 k, .int .i64 z, .int .i64 q, .int .i64 l, .int .i64 e, .bool b, .int .i64 v, .int .i64 r] 36 (0, 0)) := World.alloc_heap_new w (.cells #[.int .i64 s, .int .i64 t, .int .i64 k, .int .i64 z, .int .i64 q, .int .i64 l, .int .i64 e, .bool b, .int .i64 v, .int .i64 r] 36)
  have HKa := hide (Kp.of_bel (Nat.le_of_lt hR0) hq)
  have HRa := hide (h.kp hR0 hq)
  clear h
  go_enter Tryz.func20, Tryz.ntmps20
  go_upto_region 1 with fail
  have hza : (w.alloc (.cells #[.int .i64 s, .int .i64 t, .int .i64 k, .int .i64 z, .int .i64 q, .int .i64 l, .int .i64 e, .bool b, .int .i64 v, .int .i64 r] 36)).heap.size = w.heap.size + 1 := by simp
  generalize (w.alloc (.cells #[.int .i64 s, .int .i64 t, .int .i64 k, .int .i64 z, .int .i64 q, .int .i64 l, .int .i64 e, .bool b, .int .i64 v, .int .i64 r] 36)) = wa at bJ HKa HRa hza ⊢
  have cj0 := Joins.cell_of_block bJ 0
  have cj1 := Joins.cell_of_block bJ 1
  have cj2 := Joins.cell_of_block bJ 2
  have cj3 := Joins.cell_of_block bJ 3
  have cj4 := Joins.cell_of_block bJ 4
  have cj5 := Joins.cell_of_block bJ 5
  have cj6 := Joins.cell_of_block bJ 6
  have cj7 := Joins.cell_of_block bJ 7
  have cj8 := Joins.cell_of_block bJ 8
  have cj9 := Joins.cell_of_block bJ 9
  simp only [List.getElem?_toArray, List.getElem?_cons_zero, List.getElem?_cons_succ] at cj0 cj1 cj2 cj3 cj4 cj5 cj6 cj7 cj8 cj9
  go_wp2_with fail
  clear cj0 cj1 cj2 cj3 cj4 cj5 cj6 cj7 cj8 cj9
  clear bJ hq
  refine (logsK_any R a len cap p0 s t k z q l e b v r wa hs1 hs2 (by omega) (by omega) (unhide HRa)).mono ?_
  rintro e1 w1 ⟨lv, us, Ls, rfl, hO1, hLs, hL, k1, p1, hp1, r1⟩
  have hlb := lines_drawn hL (by omega) (by omega)
  have HK1 := hide ((unhide HKa).trans k1)
  have hz1a := k1.low.size
  have HL := hide hL
  clear hL k1 HKa HRa
  go_wp2_with fail
  refine (specdskitems_any w1 hO1 (fun l h9 => by have := (unhide HL l h9).2; omega) (by omega)).mono ?_
  rintro e2 w2 ⟨vl, rfl, hO, hb2⟩
  have hLb := (dskO_bd Ls).2
  obtain ⟨L, hLe⟩ : ∃ L, dskO Ls = L := ⟨_, rfl⟩
  rw [hLe] at hO hlb hLb
  obtain ⟨N, hL10⟩ : ∃ N, L.length = N := ⟨_, rfl⟩
  rw [hL10] at hlb
  obtain ⟨hN1, hN2⟩ := hlb
  obtain ⟨g, cg, rfl, hg1, hg2, hgc⟩ := ownSt_shape hO (by omega)
  rw [hL10]
  have k2 : Kp R w w2 := (unhide HK1).trans (Kp.of_bel (by omega) hb2)
  rw [hL10] at hO hgc
  have HO2 : Hid (OwnSt w2 w.heap.size (.slice (some ⟨g, 0, none⟩) N cg) (stL L)) := hide (World.ownsRow.mono hO (by omega))
  have hr2 := r1.kp (by omega) hb2
  have HLb := hide hLb
  have hgw : w.heap.size ≤ g := by omega
  clear hO hLe hLb r1 hb2 HK1 HL hO1
  go_wp2_with fail
  refine (pick_any R a len cap (p1) 2 _ (by decide) (by decide) hr2).mono ?_
  rintro e3 w3 ⟨x, rfl, x0, x1, k3, hr3⟩
  have HR3 := hide (hr3 (by omega))
  have kk3 : Kp R w w3 := k2.trans k3
  have HO3 : Hid (OwnSt w3 w.heap.size (.slice (some ⟨g, 0, none⟩) N cg) (stL L)) := hide (ownKJ (unhide HO2) (by omega) k3)
  clear hr2 hr3
  by_cases hx : 0 < x
  · go_wp2
    go_ret
    exact ⟨_, L, rfl, World.ownsRow.mono (unhide HO3) (Nat.le_refl _), by omega, fun y hy => by have := unhide HLb y hy; omega, kk3⟩
  · go_wp2_with fail
    refine (pick_any R a len cap (p1 + 1) (N : Int) _ (by omega) (by omega) (unhide HR3)).mono ?_
    rintro e4 w4 ⟨y, rfl, y0, y1, k4, hr4⟩
    obtain ⟨kn, rfl⟩ : ∃ kn : Nat, y = kn := ⟨y.toNat, by omega⟩
    have HR4 := hide (hr4 (by omega))
    clear hr4 hx
    go_wp2_with fail
    refine (pick_any R a len cap (p1 + 1 + 1) 3 _ (by decide) (by decide) (unhide HR4)).mono ?_
    rintro e5 w5 ⟨y9, rfl, m0, m1, k5, hr5⟩
    have HR5 := hide (hr5 (by omega))
    have kk5 : Kp R w w5 := kk3.trans (k4.trans k5)
    have HO5 : Hid (OwnSt w5 w.heap.size (.slice (some ⟨g, 0, none⟩) N cg) (stL L)) := hide (ownKJ (unhide HO3) (by omega) (k4.trans k5))
    have hkn : kn < N := by omega
    have hknI : (kn : Int) < (N : Int) := by omega
    obtain ⟨xk, hxk⟩ : ∃ xk, L[kn]? = some xk := ⟨_, List.getElem?_eq_getElem (by omega)⟩
    have hxs := unhide HLb xk (List.mem_of_getElem? hxk)
    obtain ⟨hcell, hfz⟩ := ownSt_cell (unhide HO5) hxk
    have hgs : g < w5.heap.size := Nat.lt_of_lt_of_le hg2 (by
      have h5 := (k3.trans (k4.trans k5)).low.size
      rcases Nat.lt_or_ge w5.heap.size w2.heap.size with h9 | h9 <;> omega)
    have HXK := hide hxk
    have zw5 : w.heap.size ≤ w5.heap.size := by omega
    clear hr5 hxk k3 k4 k5 k2 kk3
    have hm : y9 = 0 ∨ y9 = 1 ∨ y9 = 2 := by omega
    rcases hm with rfl | rfl | rfl
    case inr.inl =>
      have w9 : IntKind.i64.wrap ((kn : Int) + 1) = (kn : Int) + 1 := IntWalk.i64_in _ ⟨by omega, by omega⟩
      have hkc : kn ≤ cg := by omega
      have hk0 : (0 : Int) ≤ (kn : Int) + 1 := by omega
      have hk1 : (kn : Int) + 1 ≤ (N : Int) := by omega
      obtain ⟨oo, hoo, hM⟩ : ∃ oo : Nat, (if cg = kn + 1 then (some ⟨g, 0, none⟩ : Option Addr) else some ⟨g, kn + 1, none⟩) = some ⟨g, oo, none⟩ ∧ ∀ (j : Nat) (x : ByteArray), (L.drop (kn + 1))[j]? = some x → L[oo + j]? = some x := by
        by_cases h9 : cg = kn + 1
        · refine ⟨0, if_pos h9, fun j x hj => ?_⟩
          rw [List.drop_eq_nil_of_le (by omega)] at hj
          simp at hj
        · exact ⟨kn + 1, if_neg h9, fun j x hj => by rwa [List.getElem?_drop] at hj⟩
      have HOO := hide hoo
      have HM := hide hM
      clear hoo hM
      go_wp2_with fail
      refine wp_region_held_drew (S := (fun _ => True)) (by kernel_rfl) ?_ (fun hHeld => ?_)
      · (try dsimp only); (try trivial)
      refine wpAnyH_take (i := 1) (v := ?_) (by simp only [List.getElem?_toArray, List.getElem?_cons_zero, List.getElem?_cons_succ]; rfl) (by kernel_rfl) (by kernel_rfl) (by kernel_rfl) (by intro _ _ _ h; exact h) (Or.inl ⟨by rfl, ?_⟩) (by assumption) ?_
      rotate_left
      · (intro w9 hSw; (try dsimp only at hSw); go_simp <;> with_reducible rfl)
      try simp only [Act.put, List.setIfInBounds_toArray, List.set_cons_zero, List.set_cons_succ]
      refine wpAnyH_take (i := 2) (v := ?_) (by simp only [List.getElem?_toArray, List.getElem?_cons_zero, List.getElem?_cons_succ]; rfl) (by kernel_rfl) (by kernel_rfl) (by kernel_rfl) (by intro _ _ _ h; exact h) (Or.inl ⟨by rfl, ?_⟩) (by assumption) ?_
      rotate_left
      · (intro w9 hSw; (try dsimp only at hSw); go_simp <;> with_reducible rfl)
      try simp only [Act.put, List.setIfInBounds_toArray, List.set_cons_zero, List.set_cons_succ]
      refine wpAnyH_take (i := 3) (v := ?_) (by simp only [List.getElem?_toArray, List.getElem?_cons_zero, List.getElem?_cons_succ]; rfl) (by kernel_rfl) (by kernel_rfl) (by kernel_rfl) (by intro _ _ _ h; exact h) (Or.inl ⟨by rfl, ?_⟩) (by assumption) ?_
      rotate_left
      · (intro w9 hSw; (try dsimp only at hSw); go_simp <;> with_reducible rfl)
      try simp only [Act.put, List.setIfInBounds_toArray, List.set_cons_zero, List.set_cons_succ]
      refine wpAnyH_take (i := 5) (v := ?_) (by simp only [List.getElem?_toArray, List.getElem?_cons_zero, List.getElem?_cons_succ]; rfl) (by kernel_rfl) (by kernel_rfl) (by kernel_rfl) (by intro _ _ _ h; exact h) (Or.inl ⟨by rfl, ?_⟩) (by assumption) ?_
      rotate_left
      · (intro w9 hSw; (try dsimp only at hSw); go_simp <;> with_reducible rfl)
      try simp only [Act.put, List.setIfInBounds_toArray, List.set_cons_zero, List.set_cons_succ]
      refine wpAnyH_take (i := 6) (v := ?_) (by simp only [List.getElem?_toArray, List.getElem?_cons_zero, List.getElem?_cons_succ]; rfl) (by kernel_rfl) (by kernel_rfl) (by kernel_rfl) (by intro _ _ _ h; exact h) (Or.inl ⟨by rfl, ?_⟩) (by assumption) ?_
      rotate_left
      · (intro w9 hSw; (try dsimp only at hSw); go_simp <;> with_reducible rfl)
      try simp only [Act.put, List.setIfInBounds_toArray, List.set_cons_zero, List.set_cons_succ]
      refine wpAnyH_take (i := 7) (v := ?_) (by simp only [List.getElem?_toArray, List.getElem?_cons_zero, List.getElem?_cons_succ]; rfl) (by kernel_rfl) (by kernel_rfl) (by kernel_rfl) (by intro _ _ _ h; exact h) (Or.inl ⟨by rfl, ?_⟩) (by assumption) ?_
      rotate_left
      · (intro w9 hSw; (try dsimp only at hSw); go_simp <;> with_reducible rfl)
      try simp only [Act.put, List.setIfInBounds_toArray, List.set_cons_zero, List.set_cons_succ]
      refine wpAnyH_take (i := 8) (v := ?_) (by simp only [List.getElem?_toArray, List.getElem?_cons_zero, List.getElem?_cons_succ]; rfl) (by kernel_rfl) (by kernel_rfl) (by kernel_rfl) (by intro _ _ _ h; exact h) (Or.inl ⟨by rfl, ?_⟩) (by assumption) ?_
      rotate_left
      · (intro w9 hSw; (try dsimp only at hSw); go_simp <;> with_reducible rfl)
      try simp only [Act.put, List.setIfInBounds_toArray, List.set_cons_zero, List.set_cons_succ]
      refine wpAnyH_ready (rs := [0]) (by kernel_rfl) (by simp) ?_
      refine AllReadyH.cons (by simp only [List.getElem?_toArray, List.getElem?_cons_zero, List.getElem?_cons_succ]; rfl) (fun K hK => ?_) AllReadyH.nil
      go_simp
      refine hK.out _ _ ?_ (fun hHeld2 => ?_)
      · (try dsimp only); (try trivial)
      clear hK K hHeld
      have hHeld := hHeld2
      clear hHeld2
      try simp only [Act.put, List.setIfInBounds_toArray, List.set_cons_zero, List.set_cons_succ]
      refine wpAnyH_ready (rs := [4]) (by kernel_rfl) (by simp) ?_
      refine AllReadyH.cons (by simp only [List.getElem?_toArray, List.getElem?_cons_zero, List.getElem?_cons_succ]; rfl) (fun K hK => ?_) AllReadyH.nil
      refine step_append_at rfl _ _ 25 rfl w5.heap.size 9 i0 _ 1 16 Tryz.underlying25 hi hz0 hz1 hz2 rfl (by decide) (.slice (some ⟨w5.heap.size, 0, none⟩) 0 0) 0 [] rfl ?own ⟨g, 0, none⟩ kn cg ((L.take kn).map Value.string) rfl (by simp; omega) (cells_tl (ownBel (unhide HO5) (by repeat (first | (with_reducible exact Below.refl _ _) | (with_reducible assumption) | (with_reducible refine bel_set ?_ (by first | (simp; done) | (simp; omega)) _) | (with_reducible refine bel_alloc ?_ _) | (with_reducible refine bel_drew ?_) | (with_reducible refine bel_drewN ?_ _) | (with_reducible refine bel_trans ?_ (by with_reducible assumption))))) 0 _ (fun j x h9 => by rw [Nat.zero_add]; exact tk_at h9)) (one_str _) (by unfold maxLen; omega) (by omega) (by simp) ?_
      case own => exact ownLit (W := w5.drew) (B := w5.heap.size) _ _ (by show w5.heap.size ≤ w5.drew.heap.size; exact Nat.le_refl _) rfl
      intro v6 w6 hown6 hgrow6 hblk6
      rw [Nat.zero_add, List.nil_append] at hown6
      have hb6 : Below w5.heap.size w5 w6 := (show Below w5.heap.size w5 _ from (by repeat (first | (with_reducible exact Below.refl _ _) | (with_reducible assumption) | (with_reducible refine bel_set ?_ (by first | (simp; done) | (simp; omega)) _) | (with_reducible refine bel_alloc ?_ _) | (with_reducible refine bel_drew ?_) | (with_reducible refine bel_drewN ?_ _) | (with_reducible refine bel_trans ?_ (by with_reducible assumption))))).grown hgrow6 (by simp) (fun k9 h9 => by simp [Value.ownBlock] at h9; omega)
      obtain ⟨a6, c6, rfl⟩ := sliceJ hown6
      refine hK.out _ _ ?_ (fun hHeld2 => ?_)
      · (try dsimp only); (try trivial)
      clear hK K hHeld
      have hHeld := hHeld2
      clear hHeld2
      try simp only [Act.put, List.setIfInBounds_toArray, List.set_cons_zero, List.set_cons_succ]
      refine wpAnyH_ready (rs := [9]) (by kernel_rfl) (by simp) ?_
      refine AllReadyH.cons (by simp only [List.getElem?_toArray, List.getElem?_cons_zero, List.getElem?_cons_succ]; rfl) (fun K hK => ?_) AllReadyH.nil
      refine step_append_at rfl _ _ 25 rfl w5.heap.size 9 i0 _ 1 16 Tryz.underlying25 hi hz0 hz1 hz2 rfl (by decide) (.slice a6 kn c6) kn _ rfl hown6 ⟨g, oo, none⟩ (N - (kn + 1)) (cg - (kn + 1)) ((L.drop (kn + 1)).map Value.string) (by simp [Act.eval, unhide HOO]) (by simp; omega) (cells_tl (ownBel (unhide HO5) hb6) oo _ (unhide HM)) (one_str _) (by unfold maxLen; omega) (by omega) (hb6.size) ?_
      intro v7 w7 hown7 hgrow7 _
      have hb7 : Below w5.heap.size w5 w7 := hb6.grown hgrow7 hb6.size (fun k9 h9 => (World.ownsRow.lt hown6 k9 h9).1)
      refine hK.out _ _ ?_ (fun hHeld2 => ?_)
      · (try dsimp only); (try trivial)
      clear hK K hHeld
      have hHeld := hHeld2
      clear hHeld2
      try simp only [Act.put, List.setIfInBounds_toArray, List.set_cons_zero, List.set_cons_succ]
      refine wpAnyH_take (i := 10) (v := ?_) (by simp only [List.getElem?_toArray, List.getElem?_cons_zero, List.getElem?_cons_succ]; rfl) (by kernel_rfl) (by kernel_rfl) (by kernel_rfl) (by intro _ _ _ h; exact h) (Or.inl ⟨by rfl, ?_⟩) (by assumption) ?_
      rotate_left
      · (intro w9 hSw; (try dsimp only at hSw); go_simp <;> with_reducible rfl)
      try simp only [Act.put, List.setIfInBounds_toArray, List.set_cons_zero, List.set_cons_succ]
      refine wpAnyH_done (by kernel_rfl) ?_ _
      go_wp2
      all_goals (go_ret; exact ⟨_, L.take kn ++ L.drop (kn + 1), rfl, World.ownsRow.mono (own_of (n := kn + (N - (kn + 1))) (by rw [List.length_append, List.length_take, List.length_drop, hL10]; omega) (by simpa using hown7)) (by omega), by simp; omega, fun y hy => by
        rcases List.mem_append.1 hy with hy | hy
        · have := unhide HLb y (List.mem_of_mem_take hy); omega
        · have := unhide HLb y (List.mem_of_mem_drop hy); omega, kk5.trans (Kp.of_bel (by omega) hb7)⟩)

    case inr.inr =>
      go_wp2_with (at_builtin; go_loud (refine wpList_append_own _ rfl _ _ 25 rfl w.heap.size 9 i0 _ 1 16 Tryz.underlying25 hi hz0 hz1 hz2 rfl (by decide) (.slice (some ⟨g, 0, none⟩) N cg) N (L.map Value.string) rfl (World.ownsRow.alloc (own_to hL10 (unhide HO5)) _) ⟨w5.heap.size, 0, none⟩ 1 1 [.string xk] rfl rfl (cells_newSt w5 xk _) (by simp [Value.oneCell']) (by unfold maxLen; omega) (by omega) (by simp; omega) ?_); intro v' w6 hown' hgrow _)
      go_wp2
      go_ret
      refine ⟨_, L ++ [xk], rfl, World.ownsRow.mono (own_of (n := N + 1) (by simp [hL10]) (by simpa using hown')) (Nat.le_refl _), by simp; omega, fun y hy => by
        rcases List.mem_append.1 hy with hy | hy
        · have := unhide HLb y hy; omega
        · obtain rfl : y = xk := by simpa using hy
          omega, kp_grown (kp_alloc hR0 kk5 _) hR0 hgrow (fun k9 h9 => by (have h8 : g = k9 := (by simpa [Value.ownBlock] using h9)); omega)⟩

    all_goals
      go_wp2_with fail
      refine (bent_any R a len cap (p1 + 1 + 1 + 1) xk _ (by omega) (by omega) (by omega) (unhide HR5)).mono ?_
      rintro e6 w6 ⟨s', rfl, hs', k6, p6, hp6, hr6⟩
      have HO6 : Hid (OwnSt w6 w.heap.size (.slice (some ⟨g, 0, none⟩) N cg) (stL L)) := hide (ownKJ (unhide HO5) (by omega) k6)
      obtain ⟨hc6, hf6⟩ := ownSt_cell (unhide HO6) (unhide HXK)
      clear hcell hfz hr6
      go_wp2
      go_ret
      exact ⟨_, L.set kn s', rfl, World.ownsRow.mono (ownSt_set (unhide HO6) kn s') (Nat.le_refl _), by rw [List.length_set]; omega, fun y hy => by
        rcases List.mem_or_eq_of_mem_set hy with hy | rfl
        · have := unhide HLb y hy; omega
        · omega, kp_setN (kk5.trans k6) (by show w.heap.size ≤ g; omega) hR0 _⟩
theorem drawdsklogs_any (a : Option Addr) (len cap : Nat) (w : World) (hlc : len ≤ cap) (hlm : len ≤ 1048576) (hb : BytesAt w a len) (hl : ∀ g o, a = some ⟨g, o, none⟩ → 0 < len → g < w.heap.size) (hn : a = none → cap = 0) : Calls Tryz.prog 6 #[.slice a len cap] w fun e w' => ∃ (v : Value) (L : List ByteArray), e = .returned v ∧ OwnSt w' w.heap.size v (stL L) ∧ L.length ≤ 51 ∧ (∀ x ∈ L, x.size ≤ 1000) ∧ Below w.heap.size w w' := by
  go_enter Tryz.func6, Tryz.ntmps6
  go_wp2_with fail
  refine (open_any a len cap _ hlc hlm hb hl hn).mono ?_
  rintro e w1 ⟨R, len', cap', rfl, h1, h2, hb1, hr⟩
  have z1 := hb1.size
  clear hb hl
  go_wp2_with fail
  refine (jobK_any R a len' cap' 0 w1 (by decide) h2 hr).mono ?_
  rintro e2 w2 ⟨s, t, k, z, q, l, e, b, v, r, rfl, hok, k2, p2, hp2, hr2⟩
  obtain ⟨hs1, hs2⟩ := okJob_s hok
  have z2 := k2.low.size
  clear hr hok
  go_wp2_with fail
  refine (items_any R a len' cap' p2 s t k z q l e b v r w2 hs1 hs2 (by omega) (by omega) hr2).mono ?_
  rintro e' w3 ⟨v, L, rfl, hO, hL, hs, k3⟩
  clear hr2
  go_wp2_with fail
  go_ret
  exact ⟨v, L, rfl, World.ownsRow.mono hO (by omega), hL, hs, hb1.trans ((k2.low.trans (k3.low)).mono (by omega))⟩
end Go.Proofs.YtcokdcehjibanaaGreatDoor
