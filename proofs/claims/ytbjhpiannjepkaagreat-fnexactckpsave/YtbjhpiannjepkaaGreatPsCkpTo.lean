/- Laid together: what the claim needs of the texts that were built one by one. -/
import Derived.Test.YtbjhpiannjepkaaGreatPsCkpC8
import Derived.Test.YtbjhpiannjepkaaGreatPsBase
namespace Go.Proofs.YtbjhpiannjepkaaGreat
open Go.ChangeShapes Go.WideShapes Go.ChangeAt Go.RowKit Go.Deep
set_option linter.unusedVariables false

theorem own_of_cells {W : World} {B g n size : Nat} {ty : TypeId} {cur : Array Value} {xs : List Value} (hB : B ≤ g) (hm : n ≤ maxLen) (hb : W.heap[g]? = some (.cells cur ty (0, 0))) (hs : cur.size = n * size) (hl : xs.length = n * size) (hc : ∀ j u, xs[j]? = some u → W.cell? ⟨g, j, none⟩ = some u) : W.ownsRow B ty size (.slice (some ⟨g, 0, none⟩) n n) n xs := by
  refine ⟨hl, Or.inr ⟨g, n, cur, rfl, hB, hb, Nat.le_refl _, hm, hs, ?_⟩⟩
  rw [List.take_of_length_le (by rw [Array.length_toList, hs]; exact Nat.le_refl _)]
  apply List.ext_getElem?
  intro j
  rcases Nat.lt_or_ge j xs.length with h | h
  · have h1 := hc j xs[j] (List.getElem?_eq_getElem h)
    have h2 : W.cell? ⟨g, j, none⟩ = cur[j]? := by simp [World.cell?, hb, go_sem]
    rw [h2] at h1
    rw [Array.getElem?_toList, h1, List.getElem?_eq_getElem h]
  · rw [List.getElem?_eq_none h, List.getElem?_eq_none (by rw [Array.length_toList, hs]; omega)]

set_option maxRecDepth 20000 in
set_option maxHeartbeats 1000000 in
theorem toInO_any (a : Option Addr) (len cap : Nat) (xs : List Int) (w : World) (h : InRs w a len xs) (hl : len ≤ 1048576) : Calls Tryz.prog 24 #[.slice a len cap] w fun e w' => ∃ v, e = .returned v ∧ w'.ownsRow w.heap.size 3 1 v len (xs.map fun z => .int .i64 z) ∧ Below w.heap.size w w' := by
  obtain ⟨C, hC, hmk⟩ := mkIn len hl
  go_enter Tryz.func24, Tryz.ntmps24
  go_wp2
  go_loopw [4] (fun i wr => ∃ k : Nat, k ≤ len ∧ i = .int .i64 k ∧ BlkIn wr w.heap.size len ∧ (∀ (i : Nat) (x : Int), i < k → xs[i]? = some x → wr.cell? ⟨w.heap.size, i, none⟩ = some (.int .i64 x)) ∧ Below w.heap.size w wr) (fun i _ => len - (intOf i).toNat)
  case atStart => exact ⟨0, Nat.zero_le _, rfl, ⟨C, by show (w.heap.push _)[w.heap.size]? = _; simp, hC⟩, fun i x hi => absurd hi (by omega), bel_one _ _⟩
  case round =>
    obtain ⟨k, hk, rfl, hB, hF, hbw⟩ := hrel
    by_cases hlt : k < len
    · obtain ⟨hxl, hml, hx⟩ := h
      obtain ⟨g, o, rfl, hr⟩ := hx.resolve_left (by omega)
      obtain ⟨x, hxk⟩ : ∃ x, xs[k]? = some x := ⟨_, List.getElem?_eq_getElem (by omega)⟩
      have hg : g < w.heap.size := hr.lt (by omega)
      have hX := hide hxk
      have HF := hide hF
      have HB := hide hB
      have c0 := (hbw.cell (p := ⟨g, o + k, none⟩) hg).trans (hr k _ hxk)
      obtain ⟨u, d0⟩ := hB.cell hlt
      have f0 := hB.frozen (i := k)
      have hz := hB.lt
      have hltI : (k : Int) < (len : Int) := by omega
      clear hx hxk hr hF
      go_wp2
      go_roundw
      case rel =>
        refine ⟨k + 1, by omega, by go_num, (unhide HB).set _, fun i y hi hy => ?_, hbw.setCell (Nat.le_refl _) _⟩
        by_cases he : i = k
        · subst he
          rw [unhide hX] at hy
          cases hy
          exact In_this (unhide HB) hlt
        · rw [Ti_other (by omega)]
          exact unhide HF i y (by omega) hy
      case measure => simp [intOf]; omega
    · go_wp2
      go_ret
      refine ⟨_, rfl, ?_, hbw⟩
      obtain ⟨cur, hcur, hcs⟩ := hB
      refine own_of_cells (Nat.le_refl _) h.2.1 hcur (by omega) (by rw [List.length_map, h.1, Nat.mul_one]) (fun j u hj => ?_)
      rw [List.getElem?_map, Option.map_eq_some_iff] at hj
      obtain ⟨z, hz, rfl⟩ := hj
      have hi : j < xs.length := (List.getElem?_eq_some_iff.1 hz).1
      exact hF j z (by have := h.1; omega) hz

set_option maxRecDepth 20000 in
set_option maxHeartbeats 1000000 in
theorem toBoO_any (a : Option Addr) (len cap : Nat) (xs : List Bool) (w : World) (h : BoRs w a len xs) (hl : len ≤ 1048576) : Calls Tryz.prog 25 #[.slice a len cap] w fun e w' => ∃ v, e = .returned v ∧ w'.ownsRow w.heap.size 4 1 v len (xs.map fun z => .bool z) ∧ Below w.heap.size w w' := by
  obtain ⟨C, hC, hmk⟩ := mkBo len hl
  go_enter Tryz.func25, Tryz.ntmps25
  go_wp2
  go_loopw [4] (fun i wr => ∃ k : Nat, k ≤ len ∧ i = .int .i64 k ∧ BlkBo wr w.heap.size len ∧ (∀ (i : Nat) (x : Bool), i < k → xs[i]? = some x → wr.cell? ⟨w.heap.size, i, none⟩ = some (.bool x)) ∧ Below w.heap.size w wr) (fun i _ => len - (intOf i).toNat)
  case atStart => exact ⟨0, Nat.zero_le _, rfl, ⟨C, by show (w.heap.push _)[w.heap.size]? = _; simp, hC⟩, fun i x hi => absurd hi (by omega), bel_one _ _⟩
  case round =>
    obtain ⟨k, hk, rfl, hB, hF, hbw⟩ := hrel
    by_cases hlt : k < len
    · obtain ⟨hxl, hml, hx⟩ := h
      obtain ⟨g, o, rfl, hr⟩ := hx.resolve_left (by omega)
      obtain ⟨x, hxk⟩ : ∃ x, xs[k]? = some x := ⟨_, List.getElem?_eq_getElem (by omega)⟩
      have hg : g < w.heap.size := hr.lt (by omega)
      have hX := hide hxk
      have HF := hide hF
      have HB := hide hB
      have c0 := (hbw.cell (p := ⟨g, o + k, none⟩) hg).trans (hr k _ hxk)
      obtain ⟨u, d0⟩ := hB.cell hlt
      have f0 := hB.frozen (i := k)
      have hz := hB.lt
      have hltI : (k : Int) < (len : Int) := by omega
      clear hx hxk hr hF
      go_wp2
      go_roundw
      case rel =>
        refine ⟨k + 1, by omega, by go_num, (unhide HB).set _, fun i y hi hy => ?_, hbw.setCell (Nat.le_refl _) _⟩
        by_cases he : i = k
        · subst he
          rw [unhide hX] at hy
          cases hy
          exact Bo_this (unhide HB) hlt
        · rw [Ti_other (by omega)]
          exact unhide HF i y (by omega) hy
      case measure => simp [intOf]; omega
    · go_wp2
      go_ret
      refine ⟨_, rfl, ?_, hbw⟩
      obtain ⟨cur, hcur, hcs⟩ := hB
      refine own_of_cells (Nat.le_refl _) h.2.1 hcur (by omega) (by rw [List.length_map, h.1, Nat.mul_one]) (fun j u hj => ?_)
      rw [List.getElem?_map, Option.map_eq_some_iff] at hj
      obtain ⟨z, hz, rfl⟩ := hj
      have hi : j < xs.length := (List.getElem?_eq_some_iff.1 hz).1
      exact hF j z (by have := h.1; omega) hz

theorem toOrO_any (a : Option Addr) (len cap : Nat) (xs : List OrR) (w : World) (h : OrRs w a len xs) (hl : len ≤ 1048576) : Calls Tryz.prog 87 #[.slice a len cap] w fun e w' => ∃ v, e = .returned v ∧ w'.ownsRow w.heap.size 112 13 v len (flatOr xs) ∧ Below w.heap.size w w' := by
  refine (toOr_at a len cap xs w h hl).mono ?_
  rintro e w' ⟨rfl, hat, hB, hb⟩
  refine ⟨_, rfl, ?_, hb⟩
  obtain ⟨cur, hcur, hcs⟩ := hB
  have hrs : OrRs w' (some ⟨w.heap.size, 0, none⟩) len xs := ⟨h.1, h.2.1, Or.inr ⟨_, 0, rfl, hat⟩⟩
  refine own_of_cells (Nat.le_refl _) h.2.1 hcur hcs (by rw [flatOr_len, h.1]) (fun j u hj => ?_)
  have h9 := newsOr hrs rfl j u hj
  have e : ((⟨w.heap.size, 0, none⟩ : Addr).add j) = ⟨w.heap.size, j, none⟩ := by
    cases j with
    | zero => simp [Addr.add]
    | succ j => simp [Addr.add]
  rw [e] at h9
  exact h9

set_option linter.unusedSimpArgs false in
set_option maxRecDepth 20000 in
theorem toStO_any (m : Int) (a : Option Addr) (len cap : Nat) (xs : List OrR) (w : World) (h : OrRs w a len xs) (hl : len ≤ 1048576) : Calls Tryz.prog 69 #[.agg #[.int .i64 m, .slice a len cap]] w fun e w' => ∃ v, e = .returned (.agg #[.int .i64 m, v]) ∧ w'.ownsRow w.heap.size 112 13 v len (flatOr xs) ∧ Below w.heap.size w w' := by
  go_enter Tryz.func69, Tryz.ntmps69
  go_wp2_with (go_at_call 87; refine (toOrO_any a len cap xs _ (h.below (belB)) hl).mono ?_; rintro e' w' ⟨v, rfl, H, hb⟩; obtain ⟨va, vc, rfl⟩ := sliceC H; obtain ⟨hc, hf, hs⟩ := bcell hb; have hz0 : w.heap.size + 1 < w'.heap.size := (by have h9 := hb.size; (try simp at h9); omega); have hz1 : w.heap.size + 1 + 1 < w'.heap.size := (by have h9 := hb.size; (try simp at h9); omega))
  have HG : Hid (w'.ownsRow (w.heap.size + 1 + 1 + 1) 112 13 (.slice va len vc) len (flatOr xs)) := hide (World.ownsRow.mono H (by simp))
  refine bodyPost_ret (v := .agg #[.int .i64 m, .slice va len vc]) (by simp (maxDischargeDepth := 9) [results, Tryz.results69, go_sem, *]) rfl ⟨_, rfl, World.ownsRow.mono (base := w.heap.size + 1 + 1 + 1) ?_ (by omega), ?_⟩
  · repeat (first | (with_reducible exact unhide HG) | (with_reducible refine own_setC ?_ (by simp <;> omega)))
  · exact (belB)

set_option linter.unusedSimpArgs false in
set_option maxRecDepth 20000 in
set_option maxHeartbeats 1000000 in
theorem toSnO_one (x : SnD) (a1 : Option Addr) (l1 c1 : Nat) (a2 : Option Addr) (l2 c2 : Nat) (w : World) (h1 : OrB w 0 a1 l1 x.rows) (h2 : InB w 0 a2 l2 x.marks) (m1 : l1 ≤ 1048576) (m2 : l2 ≤ 1048576) : Calls Tryz.prog 51 #[.agg #[.int .i64 x.ma, .slice a1 l1 c1, .slice a2 l2 c2]] w fun e w' => ∃ v1 v2, e = .returned (.agg #[.int .i64 x.ma, v1, v2]) ∧ w'.ownsRow w.heap.size 112 13 v1 l1 (flatOr x.rows) ∧ w'.ownsRow w.heap.size 3 1 v2 l2 (x.marks.map fun z => .int .i64 z) ∧ Below w.heap.size w w' := by
  go_enter Tryz.func51, Tryz.ntmps51
  go_wp2_with (first
    | (go_at_call 69; refine (toStO_any x.ma a1 l1 c1 x.rows _ (h1.1.below (belB)) m1).mono ?_; rintro e' w0 ⟨v1, rfl, H1, hb0⟩; obtain ⟨va1, vc1, rfl⟩ := sliceC H1; obtain ⟨hc0, hf0, hs0⟩ := bcell hb0; have hz00 : w.heap.size < w0.heap.size := (by have h9 := hb0.size; (try simp at h9); omega); have hz01 : w.heap.size + 1 < w0.heap.size := (by have h9 := hb0.size; (try simp at h9); omega); have hz02 : w.heap.size + 1 + 1 < w0.heap.size := (by have h9 := hb0.size; (try simp at h9); omega))
    | (go_at_call 24; refine (toInO_any a2 l2 c2 x.marks _ (h2.1.below (belB)) m2).mono ?_; rintro e' w1 ⟨v2, rfl, H2, hb1⟩; obtain ⟨va2, vc2, rfl⟩ := sliceC H2; obtain ⟨hc1, hf1, hs1⟩ := bcell hb1; have hz10 : w.heap.size < w1.heap.size := (by have h9 := hb1.size; (try simp at h9); omega); have hz11 : w.heap.size + 1 < w1.heap.size := (by have h9 := hb1.size; (try simp at h9); omega); have hz12 : w.heap.size + 1 + 1 < w1.heap.size := (by have h9 := hb1.size; (try simp at h9); omega)))
  have G1 : Hid (w0.ownsRow (w.heap.size + 3) 112 13 (.slice va1 l1 vc1) l1 (flatOr x.rows)) := hide (World.ownsRow.mono H1 (by simp <;> omega))
  have G2 : Hid (w1.ownsRow (w.heap.size + 3) 3 1 (.slice va2 l2 vc2) l2 (x.marks.map fun z => .int .i64 z)) := hide (World.ownsRow.mono H2 (by simp <;> omega))
  refine bodyPost_ret (v := .agg #[.int .i64 x.ma, .slice va1 l1 vc1, .slice va2 l2 vc2]) (by simp (maxDischargeDepth := 9) [results, Tryz.results51, go_sem, *]) rfl ⟨_, _, rfl, World.ownsRow.mono (base := w.heap.size + 3) ?_ (by omega), World.ownsRow.mono (base := w.heap.size + 3) ?_ (by omega), ?_⟩
  · repeat (first | (with_reducible exact unhide G1) | (with_reducible refine own_setC ?_ (by simp <;> omega)) | (with_reducible refine own_bel ?_ hb1))
  · repeat (first | (with_reducible exact unhide G2) | (with_reducible refine own_setC ?_ (by simp <;> omega)))
  · exact (belB)

theorem CopS.keepB {W W' : World} {B : Nat} {l : List (Int × SnV)} {xs : List SnD} (h : CopS W B l xs) (hb : ∀ b, B ≤ b → b < W.heap.size → W'.heap[b]? = W.heap[b]?) : CopS W' B l xs :=
  ⟨h.len, h.at_, fun i q x hq hx => own_upB (h.r1 i q x hq hx) (fun b hv => hb b (World.ownsRow.lt (h.r1 i q x hq hx) b hv).1 (World.ownsRow.lt (h.r1 i q x hq hx) b hv).2), fun i q x hq hx => own_upB (h.r2 i q x hq hx) (fun b hv => hb b (World.ownsRow.lt (h.r2 i q x hq hx) b hv).1 (World.ownsRow.lt (h.r2 i q x hq hx) b hv).2), h.d1, h.d2⟩

set_option linter.unusedSimpArgs false in
set_option maxRecDepth 20000 in
set_option maxHeartbeats 1000000 in
theorem toSnO_any (a : Option Addr) (len cap : Nat) (xs : List SnD) (w : World) (h : SnB w 0 a len xs) (hl : len ≤ 1048576 ∧ ∀ x ∈ xs, x.sm) : Calls Tryz.prog 26 #[.slice a len cap] w fun e w' => ∃ v l, e = .returned v ∧ OwnSn w' w.heap.size v l ∧ CopS w' w.heap.size l xs ∧ Below w.heap.size w w' := by
  obtain ⟨hl, hq⟩ := hl
  obtain ⟨C, hC, hmk⟩ := mkSn len hl
  go_enter Tryz.func26, Tryz.ntmps26
  go_wp2
  go_loopw [4] (fun i wr => ∃ (k : Nat) (l : List (Int × SnV)), k ≤ len ∧ i = .int .i64 k ∧ BlkSn wr w.heap.size 80 len ∧ Hid (∀ j u, (flatSV l)[j]? = some u → wr.cell? ⟨w.heap.size, j, none⟩ = some u) ∧ Hid (CopS wr (w.heap.size + 1) l (xs.take k)) ∧ Below w.heap.size w wr) (fun i _ => len - (intOf i).toNat)
  case atStart => exact ⟨0, [], Nat.zero_le _, rfl, (FillSn.start hC xs).1, hide (fun j u hj => by simp [flatSV] at hj), hide (CopS.nil _ _), bel_one _ _⟩
  case round =>
    obtain ⟨k, l, hk, rfl, hB, HF, HC, hbw⟩ := hrel
    have hll : l.length = (xs.take k).length := (unhide HC).len
    by_cases hlt : k < len
    · obtain ⟨hxl, hml, hx⟩ := h
      obtain ⟨g, o, rfl, _, hr⟩ := hx.resolve_left (by omega)
      obtain ⟨x, hxk⟩ : ∃ x, xs[k]? = some x := ⟨_, List.getElem?_eq_getElem (by omega)⟩
      have hX := hide hxk
      have hqk := hq x (List.mem_of_getElem? hxk)
      have hlk : l.length = k := by rw [hll, List.length_take]; omega
      obtain ⟨a1, l1, c1, a2, l2, c2, ⟨c0z, c1z, c2z⟩, k1, k2⟩ := (hr k _ hxk).below hbw
      obtain ⟨m1, m2⟩ := of_smSn x k1.len.1 k2.len.1 hqk
      obtain ⟨u0, d0⟩ := hB.cell (i := k * 3) (by omega)
      have f0 := hB.frozen (i := k * 3)
      obtain ⟨u1, d1⟩ := hB.cell (i := k * 3 + 1) (by omega)
      have f1 := hB.frozen (i := k * 3 + 1)
      obtain ⟨u2, d2⟩ := hB.cell (i := k * 3 + 2) (by omega)
      have f2 := hB.frozen (i := k * 3 + 2)
      have hz := hB.lt
      have e1 := k1.len.1
      have e2 := k2.len.1
      have HBh := hide hB
      clear hx hxk hr hqk hll hB
      go_wp2_with (go_at_call 51; refine (toSnO_one x a1 l1 c1 a2 l2 c2 _ k1 k2 m1 m2).mono ?_; rintro e w' ⟨v1, v2, rfl, H1, H2, hb⟩; obtain ⟨va1, vc1, rfl⟩ := sliceC H1; obtain ⟨va2, vc2, rfl⟩ := sliceC H2; obtain ⟨hc, hf, hs⟩ := bcell hb; have HO1 := hide H1; have HO2 := hide H2; clear H1 H2)
      have C1 := CopS.snoc (p := (x.ma, ⟨va1, l1, vc1, va2, l2, vc2⟩)) (x := x) (unhide HC) hb (by omega) ⟨rfl, e1.symm, e2.symm⟩ (unhide HO1) (unhide HO2)
      have hkeep : ∀ (W : World) (v : Value) (i b : Nat), w.heap.size + 1 ≤ b → (W.setCell ⟨w.heap.size, i, none⟩ v).heap[b]? = W.heap[b]? := fun W v i b hb' => Below.heap_setCell _ _ _ _ (by show b ≠ w.heap.size; omega)
      have HB2 : BlkSn w' w.heap.size 80 len := (unhide HBh).below hb hz
      go_roundw
      case rel =>
        refine ⟨k + 1, l ++ [(x.ma, ⟨va1, l1, vc1, va2, l2, vc2⟩)], by omega, by go_num, ((HB2.set _).set _).set _, hide (fun j u hj => ?_), hide ?_, ((bel_trans hbw hb).setCell (Nat.le_refl _) _).setCell (Nat.le_refl _) _ |>.setCell (Nat.le_refl _) _⟩
        · rw [flatSV_snoc] at hj
          have hfl : (flatSV l).length = k * 3 := by rw [flatSV_len, hlk]
          rcases Nat.lt_or_ge j (k * 3) with hj3 | hj3
          · rw [List.getElem?_append_left (by omega)] at hj
            rw [Ti_other (by omega), Ti_other (by omega), Ti_other (by omega)]
            exact (hb.cell (p := ⟨w.heap.size, j, none⟩) hz).trans (unhide HF j u hj)
          · rw [List.getElem?_append_right (by omega), hfl] at hj
            have hlen : (SnV.cells (x.ma, (⟨va1, l1, vc1, va2, l2, vc2⟩ : SnV))).length = 3 := rfl
            have hj4 : j - k * 3 < 3 := by have := (List.getElem?_eq_some_iff.1 hj).1; rw [hlen] at this; exact this
            obtain h0 | h0 | h0 : j = k * 3 ∨ j = k * 3 + 1 ∨ j = k * 3 + 2 := by omega
            · subst h0
              rw [Nat.sub_self] at hj
              cases hj
              rw [Ti_other (by omega), Ti_other (by omega)]
              exact Sn_this HB2 (by omega)
            · subst h0
              rw [Nat.add_sub_cancel_left] at hj
              cases hj
              rw [Ti_other (by omega)]
              exact Sn_this (HB2.set _) (by omega)
            · subst h0
              rw [Nat.add_sub_cancel_left] at hj
              cases hj
              exact Sn_this ((HB2.set _).set _) (by omega)
        · have ht : xs.take (k + 1) = xs.take k ++ [x] := by rw [List.take_add_one, unhide hX]; rfl
          rw [ht]
          exact C1.keepB (fun b hb1 _ => ((hkeep _ _ _ b hb1).trans ((hkeep _ _ _ b hb1).trans (hkeep _ _ _ b hb1))))
      case measure => simp [intOf]; omega
    · have hkn : k = len := by omega
      have hlk : l.length = len := by rw [hll, List.length_take, ← h.1, hkn, h.1]; omega
      have hC2 : CopS wr (w.heap.size + 1) l xs := by have h9 := unhide HC; rw [hkn, ← h.1, List.take_length] at h9; exact h9
      clear hkn
      go_wp2
      go_ret
      obtain ⟨cur, hcur, hcs⟩ := hB
      refine ⟨_, l, rfl, ?_, hC2.base (by omega), hbw⟩
      unfold OwnSn
      rw [hlk]
      exact own_of_cells (Nat.le_refl _) h.2.1 hcur hcs (by rw [flatSV_len, hlk]) (unhide HF)

set_option linter.unusedSimpArgs false in
set_option maxRecDepth 20000 in
set_option maxHeartbeats 1000000 in
theorem toCsO_one (f : Int) (at_ : List Int) (ssn : List SnD) (a1 : Option Addr) (l1 c1 : Nat) (a2 : Option Addr) (l2 c2 : Nat) (w : World) (h1 : InB w 0 a1 l1 at_) (h2 : SnB w 0 a2 l2 ssn) (m1 : l1 ≤ 1048576) (m2 : (l2 ≤ 1048576 ∧ ∀ y ∈ ssn, y.sm)) : Calls Tryz.prog 27 #[.agg #[.int .i64 f, .slice a1 l1 c1, .slice a2 l2 c2]] w fun e w' => ∃ v6 v7 l B4, e = .returned (.agg #[.int .i64 f, v6, v7]) ∧ w.heap.size ≤ B4 ∧ w'.ownsRow w.heap.size 3 1 v6 l1 (at_.map fun z => .int .i64 z) ∧ Under v6 B4 ∧ OwnSn w' B4 v7 l ∧ CopS w' B4 l ssn ∧ Below w.heap.size w w' := by
  go_enter Tryz.func27, Tryz.ntmps27
  go_wp2_with (first
    | (go_at_call 24; refine (toInO_any a1 l1 c1 at_ _ (h1.1.below (belB)) m1).mono ?_; rintro e' w0 ⟨v6, rfl, H1, hb0⟩; obtain ⟨va1, vc1, rfl⟩ := sliceC H1; obtain ⟨hc0, hf0, hs0⟩ := bcell hb0; have hz00 : w.heap.size < w0.heap.size := (by have h9 := hb0.size; (try simp at h9); omega); have hz01 : w.heap.size + 1 < w0.heap.size := (by have h9 := hb0.size; (try simp at h9); omega); have hz02 : w.heap.size + 1 + 1 < w0.heap.size := (by have h9 := hb0.size; (try simp at h9); omega))
    | (go_at_call 26; refine (toSnO_any a2 l2 c2 ssn _ (h2.below (belB)) m2).mono ?_; rintro e' w1 ⟨v7, l, rfl, H2, K2, hb1⟩; obtain ⟨va2, vc2, rfl⟩ := sliceC H2; obtain ⟨hc1, hf1, hs1⟩ := bcell hb1; have hz10 : w.heap.size < w1.heap.size := (by have h9 := hb1.size; (try simp at h9); omega); have hz11 : w.heap.size + 1 < w1.heap.size := (by have h9 := hb1.size; (try simp at h9); omega); have hz12 : w.heap.size + 1 + 1 < w1.heap.size := (by have h9 := hb1.size; (try simp at h9); omega)))
  have G1 : Hid (w0.ownsRow (w.heap.size + 3) 3 1 (.slice va1 l1 vc1) l1 (at_.map fun z => .int .i64 z)) := hide (World.ownsRow.mono H1 (by simp <;> omega))
  have U1 := under_of (unhide G1) (Nat.le_refl _)
  have G2 : Hid (w1.ownsRow w0.heap.size 80 3 (.slice va2 l.length vc2) l.length (flatSV l)) := hide (World.ownsRow.mono H2 (by simp <;> omega))
  have G3 : Hid (CopS w1 w0.heap.size l ssn) := hide (K2.base (by simp <;> omega))
  have z0 : w.heap.size + 3 ≤ w0.heap.size := by have h9 := hb0.size; (try simp at h9); omega
  refine bodyPost_ret (v := .agg #[.int .i64 f, .slice va1 l1 vc1, .slice va2 l.length vc2]) (by simp (maxDischargeDepth := 9) [results, Tryz.results27, go_sem, *]) rfl ⟨_, _, l, w0.heap.size, rfl, by omega, World.ownsRow.mono (base := w.heap.size + 3) ?_ (by omega), U1, ?_, ?_, ?_⟩
  · repeat (first | (with_reducible exact unhide G1) | (with_reducible refine own_setC ?_ (by simp <;> omega)) | (with_reducible refine own_bel ?_ hb1))
  · show World.ownsRow _ w0.heap.size 80 3 (.slice va2 l.length vc2) l.length (flatSV l)
    repeat (first | (with_reducible exact unhide G2) | (with_reducible refine own_setC ?_ (by simp <;> omega)))
  · repeat (first | (with_reducible exact unhide G3) | (with_reducible refine CopS.setC ?_ (by simp <;> omega)))
  · exact (belB)

set_option linter.unusedSimpArgs false in
set_option maxRecDepth 20000 in
set_option maxHeartbeats 2000000 in
theorem toCkO_one (x : CkD) (a2 : Option Addr) (l2 c2 : Nat) (a3 : Option Addr) (l3 c3 : Nat) (a4 : Option Addr) (l4 c4 : Nat) (a6 : Option Addr) (l6 c6 : Nat) (a7 : Option Addr) (l7 c7 : Nat) (w : World) (h2 : InB w 0 a2 l2 x.src) (h3 : BoB w 0 a3 l3 x.tsk) (h4 : SnB w 0 a4 l4 x.sn) (h6 : InB w 0 a6 l6 x.at_) (h7 : SnB w 0 a7 l7 x.ssn) (m2 : l2 ≤ 1048576) (m3 : l3 ≤ 1048576) (m4 : (l4 ≤ 1048576 ∧ ∀ y ∈ x.sn, y.sm)) (m6 : l6 ≤ 1048576) (m7 : (l7 ≤ 1048576 ∧ ∀ y ∈ x.ssn, y.sm)) : Calls Tryz.prog 8 #[.agg #[.int .i64 x.n, .bool x.op, .slice a2 l2 c2, .slice a3 l3 c3, .slice a4 l4 c4, .int .i64 x.sfn, .slice a6 l6 c6, .slice a7 l7 c7]] w fun e w' => CopD w x.n x.op x.src x.tsk x.sn x.sfn x.at_ x.ssn e w' := by
  have e2 := h2.1.1
  have e3 := h3.1.1
  have e6 := h6.1.1
  go_enter Tryz.func8, Tryz.ntmps8
  go_wp2_with (first
    | (go_at_call 24; refine (toInO_any a2 l2 c2 x.src _ (h2.1.below (belB)) m2).mono ?_; rintro e' w0 ⟨v2, rfl, H2, hb0⟩; obtain ⟨p2, q2, rfl⟩ := sliceC H2; obtain ⟨hc0, hf0, hs0⟩ := bcell hb0; have hz00 : w.heap.size < w0.heap.size := (by have h9 := hb0.size; (try simp at h9); omega); have hz01 : w.heap.size + 1 < w0.heap.size := (by have h9 := hb0.size; (try simp at h9); omega); have hz02 : w.heap.size + 1 + 1 < w0.heap.size := (by have h9 := hb0.size; (try simp at h9); omega))
    | (go_at_call 25; refine (toBoO_any a3 l3 c3 x.tsk _ (h3.1.below (belB)) m3).mono ?_; rintro e' w1 ⟨v3, rfl, H3, hb1⟩; obtain ⟨p3, q3, rfl⟩ := sliceC H3; obtain ⟨hc1, hf1, hs1⟩ := bcell hb1; have hz10 : w.heap.size < w1.heap.size := (by have h9 := hb1.size; (try simp at h9); omega); have hz11 : w.heap.size + 1 < w1.heap.size := (by have h9 := hb1.size; (try simp at h9); omega); have hz12 : w.heap.size + 1 + 1 < w1.heap.size := (by have h9 := hb1.size; (try simp at h9); omega))
    | (go_at_call 26; refine (toSnO_any a4 l4 c4 x.sn _ (h4.below (belB)) m4).mono ?_; rintro e' w2 ⟨v4, s4, rfl, H4, K4, hb2⟩; obtain ⟨p4, q4, rfl⟩ := sliceC H4; obtain ⟨hc2, hf2, hs2⟩ := bcell hb2; have hz20 : w.heap.size < w2.heap.size := (by have h9 := hb2.size; (try simp at h9); omega); have hz21 : w.heap.size + 1 < w2.heap.size := (by have h9 := hb2.size; (try simp at h9); omega); have hz22 : w.heap.size + 1 + 1 < w2.heap.size := (by have h9 := hb2.size; (try simp at h9); omega))
    | (go_at_call 27; refine (toCsO_one x.sfn x.at_ x.ssn a6 l6 c6 a7 l7 c7 _ (h6.below (belB)) (h7.below (belB)) m6 m7).mono ?_; rintro e' w3 ⟨v6, v7, s7, B4, rfl, hB4, H6, U6, H7, K7, hb3⟩; obtain ⟨p6, q6, rfl⟩ := sliceC H6; obtain ⟨p7, q7, rfl⟩ := sliceC H7; obtain ⟨hc3, hf3, hs3⟩ := bcell hb3; have hz30 : w.heap.size < w3.heap.size := (by have h9 := hb3.size; (try simp at h9); omega); have hz31 : w.heap.size + 1 < w3.heap.size := (by have h9 := hb3.size; (try simp at h9); omega); have hz32 : w.heap.size + 1 + 1 < w3.heap.size := (by have h9 := hb3.size; (try simp at h9); omega)))
  have z0 : w.heap.size + 3 ≤ w0.heap.size := by have h9 := hb0.size; (try simp at h9); omega
  have z1 : w0.heap.size ≤ w1.heap.size := by have h9 := hb1.size; (try simp at h9); omega
  have z2 : w1.heap.size ≤ w2.heap.size := by have h9 := hb2.size; (try simp at h9); omega
  have z3 : w2.heap.size ≤ w3.heap.size := by have h9 := hb3.size; (try simp at h9); omega
  have zB : w2.heap.size ≤ B4 := by (try simp at hB4); omega
  have G2 : Hid (w0.ownsRow (w.heap.size + 3) 3 1 (.slice p2 l2 q2) l2 (x.src.map fun z => .int .i64 z)) := hide (World.ownsRow.mono H2 (by simp <;> omega))
  have G3 : Hid (w1.ownsRow w0.heap.size 4 1 (.slice p3 l3 q3) l3 (x.tsk.map fun z => .bool z)) := hide (World.ownsRow.mono H3 (by simp <;> omega))
  have G4 : Hid (w2.ownsRow w1.heap.size 80 3 (.slice p4 s4.length q4) s4.length (flatSV s4)) := hide (World.ownsRow.mono H4 (by simp <;> omega))
  have C4 : Hid (CopS w2 w1.heap.size s4 x.sn) := hide (K4.base (by simp <;> omega))
  have G6 : Hid (w3.ownsRow w2.heap.size 3 1 (.slice p6 l6 q6) l6 (x.at_.map fun z => .int .i64 z)) := hide (World.ownsRow.mono H6 (by simp <;> omega))
  have G7 : Hid (w3.ownsRow B4 80 3 (.slice p7 s7.length q7) s7.length (flatSV s7)) := hide H7
  have C7 : Hid (CopS w3 B4 s7 x.ssn) := hide K7
  have US2 := hide (under_of (unhide G2) (Nat.le_refl _))
  have US3 := hide (under_of (unhide G3) (Nat.le_refl _))
  have US4 := hide (under_of (unhide G4) (Nat.le_refl _))
  have UT4 := hide (underS_of (unhide C4) (Nat.le_refl _))
  have HU6 := hide U6
  clear H2 H3 H4 K4 H6 H7 K7 U6
  refine bodyPost_ret (v := .agg #[.int .i64 x.n, .bool x.op, .slice p2 l2 q2, .slice p3 l3 q3, .slice p4 s4.length q4, .int .i64 x.sfn, .slice p6 l6 q6, .slice p7 s7.length q7]) (by simp (maxDischargeDepth := 9) [results, Tryz.results8, go_sem, *]) rfl ⟨_, _, _, _, _, s4, s7, rfl, CkOwn.dis (B1 := w0.heap.size) (B2 := w1.heap.size) (B3 := w2.heap.size) (B4 := B4) ⟨⟨by omega, z1, z2, zB⟩, ?_, unhide US2, ?_, unhide US3, ?_, ?_, unhide US4, unhide UT4, ?_, unhide HU6, ?_, ?_⟩, ?_⟩
  · rw [e2]
    refine World.ownsRow.mono (base := w.heap.size + 3) ?_ (by omega)
    repeat (first | (with_reducible exact unhide G2) | (with_reducible refine own_setC ?_ (by simp <;> omega)) | (with_reducible refine own_bel ?_ hb3) | (with_reducible refine own_bel ?_ hb2) | (with_reducible refine own_bel ?_ hb1))
  · rw [e3]
    repeat (first | (with_reducible exact unhide G3) | (with_reducible refine own_setC ?_ (by simp <;> omega)) | (with_reducible refine own_bel ?_ hb3) | (with_reducible refine own_bel ?_ hb2))
  · show World.ownsRow _ w1.heap.size 80 3 (.slice p4 s4.length q4) s4.length (flatSV s4)
    repeat (first | (with_reducible exact unhide G4) | (with_reducible refine own_setC ?_ (by simp <;> omega)) | (with_reducible refine own_bel ?_ hb3))
  · repeat (first | (with_reducible exact unhide C4) | (with_reducible refine CopS.setC ?_ (by simp <;> omega)) | (with_reducible refine CopS.below ?_ hb3))
  · rw [e6]
    repeat (first | (with_reducible exact unhide G6) | (with_reducible refine own_setC ?_ (by simp <;> omega)))
  · show World.ownsRow _ B4 80 3 (.slice p7 s7.length q7) s7.length (flatSV s7)
    repeat (first | (with_reducible exact unhide G7) | (with_reducible refine own_setC ?_ (by simp <;> omega)))
  · repeat (first | (with_reducible exact unhide C7) | (with_reducible refine CopS.setC ?_ (by simp <;> omega)))
  · exact (belB)
end Go.Proofs.YtbjhpiannjepkaaGreat
