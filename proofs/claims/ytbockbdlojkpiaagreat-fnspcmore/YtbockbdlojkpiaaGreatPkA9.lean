/- Laid together: texts that were built one by one. -/
import Derived.Test.YtbockbdlojkpiaaGreatPkA8
import Derived.Test.YtbockbdlojkpiaaGreatPkA3
import Derived.Test.YtbockbdlojkpiaaGreatTabFnd2
import Derived.Test.YtbockbdlojkpiaaGreatPkA6
import Derived.BigQuiet
/- Proved here, over lists alone: one record more is known where it lies. -/
namespace Go.Proofs.YtbockbdlojkpiaaGreat
open Go.RowKit
set_option linter.unusedVariables false
set_option linter.unusedSimpArgs false

theorem inner_more {prs new : List LpR} {k p : Int} (hn : ∀ y ∈ new, ¬ y.ke = k) : Inner (prs ++ new) k p ↔ Inner prs k p := by
  constructor
  · rintro ⟨x, hx, h1, h2⟩
    rcases List.mem_append.1 hx with h9 | h9
    · exact ⟨x, h9, h1, h2⟩
    · exact absurd h1 (hn x h9)
  · rintro ⟨x, hx, h1⟩
    exact ⟨x, List.mem_append_left _ hx, h1⟩
theorem ses_more {prs new : List LpR} {rows rows' : List TbR} (hw : ∀ x ∈ prs, x.st < x.en) (h : SesOk prs rows) (h' : SesOk (prs ++ new) rows') {r : TbR} (hr : r ∈ rows) (hn : ∀ y ∈ new, ¬ y.ke = r.ky) : r ∈ rows' := by
  obtain ⟨x, hx, hxr⟩ := h.has r hr
  obtain ⟨s, hs, hxs⟩ := h'.all x (List.mem_append_left _ hx)
  have w := hw x hx
  have i1 := inR_iff.1 hxr
  have i2 := inR_iff.1 hxs
  have e : r.ky = s.ky := i1.1.symm.trans i2.1
  have im : ∀ p, Inner (prs ++ new) r.ky p ↔ Inner prs r.ky p := fun p => inner_more hn
  have hlo := h'.lo s hs
  have hhi := h'.hi s hs
  have hinn := h'.inn s hs
  rw [← e] at hlo hhi hinn
  rw [im] at hlo hhi
  have a1 : ¬ (r.st < s.st) := fun q => hlo (h.inn r hr s.st q (by omega))
  have a2 : ¬ (s.st < r.st) := fun q => h.lo r hr ((im _).1 (hinn r.st q (by omega)))
  have a3 : ¬ (r.en < s.en) := fun q => h.hi r hr ((im _).1 (hinn r.en (by omega) q))
  have a4 : ¬ (s.en < r.en) := fun q => hhi (h.inn r hr s.en (by omega) q)
  have e1 : r.st = s.st := by omega
  have e2 : r.en = s.en := by omega
  have hnil : vin r new = [] := by
    unfold vin
    rw [List.map_eq_nil_iff, List.filter_eq_nil_iff]
    intro y hy hb
    exact hn y hy (inR_iff.1 hb).1
  have ev : vin r prs = vin s (prs ++ new) := by
    have e3 : vin r (prs ++ new) = vin s (prs ++ new) := by unfold vin inR; rw [e, e1, e2]
    rw [← e3, vin_app, hnil, List.append_nil]
  have g1 := h.agg r hr
  rw [ev] at g1
  have g2 := g1.uniq (h'.agg s hs)
  have er : r = s := by
    cases r
    cases s
    simp [agT] at e e1 e2 g2
    simp [e, e1, e2, g2]
  rw [er]
  exact hs
theorem wins_more {prs new : List LpR} {rows rows' : List TbR} (h : WinsOk prs rows) (h' : WinsOk (prs ++ new) rows') {r : TbR} (hr : r ∈ rows) (hn : ∀ y ∈ new, ¬ y.ke = r.ky) : r ∈ rows' := by
  obtain ⟨x, hx, ex⟩ := h.has r hr
  obtain ⟨s, hs, es⟩ := h'.all x (List.mem_append_left _ hx)
  have e : plT r = plT s := ex.symm.trans es
  have hnil : vat r new = [] := by
    unfold vat
    rw [List.map_eq_nil_iff, List.filter_eq_nil_iff]
    intro y hy hb
    simp [atR, plX, plT] at hb
    exact hn y hy hb.1
  have ev : vat r prs = vat s (prs ++ new) := by
    rw [← vat_pl e, vat_app, hnil, List.append_nil]
  have g1 := h.agg r hr
  rw [ev] at g1
  have g2 := g1.uniq (h'.agg s hs)
  have er : r = s := by
    cases r
    cases s
    simp [plT, agT] at e g2
    simp [e, g2]
  rw [er]
  exact hs
theorem found_at {rows : List TbR} (h : RiseT rows) {r : TbR} (hr : r ∈ rows) : findT r.ky r.st r.en rows = some r := by
  have h1 := val_some h hr
  unfold valT at h1
  have h2 : (plT r).1 = r.ky ∧ (plT r).2.1 = r.st ∧ (plT r).2.2 = r.en := ⟨rfl, rfl, rfl⟩
  rw [h2.1, h2.2.1, h2.2.2] at h1
  cases hf : findT r.ky r.st r.en rows with
  | none => rw [hf] at h1; cases h1
  | some s =>
    have hm : s ∈ rows := List.mem_of_find?_eq_some hf
    have hp : TbR.isB r.ky r.st r.en s = true := List.find?_some hf
    have e := (isB_iff (r.ky, r.st, r.en) s).1 hp
    rw [rise_mem_eq h hm hr e]
/-- What the law asks of one record more. -/
structure MoreQ (ke : Int) (wn : Nat) (np : Nat) (rows more : List TbR) : Prop where
  no : np = 0 → more.length = 0
  rws : ¬ np = 0 → ∀ r ∈ rows, ¬ r.ky = ke → foundV (findT r.ky r.st r.en more) = .tuple #[.agg #[.int .i64 r.n, .int .i64 r.su, .int .i64 r.le, .int .i64 r.mo], .bool true]
  cnt : ¬ np = 0 → ∃ c : Nat, c ≤ 7320 ∧ countT rows = (c : Int) ∧ countT more = ((c + wn : Nat) : Int)
theorem more_q (s t k z p l e v r : Int) (xs : List IwR) (x : IwR) (hT : 0 ≤ x.tm ∧ x.tm ≤ 60) : MoreQ x.ke (winsAll s t k z p l e v r x.tm).length (pairsT s t k z p l e v r (xs ++ [x])).length (tabP k (pairsT s t k z p l e v r xs)) (tabP k (pairsT s t k z p l e v r (xs ++ [x]))) := by
  have hwv := pairsT_wv s t k z p l e v r (xs ++ [x])
  have q1 := (pairs_q s t k z p l e v r xs).cnt
  have q2 := (pairs_q s t k z p l e v r (xs ++ [x])).cnt
  refine ⟨fun h0 => ?_, fun h0 => ?_, fun h0 => ?_⟩
  · rw [List.eq_nil_of_length_eq_zero h0]
    rfl
  all_goals
    have hc : (okJob s t k z p l e v r && recsB (xs ++ [x])) = true := by
      cases hb : (okJob s t k z p l e v r && recsB (xs ++ [x])) with
      | true => rfl
      | false => exact absurd (by unfold pairsT; rw [if_neg (by rw [hb]; simp)]; rfl) h0
    have hc' := hc
    simp only [Bool.and_eq_true] at hc'
    obtain ⟨hj, hx⟩ := hc'
    have hxs : recsB xs = true := by
      have h1 := recsB_iff hx
      rw [List.length_append, List.all_append] at h1
      simp only [Bool.and_eq_true] at h1
      exact recsB_ok (by omega) h1.2.1
    have hcs : (okJob s t k z p l e v r && recsB xs) = true := by rw [hj, hxs]; rfl
    have e1 : pairsT s t k z p l e v r (xs ++ [x]) = prsT k z p xs ++ prsOf k z p x := by
      unfold pairsT
      rw [if_pos hc]
      unfold prsT
      rw [List.flatMap_append]
      simp
    have e2 : pairsT s t k z p l e v r xs = prsT k z p xs := by
      unfold pairsT
      rw [if_pos hcs]
    have hl : (prsT k z p xs ++ prsOf k z p x).length ≤ 7320 := by rw [← e1]; exact pairsT_le _ _ _ _ _ _ _ _ _ _
    rw [e1] at hwv q2 ⊢
    rw [e2] at q1 ⊢
  · intro q hq hne
    have hnew : ∀ y ∈ prsOf k z p x, ¬ y.ke = q.ky := by
      intro y hy c
      unfold prsOf at hy
      obtain ⟨w9, _, rfl⟩ := List.mem_map.1 hy
      exact hne c.symm
    have hll : (prsT k z p xs).length ≤ 7320 := by rw [List.length_append] at hl; omega
    have hm : q ∈ tabP k (prsT k z p xs ++ prsOf k z p x) ∧ RiseT (tabP k (prsT k z p xs ++ prsOf k z p x)) := by
      by_cases hk : k = 3
      · subst hk
        have a := tabP3_ok _ (prsT 3 z p xs) rfl (by omega) (fun y hy => (hwv y (List.mem_append_left _ hy)).1) (fun y hy => (hwv y (List.mem_append_left _ hy)).2)
        have b := tabP3_ok _ (prsT 3 z p xs ++ prsOf 3 z p x) rfl (by omega) (fun y hy => (hwv y hy).1) (fun y hy => (hwv y hy).2)
        exact ⟨ses_more (fun y hy => (hwv y (List.mem_append_left _ hy)).1) a b hq hnew, b.rise⟩
      · have a := tabPn_ok hk _ (prsT k z p xs) rfl (by omega) (fun y hy => (hwv y (List.mem_append_left _ hy)).2)
        have b := tabPn_ok hk _ (prsT k z p xs ++ prsOf k z p x) rfl (by omega) (fun y hy => (hwv y hy).2)
        exact ⟨wins_more a b hq hnew, b.rise⟩
    rw [found_at hm.2 hm.1]
    rfl
  · refine ⟨(prsT k z p xs).length, by rw [List.length_append] at hl; omega, q1, ?_⟩
    rw [q2, List.length_append]
    have e3 : (winsAll s t k z p l e v r x.tm).length = (prsOf k z p x).length := by
      rw [winsAll_tt hj (inB_iff.2 hT)]
      unfold prsOf
      rw [List.length_map]
    rw [e3]
end Go.Proofs.YtbockbdlojkpiaaGreat
/- Proved here: the law that one record more is known where it lies returns true at every code. -/
namespace Go.Proofs.YtbockbdlojkpiaaGreat
open Go.ChangeShapes Go.WideShapes Go.ChangeAt Go.RowKit
set_option linter.unusedVariables false

set_option linter.unusedSimpArgs false
theorem count_is (a : Option Addr) (len cap : Nat) (xs : List TbR) (w : World) {n : Int} (h : TbRs w a len xs) (hn : Hid (countT xs = n)) : Calls Tryz.prog 11 #[.slice a len cap] w fun e w' => e = .returned (.int .i64 n) ∧ Below w.heap.size w w' := by
  have h9 := implcount_any a len cap xs w h
  rw [unhide hn] at h9
  exact h9
theorem pairs_is (s t k z q l e : Int) (b : Bool) (v r : Int) (a : Option Addr) (len cap : Nat) (xs : List IwR) (w : World) (PP : List LpR) (h : IwRs w a len xs) (hR : Hid (pairsT s t k z q l e v r xs = PP)) : Calls Tryz.prog 12 #[.agg #[.int .i64 s, .int .i64 t, .int .i64 k, .int .i64 z, .int .i64 q, .int .i64 l, .int .i64 e, .bool b, .int .i64 v, .int .i64 r], .slice a len cap] w fun e' w' => ∃ ar cr, e' = .returned (.slice ar PP.length cr) ∧ Below w.heap.size w w' := by
  refine (implpairs_any s t k z q l e b v r a len cap xs w h).mono ?_
  rw [unhide hR]
  rintro e' w' ⟨v', rfl, hO, hb⟩
  have hl : PP.length ≤ 1048576 := by rw [← unhide hR]; exact Nat.le_trans (pairsT_le _ _ _ _ _ _ _ _ _ _) (by omega)
  obtain ⟨ar, cr, rfl, H, _, _⟩ := holdLp hO hl
  exact ⟨ar, cr, rfl, hb⟩
theorem winof_is (s t k z q l e : Int) (b : Bool) (v r : Int) (T : Int) (w : World) {ws : List WnR} (h : Hid (winsAll s t k z q l e v r T = ws)) : Calls Tryz.prog 19 #[.agg #[.int .i64 s, .int .i64 t, .int .i64 k, .int .i64 z, .int .i64 q, .int .i64 l, .int .i64 e, .bool b, .int .i64 v, .int .i64 r], .int .i64 T] w fun e' w' => ∃ aw cw, e' = .returned (.slice aw ws.length cw) ∧ Below w.heap.size w w' := by
  refine (implwinof_any s t k z q l e b v r T w).mono ?_
  rw [unhide h]
  rintro e' w' ⟨v', rfl, hO, hb⟩
  have hl : ws.length ≤ 61 := by
    rw [← unhide h]
    unfold winsAll
    split
    · exact winsOf_len _ _ _ _
    · simp
  obtain ⟨aw, cw, rfl, _, _, _⟩ := holdWn hO (by omega)
  exact ⟨aw, cw, rfl, hb⟩
theorem pairs_n (s t k z q l e : Int) (b : Bool) (v r : Int) (a : Option Addr) (len cap : Nat) (xs : List IwR) (w : World) {np : Nat} (h : IwRs w a len xs) (hR : Hid ((pairsT s t k z q l e v r xs).length = np)) : Calls Tryz.prog 12 #[.agg #[.int .i64 s, .int .i64 t, .int .i64 k, .int .i64 z, .int .i64 q, .int .i64 l, .int .i64 e, .bool b, .int .i64 v, .int .i64 r], .slice a len cap] w fun e' w' => ∃ ar cr, e' = .returned (.slice ar np cr) ∧ Below w.heap.size w w' := by
  have h9 := pairs_is s t k z q l e b v r a len cap xs w _ h (hide rfl)
  rw [unhide hR] at h9
  exact h9
theorem find_is (a : Option Addr) (len cap : Nat) (xs : List TbR) (ky st en : Int) (w : World) {n s l m : Int} {b : Bool} (h : TbRs w a len xs) (hV : Hid (foundV (findT ky st en xs) = .tuple #[.agg #[.int .i64 n, .int .i64 s, .int .i64 l, .int .i64 m], .bool b])) : Calls Tryz.prog 18 #[.slice a len cap, .int .i64 ky, .agg #[.int .i64 st, .int .i64 en]] w fun e w' => e = .returned (.tuple #[.agg #[.int .i64 n, .int .i64 s, .int .i64 l, .int .i64 m], .bool b]) ∧ Below w.heap.size w w' := by
  have h9 := implfind_any a len cap xs ky st en w h
  rw [unhide hV] at h9
  exact h9
theorem rem_c (a : Nat) (c : Nat) (hc : 0 < c) : ∃ m : Nat, m < c ∧ Int.tmod (a : Int) (c : Int) = (m : Int) := by
  refine ⟨a % c, Nat.mod_lt _ hc, ?_⟩
  rw [Int.tmod_eq_emod_of_nonneg (Int.natCast_nonneg a)]
  exact (Int.natCast_emod a c).symm
theorem litT' {B : Nat} (W : World) (h : B ≤ W.heap.size) {g : Nat} (hg : g = W.heap.size) : (W.alloc (.cells #[] 41)).ownsRow B 41 5 (.slice (some ⟨g, 0, none⟩) 0 0) 0 [] := by
  subst hg
  exact litT h (by simp)
theorem own1 {xT xK xV : Int} (W : World) : IwRs (W.alloc (.cells #[.int .i64 1, .int .i64 xT, .int .i64 xK, .int .i64 xV, .int .i64 0] 41)) (some ⟨W.heap.size, 0, none⟩) 1 [(⟨1, xT, xK, xV, 0⟩ : IwR)] := by
  refine ⟨rfl, by unfold maxLen; omega, Or.inr ⟨_, _, rfl, ?_⟩⟩
  intro k x hx
  cases k with
  | zero =>
    simp at hx
    subst hx
    refine ⟨?_, ?_, ?_, ?_, ?_⟩ <;> simp [go_sem]
  | succ k => simp at hx
theorem own1' {xT xK xV : Int} (W : World) {g : Nat} (hg : g = W.heap.size) : IwRs (W.alloc (.cells #[.int .i64 1, .int .i64 xT, .int .i64 xK, .int .i64 xV, .int .i64 0] 41)) (some ⟨g, 0, none⟩) 1 [(⟨1, xT, xK, xV, 0⟩ : IwR)] := by
  subst hg
  exact own1 W

set_option maxRecDepth 40000 in
set_option maxHeartbeats 8000000 in
theorem lawSpcMoreP (a : Option Addr) (len cap : Nat) (w : World) (hlc : len ≤ cap) (hm : len ≤ maxLen) (hb : BytesAt w a len) (hl : ∀ g o, a = some ⟨g, o, none⟩ → 0 < len → g < w.heap.size) (hn : a = none → cap = 0) : Calls Tryz.prog 6 #[.slice a len cap] w fun e w' => e = .returned (.bool true) ∧ Below w.heap.size w w' := by
  unfold maxLen at hm
  by_cases hlen : (len : Int) ≤ 1048576
  · obtain ⟨i0, hi, hz0, hz1, hz2⟩ := info_parts Tryz.infoIw
    have hd := hide (drawtab_any a len cap w hlc (by omega) hb hl hn)
    clear hb hl hn
    go_enter Tryz.func6, Tryz.ntmps6
    go_wp2_with fail
    refine (unhide hd).mono ?_
    rintro e' w1 ⟨s, t, k, z, q, l, e, b, v, r, u, xs, rfl, hO, hnn, hxl, hb1⟩
    obtain ⟨g0, o0, cr, rfl, hcr, HX0⟩ := some_sl hO hnn (by omega)
    clear hd hO hnn
    obtain ⟨RR, hRR⟩ : ∃ RR, tabP k (pairsT s t k z q l e v r xs) = RR := ⟨_, rfl⟩
    have hRl : RR.length ≤ 7320 := by rw [← hRR]; exact Nat.le_trans (tabP_len _ _) (pairsT_le _ _ _ _ _ _ _ _ _ _)
    have HR := hide hRR
    have hbJ : Below w1.heap.size w1 (w1.alloc (.cells #[.int .i64 s, .int .i64 t, .int .i64 k, .int .i64 z, .int .i64 q, .int .i64 l, .int .i64 e, .bool b, .int .i64 v, .int .i64 r] 24)) := bel_one _ _
    have HXj := hide (HX0.below hbJ)
    clear hRR HX0
    go_wp2_with fail
    refine (tabI_is s t k z q l e b v r _ _ _ xs _ RR (unhide HXj) HR).mono ?_
    rintro e' w2 ⟨ar, car, rfl, hT2, hb2⟩
    have HA := hide hT2
    have HX := hide ((unhide HXj).below hb2)
    have zJ : w1.heap.size < w2.heap.size := by have := hb2.size; simp at this; omega
    have bJ : w2.heap[w1.heap.size]? = some (.cells #[.int .i64 s, .int .i64 t, .int .i64 k, .int .i64 z, .int .i64 q, .int .i64 l, .int .i64 e, .bool b, .int .i64 v, .int .i64 r] 24 (0, 0)) := (hb2.block w1.heap.size (by simp)).trans (World.alloc_heap_new w1 _)
    have hbA2 : Below w.heap.size w w2 := bel_trans (bel_alloc hb1 _) hb2
    have j0 := Joins.cell_of_block bJ 0
    have j1 := Joins.cell_of_block bJ 1
    have j2 := Joins.cell_of_block bJ 2
    have j3 := Joins.cell_of_block bJ 3
    have j4 := Joins.cell_of_block bJ 4
    have j5 := Joins.cell_of_block bJ 5
    have j6 := Joins.cell_of_block bJ 6
    have j7 := Joins.cell_of_block bJ 7
    have j8 := Joins.cell_of_block bJ 8
    have j9 := Joins.cell_of_block bJ 9
    simp only [List.getElem?_toArray, List.getElem?_cons_zero, List.getElem?_cons_succ] at j0 j1 j2 j3 j4 j5 j6 j7 j8 j9
    clear hT2 HXj hbJ hb1 hb2
    go_wp2_with fail
    clear j0 j1 j2 j3 j4 j5 j6 j7 j8 j9
    refine (tabS_is s t k z q l e b v r _ _ _ xs _ RR (unhide HX) HR).mono ?_
    rintro e' w3 ⟨d3, cd3, rfl, hT3, hb3⟩
    have HT3 := hide hT3
    have HX3 := hide ((unhide HX).below hb3)
    have HA3 := hide ((unhide HA).below hb3)
    clear hT3
    go_wp2_with fail
    refine (frtab_o _ _ _ _ _ RR _ (unhide HA3) (unhide HT3)).mono ?_
    rintro e' w4 ⟨rfl, hb4⟩
    have HX4 := hide ((unhide HX3).below hb4)
    have HA4 := hide ((unhide HA3).below hb4)
    have hbA4 : Below w.heap.size w w4 := bel_trans (bel_trans hbA2 hb3) hb4
    have z4 : w1.heap.size < w4.heap.size := by have := hb3.size; have := hb4.size; omega
    have bJ4 := (hb4.block w1.heap.size (by have := hb3.size; omega)).trans ((hb3.block w1.heap.size zJ).trans bJ)
    clear HT3 HX HX3 HA HA3 hb3 hb4 hbA2 bJ zJ
    obtain ⟨Tn, hTn, hT⟩ := rem_c len 61 (by omega)
    obtain ⟨Kn, hKn, hK⟩ := rem_c len 3 (by omega)
    obtain ⟨Vn, hVn, hV⟩ := rem_c len 10 (by omega)
    obtain ⟨xT, hTT⟩ : ∃ xT : Int, (Tn : Int) = xT := ⟨_, rfl⟩
    obtain ⟨xK, hKK⟩ : ∃ xK : Int, (Kn : Int) = xK := ⟨_, rfl⟩
    obtain ⟨xV, hVV⟩ : ∃ xV : Int, (Vn : Int) = xV := ⟨_, rfl⟩
    have bT : 0 ≤ xT ∧ xT ≤ 60 := by omega
    have bK : 0 ≤ xK ∧ xK ≤ 2 := by omega
    have bV : 0 ≤ xV ∧ xV ≤ 9 := by omega
    rw [hTT] at hT
    rw [hKK] at hK
    rw [hVV] at hV
    (try dsimp only at hT hK hV)
    have hwT : IntKind.i64.wrap xT = xT := IntWalk.i64_in _ ⟨by omega, by omega⟩
    have hwK : IntKind.i64.wrap xK = xK := IntWalk.i64_in _ ⟨by omega, by omega⟩
    have hwV : IntKind.i64.wrap xV = xV := IntWalk.i64_in _ ⟨by omega, by omega⟩
    have hT' : Int.tmod (len : Int) 61 = xT := hT
    have hK' : Int.tmod (len : Int) 3 = xK := hK
    have hV' : Int.tmod (len : Int) 10 = xV := hV
    clear hTn hKn hVn hTT hKK hVV hT hK hV
    go_wp2_with fail
    clear hT' hK' hV' hwT hwK hwV
    obtain ⟨ys, hys⟩ : ∃ ys, xs ++ [(⟨1, xT, xK, xV, 0⟩ : IwR)] = ys := ⟨_, rfl⟩
    have Hys := hide hys
    have hyl : ys.length ≤ 1048576 := by rw [← hys, List.length_append]; simp; omega
    obtain ⟨np, hPP⟩ : ∃ np, (pairsT s t k z q l e v r ys).length = np := ⟨_, rfl⟩
    obtain ⟨MM, hMM⟩ : ∃ MM, tabP k (pairsT s t k z q l e v r ys) = MM := ⟨_, rfl⟩
    obtain ⟨ws, hws⟩ : ∃ ws, winsAll s t k z q l e v r xT = ws := ⟨_, rfl⟩
    have hQ0 := more_q s t k z q l e v r xs (⟨1, xT, xK, xV, 0⟩ : IwR) bT
    dsimp only at hQ0
    rw [unhide HR, hys, hMM, hPP, hws] at hQ0
    clear hys
    have hMl : MM.length ≤ 7320 := by rw [← hMM]; exact Nat.le_trans (tabP_len _ _) (pairsT_le _ _ _ _ _ _ _ _ _ _)
    have hPl : np ≤ 7320 := by rw [← hPP]; exact pairsT_le _ _ _ _ _ _ _ _ _ _
    have HQ := hide hQ0
    have HP := hide hPP
    have HM := hide hMM
    have HW := hide hws
    have hbf : Below w4.heap.size w4 (w4.alloc (.cells #[.int .i64 1, .int .i64 xT, .int .i64 xK, .int .i64 xV, .int .i64 0] 41)) := bel_one _ _
    have bXf : (w4.alloc (.cells #[.int .i64 1, .int .i64 xT, .int .i64 xK, .int .i64 xV, .int .i64 0] 41)).heap[w4.heap.size]? = some (.cells #[.int .i64 1, .int .i64 xT, .int .i64 xK, .int .i64 xV, .int .i64 0] 41 (0, 0)) := World.alloc_heap_new w4 _
    have zf : w4.heap.size < (w4.alloc (.cells #[.int .i64 1, .int .i64 xT, .int .i64 xK, .int .i64 xV, .int .i64 0] 41)).heap.size := by simp
    obtain ⟨gx, hgx⟩ : ∃ gx, w4.heap.size = gx := ⟨_, rfl⟩
    generalize hwf : w4.alloc (.cells #[.int .i64 1, .int .i64 xT, .int .i64 xK, .int .i64 xV, .int .i64 0] 41) = wf at hbf bXf zf ⊢
    rw [hgx] at bXf zf
    rw [hgx]
    have HXf := hide ((unhide HX4).below hbf)
    have HAf := hide ((unhide HA4).below hbf)
    have bJf := (hbf.block w1.heap.size z4).trans bJ4
    have hbAf : Below w.heap.size w wf := bel_trans hbA4 hbf
    have zJ : w1.heap.size < wf.heap.size := Nat.lt_of_lt_of_le z4 hbf.size
    have zX : gx < wf.heap.size := zf
    have hg0 : xs.length = 0 ∨ g0 < wf.heap.size := by
      rcases Nat.eq_zero_or_pos xs.length with h9 | h9
      · exact .inl h9
      · exact .inr ((unhide HXf).lt h9)
    have j0 := Joins.cell_of_block bJf 0
    have j1 := Joins.cell_of_block bJf 1
    have j2 := Joins.cell_of_block bJf 2
    have j3 := Joins.cell_of_block bJf 3
    have j4 := Joins.cell_of_block bJf 4
    have j5 := Joins.cell_of_block bJf 5
    have j6 := Joins.cell_of_block bJf 6
    have j7 := Joins.cell_of_block bJf 7
    have j8 := Joins.cell_of_block bJf 8
    have j9 := Joins.cell_of_block bJf 9
    have x0 := Joins.cell_of_block bXf 0
    have x1 := Joins.cell_of_block bXf 1
    have x2 := Joins.cell_of_block bXf 2
    have x3 := Joins.cell_of_block bXf 3
    have x4 := Joins.cell_of_block bXf 4
    simp only [List.getElem?_toArray, List.getElem?_cons_zero, List.getElem?_cons_succ] at j0 j1 j2 j3 j4 j5 j6 j7 j8 j9 x0 x1 x2 x3 x4
    clear hPP hMM hws hQ0 hwf hgx hbf zf HX4 HA4 bJ4 hbA4 z4 HR
    go_cut [7] (fun mv W => ∃ am cm, mv = .slice am MM.length cm ∧ TbRs W am MM.length MM ∧ Below wf.heap.size wf W)
    case first =>
        refine wp_region_held_drew (S := (fun W => Below wf.heap.size wf W)) (by kernel_rfl) ?_ (fun hHeld => ?_)
        · exact (bel_drew (Below.refl _ _))
        refine wpAnyH_take (i := 0) (v := ?_) (by simp only [List.getElem?_toArray, List.getElem?_cons_zero, List.getElem?_cons_succ]; rfl) (by kernel_rfl) (by kernel_rfl) (by kernel_rfl) (by intro _ _ _ h; exact h) (Or.inl ⟨by rfl, ?_⟩) (by assumption) ?_
        rotate_left
        · (intro w9 hSw; (try dsimp only at hSw); have y0 := (hSw.cell (p := ⟨w1.heap.size, 0, none⟩) zJ).trans j0; have y1 := (hSw.cell (p := ⟨w1.heap.size, 1, none⟩) zJ).trans j1; have y2 := (hSw.cell (p := ⟨w1.heap.size, 2, none⟩) zJ).trans j2; have y3 := (hSw.cell (p := ⟨w1.heap.size, 3, none⟩) zJ).trans j3; have y4 := (hSw.cell (p := ⟨w1.heap.size, 4, none⟩) zJ).trans j4; have y5 := (hSw.cell (p := ⟨w1.heap.size, 5, none⟩) zJ).trans j5; have y6 := (hSw.cell (p := ⟨w1.heap.size, 6, none⟩) zJ).trans j6; have y7 := (hSw.cell (p := ⟨w1.heap.size, 7, none⟩) zJ).trans j7; have y8 := (hSw.cell (p := ⟨w1.heap.size, 8, none⟩) zJ).trans j8; have y9 := (hSw.cell (p := ⟨w1.heap.size, 9, none⟩) zJ).trans j9; go_simp <;> with_reducible rfl)
        try simp only [Act.put, List.setIfInBounds_toArray, List.set_cons_zero, List.set_cons_succ]
        refine wpAnyH_take (i := 2) (v := ?_) (by simp only [List.getElem?_toArray, List.getElem?_cons_zero, List.getElem?_cons_succ]; rfl) (by kernel_rfl) (by kernel_rfl) (by kernel_rfl) (by intro _ _ _ h; exact h) (Or.inl ⟨by rfl, ?_⟩) (by assumption) ?_
        rotate_left
        · (intro w9 hSw; (try dsimp only at hSw); go_simp <;> with_reducible rfl)
        try simp only [Act.put, List.setIfInBounds_toArray, List.set_cons_zero, List.set_cons_succ]
        refine wpAnyH_take (i := 4) (v := ?_) (by simp only [List.getElem?_toArray, List.getElem?_cons_zero, List.getElem?_cons_succ]; rfl) (by kernel_rfl) (by kernel_rfl) (by kernel_rfl) (by intro _ _ _ h; exact h) (Or.inl ⟨by rfl, ?_⟩) (by assumption) ?_
        rotate_left
        · (intro w9 hSw; (try dsimp only at hSw); have y0 := (hSw.cell (p := ⟨gx, 0, none⟩) zX).trans x0; have y1 := (hSw.cell (p := ⟨gx, 1, none⟩) zX).trans x1; have y2 := (hSw.cell (p := ⟨gx, 2, none⟩) zX).trans x2; have y3 := (hSw.cell (p := ⟨gx, 3, none⟩) zX).trans x3; have y4 := (hSw.cell (p := ⟨gx, 4, none⟩) zX).trans x4; go_simp <;> with_reducible rfl)
        try simp only [Act.put, List.setIfInBounds_toArray, List.set_cons_zero, List.set_cons_succ]
        refine wpAnyH_ready (rs := [1, 5]) (by kernel_rfl) (by simp) ?_
        refine AllReadyH.cons (by simp only [List.getElem?_toArray, List.getElem?_cons_zero, List.getElem?_cons_succ]; rfl) (fun K hK => ?_) (AllReadyH.cons (by simp only [List.getElem?_toArray, List.getElem?_cons_zero, List.getElem?_cons_succ]; rfl) (fun K hK => ?_) AllReadyH.nil)
        · go_simp
          refine hK.out _ _ ?_ (fun hHeld2 => ?_)
          · (try dsimp only); exact bel_alloc (bel_drew (Below.refl _ _)) (.cells #[] 41)
          clear hK K hHeld
          have hHeld := hHeld2
          clear hHeld2
          try simp only [Act.put, List.setIfInBounds_toArray, List.set_cons_zero, List.set_cons_succ]
          refine wpAnyH_ready (rs := [3, 5]) (by kernel_rfl) (by simp) ?_
          refine AllReadyH.cons (by simp only [List.getElem?_toArray, List.getElem?_cons_zero, List.getElem?_cons_succ]; rfl) (fun K hK => ?_) (AllReadyH.cons (by simp only [List.getElem?_toArray, List.getElem?_cons_zero, List.getElem?_cons_succ]; rfl) (fun K hK => ?_) AllReadyH.nil)
          · skip
            refine step_append_at rfl _ _ 25 rfl wf.heap.size 41 i0 _ 5 40 Tryz.underlying25 hi hz0 hz1 hz2 rfl (by decide) (.slice (some ⟨wf.heap.size, 0, none⟩) 0 0) 0 [] rfl (litT (W := wf.drew) (by first | (simp; done) | (simp; omega)) (by simp)) ⟨g0, o0, none⟩ xs.length cr (flatIw xs) rfl (by rw [flatIw_len]) (newsIw ((unhide HXf).below (bel_alloc (bel_drew (Below.refl _ _)) (.cells #[] 41)))) (flatIw_one _) (by unfold maxLen; omega) (by omega) (by first | (simp; done) | (simp; omega)) ?_
            intro v8 w8 hown8 hgrow8 _
            have hb8 : Below wf.heap.size wf w8 := (bel_alloc (bel_drew (Below.refl _ _)) (.cells #[] 41)).grown hgrow8 (by first | (simp; done) | (simp; omega)) (fun k9 hk => by simp [Value.ownBlock] at hk; omega)
            refine hK.out _ _ ?_ (fun hHeld2 => ?_)
            · (try dsimp only); exact hb8
            clear hK K hHeld
            have hHeld := hHeld2
            clear hHeld2
            try simp only [Act.put, List.setIfInBounds_toArray, List.set_cons_zero, List.set_cons_succ]
            refine wpAnyH_ready (rs := [5]) (by kernel_rfl) (by simp) ?_
            refine AllReadyH.cons (by simp only [List.getElem?_toArray, List.getElem?_cons_zero, List.getElem?_cons_succ]; rfl) (fun K hK => ?_) AllReadyH.nil
            go_simp
            have hb8x : Below wf.heap.size wf (w8.alloc (.cells #[.int .i64 1, .int .i64 xT, .int .i64 xK, .int .i64 xV, .int .i64 0] 41)) := bel_alloc hb8 _
            refine hK.out _ _ ?_ (fun hHeld2 => ?_)
            · (try dsimp only); exact hb8x
            clear hK K hHeld
            have hHeld := hHeld2
            clear hHeld2
            try simp only [Act.put, List.setIfInBounds_toArray, List.set_cons_zero, List.set_cons_succ]
            have hown8x := World.ownsRow.alloc hown8 (.cells #[.int .i64 1, .int .i64 xT, .int .i64 xK, .int .i64 xV, .int .i64 0] 41)
            refine wpAnyH_ready (rs := [6]) (by kernel_rfl) (by simp) ?_
            refine AllReadyH.cons (by simp only [List.getElem?_toArray, List.getElem?_cons_zero, List.getElem?_cons_succ]; rfl) (fun K hK => ?_) AllReadyH.nil
            refine step_append_at rfl _ _ 25 rfl wf.heap.size 41 i0 _ 5 40 Tryz.underlying25 hi hz0 hz1 hz2 rfl (by decide) v8 (0 + xs.length) ([] ++ flatIw xs) rfl hown8x ⟨w8.heap.size, 0, none⟩ 1 1 (flatIw [(⟨1, xT, xK, xV, 0⟩ : IwR)]) rfl (by rw [flatIw_len]; rfl) (newsIw (own1 w8)) (flatIw_one _) (by unfold maxLen; omega) (by omega) (by have := hb8.size; simp; omega) ?_
            intro v9 wq hown9 hgrow9 _
            have hb9 : Below wf.heap.size wf wq := hb8x.grown hgrow9 hb8x.size (own_geW hown8x)
            refine hK.out _ _ ?_ (fun hHeld2 => ?_)
            · (try dsimp only); exact hb9
            clear hK K hHeld
            have hHeld := hHeld2
            clear hHeld2
            try simp only [Act.put, List.setIfInBounds_toArray, List.set_cons_zero, List.set_cons_succ]
            have hO9 : OwnIw wq wf.heap.size v9 ys := by
              have h9 := hown9
              rw [List.nil_append, ← flatIw_app] at h9
              have e9 : (xs ++ [(⟨1, xT, xK, xV, 0⟩ : IwR)]).length = 0 + xs.length + 1 := by rw [List.length_append]; simp
              unfold OwnIw
              rw [← unhide Hys, e9]
              exact h9
            obtain ⟨av, cv, rfl, HV0, _, _⟩ := holdIw hO9 hyl
            have HV := hide HV0
            clear hown8 hown9 hgrow8 hgrow9 hO9 HV0
            refine wpAnyH_ready (rs := [7]) (by kernel_rfl) (by simp) ?_
            refine AllReadyH.cons (by simp only [List.getElem?_toArray, List.getElem?_cons_zero, List.getElem?_cons_succ]; rfl) (fun K hK => ?_) AllReadyH.nil
            go_simp
            (go_at_call 8; refine (tabI_is s t k z q l e b v r _ _ _ _ _ MM (unhide HV) HM).mono ?_; rintro e9 wv ⟨am, cm, rfl, hTM, hbwv⟩)
            (try go_wp2_with fail)
            refine hK.out _ _ ?_ (fun hHeld2 => ?_)
            · (try dsimp only); exact bel_trans hb9 hbwv
            clear hK K hHeld
            have hHeld := hHeld2
            clear hHeld2
            try simp only [Act.put, List.setIfInBounds_toArray, List.set_cons_zero, List.set_cons_succ]
            refine wpAnyH_take (i := 8) (v := ?_) (by simp only [List.getElem?_toArray, List.getElem?_cons_zero, List.getElem?_cons_succ]; rfl) (by kernel_rfl) (by kernel_rfl) (by kernel_rfl) (by intro _ _ _ h; exact h) (Or.inl ⟨by rfl, ?_⟩) (by assumption) ?_
            rotate_left
            · (intro w9 hSw; (try dsimp only at hSw); go_simp <;> with_reducible rfl)
            try simp only [Act.put, List.setIfInBounds_toArray, List.set_cons_zero, List.set_cons_succ]
            refine wpAnyH_done (by kernel_rfl) ?_ _
            go_wp2
            go_meet
            exact ⟨am, cm, rfl, hTM, bel_trans hb9 hbwv⟩
          · go_simp
            refine hK.out _ _ ?_ (fun hHeld2 => ?_)
            · (try dsimp only); exact bel_alloc (bel_alloc (bel_drew (Below.refl _ _)) (.cells #[] 41)) (.cells #[.int .i64 1, .int .i64 xT, .int .i64 xK, .int .i64 xV, .int .i64 0] 41)
            clear hK K hHeld
            have hHeld := hHeld2
            clear hHeld2
            try simp only [Act.put, List.setIfInBounds_toArray, List.set_cons_zero, List.set_cons_succ]
            refine wpAnyH_ready (rs := [3]) (by kernel_rfl) (by simp) ?_
            refine AllReadyH.cons (by simp only [List.getElem?_toArray, List.getElem?_cons_zero, List.getElem?_cons_succ]; rfl) (fun K hK => ?_) AllReadyH.nil
            refine step_append_at rfl _ _ 25 rfl wf.heap.size 41 i0 _ 5 40 Tryz.underlying25 hi hz0 hz1 hz2 rfl (by decide) (.slice (some ⟨wf.heap.size, 0, none⟩) 0 0) 0 [] rfl (World.ownsRow.alloc (litT (W := wf.drew) (by first | (simp; done) | (simp; omega)) (by simp)) _) ⟨g0, o0, none⟩ xs.length cr (flatIw xs) rfl (by rw [flatIw_len]) (newsIw ((unhide HXf).below (bel_alloc (bel_alloc (bel_drew (Below.refl _ _)) (.cells #[] 41)) (.cells #[.int .i64 1, .int .i64 xT, .int .i64 xK, .int .i64 xV, .int .i64 0] 41)))) (flatIw_one _) (by unfold maxLen; omega) (by omega) (by first | (simp; done) | (simp; omega)) ?_
            intro v8 w8 hown8 hgrow8 _
            have hb8 : Below wf.heap.size wf w8 := (bel_alloc (bel_alloc (bel_drew (Below.refl _ _)) (.cells #[] 41)) (.cells #[.int .i64 1, .int .i64 xT, .int .i64 xK, .int .i64 xV, .int .i64 0] 41)).grown hgrow8 (by first | (simp; done) | (simp; omega)) (fun k9 hk => by simp [Value.ownBlock] at hk; omega)
            refine hK.out _ _ ?_ (fun hHeld2 => ?_)
            · (try dsimp only); exact hb8
            clear hK K hHeld
            have hHeld := hHeld2
            clear hHeld2
            try simp only [Act.put, List.setIfInBounds_toArray, List.set_cons_zero, List.set_cons_succ]
            have hb8x := hb8
            have HXx : IwRs w8 (some ⟨wf.heap.size + 1, 0, none⟩) 1 [(⟨1, xT, xK, xV, 0⟩ : IwR)] := (own1' (wf.drew.alloc (.cells #[] 41)) (by simp)).grown hgrow8 (fun g9 o9 hp9 e9 e8 => by cases e9; simp [Value.ownBlock] at e8)
            refine wpAnyH_ready (rs := [6]) (by kernel_rfl) (by simp) ?_
            refine AllReadyH.cons (by simp only [List.getElem?_toArray, List.getElem?_cons_zero, List.getElem?_cons_succ]; rfl) (fun K hK => ?_) AllReadyH.nil
            refine step_append_at rfl _ _ 25 rfl wf.heap.size 41 i0 _ 5 40 Tryz.underlying25 hi hz0 hz1 hz2 rfl (by decide) v8 (0 + xs.length) ([] ++ flatIw xs) rfl hown8 ⟨wf.heap.size + 1, 0, none⟩ 1 1 (flatIw [(⟨1, xT, xK, xV, 0⟩ : IwR)]) rfl (by rw [flatIw_len]; rfl) (newsIw HXx) (flatIw_one _) (by unfold maxLen; omega) (by omega) hb8.size ?_
            intro v9 wq hown9 hgrow9 _
            have hb9 : Below wf.heap.size wf wq := hb8x.grown hgrow9 hb8x.size (own_geW hown8)
            refine hK.out _ _ ?_ (fun hHeld2 => ?_)
            · (try dsimp only); exact hb9
            clear hK K hHeld
            have hHeld := hHeld2
            clear hHeld2
            try simp only [Act.put, List.setIfInBounds_toArray, List.set_cons_zero, List.set_cons_succ]
            have hO9 : OwnIw wq wf.heap.size v9 ys := by
              have h9 := hown9
              rw [List.nil_append, ← flatIw_app] at h9
              have e9 : (xs ++ [(⟨1, xT, xK, xV, 0⟩ : IwR)]).length = 0 + xs.length + 1 := by rw [List.length_append]; simp
              unfold OwnIw
              rw [← unhide Hys, e9]
              exact h9
            obtain ⟨av, cv, rfl, HV0, _, _⟩ := holdIw hO9 hyl
            have HV := hide HV0
            clear hown8 hown9 hgrow8 hgrow9 hO9 HV0
            refine wpAnyH_ready (rs := [7]) (by kernel_rfl) (by simp) ?_
            refine AllReadyH.cons (by simp only [List.getElem?_toArray, List.getElem?_cons_zero, List.getElem?_cons_succ]; rfl) (fun K hK => ?_) AllReadyH.nil
            go_simp
            (go_at_call 8; refine (tabI_is s t k z q l e b v r _ _ _ _ _ MM (unhide HV) HM).mono ?_; rintro e9 wv ⟨am, cm, rfl, hTM, hbwv⟩)
            (try go_wp2_with fail)
            refine hK.out _ _ ?_ (fun hHeld2 => ?_)
            · (try dsimp only); exact bel_trans hb9 hbwv
            clear hK K hHeld
            have hHeld := hHeld2
            clear hHeld2
            try simp only [Act.put, List.setIfInBounds_toArray, List.set_cons_zero, List.set_cons_succ]
            refine wpAnyH_take (i := 8) (v := ?_) (by simp only [List.getElem?_toArray, List.getElem?_cons_zero, List.getElem?_cons_succ]; rfl) (by kernel_rfl) (by kernel_rfl) (by kernel_rfl) (by intro _ _ _ h; exact h) (Or.inl ⟨by rfl, ?_⟩) (by assumption) ?_
            rotate_left
            · (intro w9 hSw; (try dsimp only at hSw); go_simp <;> with_reducible rfl)
            try simp only [Act.put, List.setIfInBounds_toArray, List.set_cons_zero, List.set_cons_succ]
            refine wpAnyH_done (by kernel_rfl) ?_ _
            go_wp2
            go_meet
            exact ⟨am, cm, rfl, hTM, bel_trans hb9 hbwv⟩
        · go_simp
          refine hK.out _ _ ?_ (fun hHeld2 => ?_)
          · (try dsimp only); exact bel_alloc (bel_drew (Below.refl _ _)) (.cells #[.int .i64 1, .int .i64 xT, .int .i64 xK, .int .i64 xV, .int .i64 0] 41)
          clear hK K hHeld
          have hHeld := hHeld2
          clear hHeld2
          try simp only [Act.put, List.setIfInBounds_toArray, List.set_cons_zero, List.set_cons_succ]
          refine wpAnyH_ready (rs := [1]) (by kernel_rfl) (by simp) ?_
          refine AllReadyH.cons (by simp only [List.getElem?_toArray, List.getElem?_cons_zero, List.getElem?_cons_succ]; rfl) (fun K hK => ?_) AllReadyH.nil
          go_simp
          refine hK.out _ _ ?_ (fun hHeld2 => ?_)
          · (try dsimp only); exact bel_alloc (bel_alloc (bel_drew (Below.refl _ _)) (.cells #[.int .i64 1, .int .i64 xT, .int .i64 xK, .int .i64 xV, .int .i64 0] 41)) (.cells #[] 41)
          clear hK K hHeld
          have hHeld := hHeld2
          clear hHeld2
          try simp only [Act.put, List.setIfInBounds_toArray, List.set_cons_zero, List.set_cons_succ]
          refine wpAnyH_ready (rs := [3]) (by kernel_rfl) (by simp) ?_
          refine AllReadyH.cons (by simp only [List.getElem?_toArray, List.getElem?_cons_zero, List.getElem?_cons_succ]; rfl) (fun K hK => ?_) AllReadyH.nil
          refine step_append_at rfl _ _ 25 rfl wf.heap.size 41 i0 _ 5 40 Tryz.underlying25 hi hz0 hz1 hz2 rfl (by decide) (.slice (some ⟨wf.heap.size + 1, 0, none⟩) 0 0) 0 [] rfl (litT' (wf.drew.alloc (.cells #[.int .i64 1, .int .i64 xT, .int .i64 xK, .int .i64 xV, .int .i64 0] 41)) (by simp) (by simp)) ⟨g0, o0, none⟩ xs.length cr (flatIw xs) rfl (by rw [flatIw_len]) (newsIw ((unhide HXf).below (bel_alloc (bel_alloc (bel_drew (Below.refl _ _)) (.cells #[.int .i64 1, .int .i64 xT, .int .i64 xK, .int .i64 xV, .int .i64 0] 41)) (.cells #[] 41)))) (flatIw_one _) (by unfold maxLen; omega) (by omega) (by first | (simp; done) | (simp; omega)) ?_
          intro v8 w8 hown8 hgrow8 _
          have hb8 : Below wf.heap.size wf w8 := (bel_alloc (bel_alloc (bel_drew (Below.refl _ _)) (.cells #[.int .i64 1, .int .i64 xT, .int .i64 xK, .int .i64 xV, .int .i64 0] 41)) (.cells #[] 41)).grown hgrow8 (by first | (simp; done) | (simp; omega)) (fun k9 hk => by simp [Value.ownBlock] at hk; omega)
          refine hK.out _ _ ?_ (fun hHeld2 => ?_)
          · (try dsimp only); exact hb8
          clear hK K hHeld
          have hHeld := hHeld2
          clear hHeld2
          try simp only [Act.put, List.setIfInBounds_toArray, List.set_cons_zero, List.set_cons_succ]
          have hb8x := hb8
          have HXx : IwRs w8 (some ⟨wf.heap.size, 0, none⟩) 1 [(⟨1, xT, xK, xV, 0⟩ : IwR)] := ((own1' wf.drew rfl).below (bel_one _ _)).grown hgrow8 (fun g9 o9 hp9 e9 e8 => by cases e9; simp [Value.ownBlock] at e8)
          refine wpAnyH_ready (rs := [6]) (by kernel_rfl) (by simp) ?_
          refine AllReadyH.cons (by simp only [List.getElem?_toArray, List.getElem?_cons_zero, List.getElem?_cons_succ]; rfl) (fun K hK => ?_) AllReadyH.nil
          refine step_append_at rfl _ _ 25 rfl wf.heap.size 41 i0 _ 5 40 Tryz.underlying25 hi hz0 hz1 hz2 rfl (by decide) v8 (0 + xs.length) ([] ++ flatIw xs) rfl hown8 ⟨wf.heap.size, 0, none⟩ 1 1 (flatIw [(⟨1, xT, xK, xV, 0⟩ : IwR)]) rfl (by rw [flatIw_len]; rfl) (newsIw HXx) (flatIw_one _) (by unfold maxLen; omega) (by omega) hb8.size ?_
          intro v9 wq hown9 hgrow9 _
          have hb9 : Below wf.heap.size wf wq := hb8x.grown hgrow9 hb8x.size (own_geW hown8)
          refine hK.out _ _ ?_ (fun hHeld2 => ?_)
          · (try dsimp only); exact hb9
          clear hK K hHeld
          have hHeld := hHeld2
          clear hHeld2
          try simp only [Act.put, List.setIfInBounds_toArray, List.set_cons_zero, List.set_cons_succ]
          have hO9 : OwnIw wq wf.heap.size v9 ys := by
            have h9 := hown9
            rw [List.nil_append, ← flatIw_app] at h9
            have e9 : (xs ++ [(⟨1, xT, xK, xV, 0⟩ : IwR)]).length = 0 + xs.length + 1 := by rw [List.length_append]; simp
            unfold OwnIw
            rw [← unhide Hys, e9]
            exact h9
          obtain ⟨av, cv, rfl, HV0, _, _⟩ := holdIw hO9 hyl
          have HV := hide HV0
          clear hown8 hown9 hgrow8 hgrow9 hO9 HV0
          refine wpAnyH_ready (rs := [7]) (by kernel_rfl) (by simp) ?_
          refine AllReadyH.cons (by simp only [List.getElem?_toArray, List.getElem?_cons_zero, List.getElem?_cons_succ]; rfl) (fun K hK => ?_) AllReadyH.nil
          go_simp
          (go_at_call 8; refine (tabI_is s t k z q l e b v r _ _ _ _ _ MM (unhide HV) HM).mono ?_; rintro e9 wv ⟨am, cm, rfl, hTM, hbwv⟩)
          (try go_wp2_with fail)
          refine hK.out _ _ ?_ (fun hHeld2 => ?_)
          · (try dsimp only); exact bel_trans hb9 hbwv
          clear hK K hHeld
          have hHeld := hHeld2
          clear hHeld2
          try simp only [Act.put, List.setIfInBounds_toArray, List.set_cons_zero, List.set_cons_succ]
          refine wpAnyH_take (i := 8) (v := ?_) (by simp only [List.getElem?_toArray, List.getElem?_cons_zero, List.getElem?_cons_succ]; rfl) (by kernel_rfl) (by kernel_rfl) (by kernel_rfl) (by intro _ _ _ h; exact h) (Or.inl ⟨by rfl, ?_⟩) (by assumption) ?_
          rotate_left
          · (intro w9 hSw; (try dsimp only at hSw); go_simp <;> with_reducible rfl)
          try simp only [Act.put, List.setIfInBounds_toArray, List.set_cons_zero, List.set_cons_succ]
          refine wpAnyH_done (by kernel_rfl) ?_ _
          go_wp2
          go_meet
          exact ⟨am, cm, rfl, hTM, bel_trans hb9 hbwv⟩
    case rest =>
      rename World => wm
      obtain ⟨am, cm, rfl, hTM, hbm⟩ := hcut
      have HMm := hide hTM
      have HAm := hide ((unhide HAf).below hbm)
      have bJm := (hbm.block w1.heap.size zJ).trans bJf
      have bXm := (hbm.block gx zX).trans bXf
      have hbAm : Below w.heap.size w wm := bel_trans hbAf hbm
      have zJm : w1.heap.size < wm.heap.size := Nat.lt_of_lt_of_le zJ hbm.size
      have zXm : gx < wm.heap.size := Nat.lt_of_lt_of_le zX hbm.size
      have HXm := hide ((unhide HXf).below hbm)
      have hg0m : xs.length = 0 ∨ g0 < wm.heap.size := hg0.imp id (fun h9 => Nat.lt_of_lt_of_le h9 hbm.size)
      have jm : Hid True := hide trivial
      replace j0 := (hbm.cell (p := ⟨w1.heap.size, 0, none⟩) zJ).trans j0
      replace j1 := (hbm.cell (p := ⟨w1.heap.size, 1, none⟩) zJ).trans j1
      replace j2 := (hbm.cell (p := ⟨w1.heap.size, 2, none⟩) zJ).trans j2
      replace j3 := (hbm.cell (p := ⟨w1.heap.size, 3, none⟩) zJ).trans j3
      replace j4 := (hbm.cell (p := ⟨w1.heap.size, 4, none⟩) zJ).trans j4
      replace j5 := (hbm.cell (p := ⟨w1.heap.size, 5, none⟩) zJ).trans j5
      replace j6 := (hbm.cell (p := ⟨w1.heap.size, 6, none⟩) zJ).trans j6
      replace j7 := (hbm.cell (p := ⟨w1.heap.size, 7, none⟩) zJ).trans j7
      replace j8 := (hbm.cell (p := ⟨w1.heap.size, 8, none⟩) zJ).trans j8
      replace j9 := (hbm.cell (p := ⟨w1.heap.size, 9, none⟩) zJ).trans j9
      replace x0 := (hbm.cell (p := ⟨gx, 0, none⟩) zX).trans x0
      replace x1 := (hbm.cell (p := ⟨gx, 1, none⟩) zX).trans x1
      replace x2 := (hbm.cell (p := ⟨gx, 2, none⟩) zX).trans x2
      replace x3 := (hbm.cell (p := ⟨gx, 3, none⟩) zX).trans x3
      replace x4 := (hbm.cell (p := ⟨gx, 4, none⟩) zX).trans x4
      clear hTM HAf HXf bJf bXf hbAf zJ zX hg0 jm hbm
      obtain ⟨bz, hbz⟩ : ∃ bz : Bool, decide (np = 0) = bz := ⟨_, rfl⟩
      have Hbz := hide hbz
      go_wp2_with fail
      go_cut [55] (fun bv W => bv = .bool (decide (np = 0)) ∧ Below wm.heap.size wm W)
      case first =>
          refine wp_region_held_drew (S := (fun W => Below wm.heap.size wm W)) (by kernel_rfl) ?_ (fun hHeld => ?_)
          · exact (bel_drew (Below.refl _ _))
          refine wpAnyH_take (i := 0) (v := ?_) (by simp only [List.getElem?_toArray, List.getElem?_cons_zero, List.getElem?_cons_succ]; rfl) (by kernel_rfl) (by kernel_rfl) (by kernel_rfl) (by intro _ _ _ h; exact h) (Or.inl ⟨by rfl, ?_⟩) (by assumption) ?_
          rotate_left
          · (intro w9 hSw; (try dsimp only at hSw); have y0 := (hSw.cell (p := ⟨w1.heap.size, 0, none⟩) zJm).trans j0; have y1 := (hSw.cell (p := ⟨w1.heap.size, 1, none⟩) zJm).trans j1; have y2 := (hSw.cell (p := ⟨w1.heap.size, 2, none⟩) zJm).trans j2; have y3 := (hSw.cell (p := ⟨w1.heap.size, 3, none⟩) zJm).trans j3; have y4 := (hSw.cell (p := ⟨w1.heap.size, 4, none⟩) zJm).trans j4; have y5 := (hSw.cell (p := ⟨w1.heap.size, 5, none⟩) zJm).trans j5; have y6 := (hSw.cell (p := ⟨w1.heap.size, 6, none⟩) zJm).trans j6; have y7 := (hSw.cell (p := ⟨w1.heap.size, 7, none⟩) zJm).trans j7; have y8 := (hSw.cell (p := ⟨w1.heap.size, 8, none⟩) zJm).trans j8; have y9 := (hSw.cell (p := ⟨w1.heap.size, 9, none⟩) zJm).trans j9; go_simp <;> with_reducible rfl)
          try simp only [Act.put, List.setIfInBounds_toArray, List.set_cons_zero, List.set_cons_succ]
          refine wpAnyH_take (i := 2) (v := ?_) (by simp only [List.getElem?_toArray, List.getElem?_cons_zero, List.getElem?_cons_succ]; rfl) (by kernel_rfl) (by kernel_rfl) (by kernel_rfl) (by intro _ _ _ h; exact h) (Or.inl ⟨by rfl, ?_⟩) (by assumption) ?_
          rotate_left
          · (intro w9 hSw; (try dsimp only at hSw); go_simp <;> with_reducible rfl)
          try simp only [Act.put, List.setIfInBounds_toArray, List.set_cons_zero, List.set_cons_succ]
          refine wpAnyH_take (i := 4) (v := ?_) (by simp only [List.getElem?_toArray, List.getElem?_cons_zero, List.getElem?_cons_succ]; rfl) (by kernel_rfl) (by kernel_rfl) (by kernel_rfl) (by intro _ _ _ h; exact h) (Or.inl ⟨by rfl, ?_⟩) (by assumption) ?_
          rotate_left
          · (intro w9 hSw; (try dsimp only at hSw); have y0 := (hSw.cell (p := ⟨gx, 0, none⟩) zXm).trans x0; have y1 := (hSw.cell (p := ⟨gx, 1, none⟩) zXm).trans x1; have y2 := (hSw.cell (p := ⟨gx, 2, none⟩) zXm).trans x2; have y3 := (hSw.cell (p := ⟨gx, 3, none⟩) zXm).trans x3; have y4 := (hSw.cell (p := ⟨gx, 4, none⟩) zXm).trans x4; go_simp <;> with_reducible rfl)
          try simp only [Act.put, List.setIfInBounds_toArray, List.set_cons_zero, List.set_cons_succ]
          refine wpAnyH_ready (rs := [1, 5]) (by kernel_rfl) (by simp) ?_
          refine AllReadyH.cons (by simp only [List.getElem?_toArray, List.getElem?_cons_zero, List.getElem?_cons_succ]; rfl) (fun K hK => ?_) (AllReadyH.cons (by simp only [List.getElem?_toArray, List.getElem?_cons_zero, List.getElem?_cons_succ]; rfl) (fun K hK => ?_) AllReadyH.nil)
          · go_simp
            refine hK.out _ _ ?_ (fun hHeld2 => ?_)
            · (try dsimp only); exact bel_alloc (bel_drew (Below.refl _ _)) (.cells #[] 41)
            clear hK K hHeld
            have hHeld := hHeld2
            clear hHeld2
            try simp only [Act.put, List.setIfInBounds_toArray, List.set_cons_zero, List.set_cons_succ]
            refine wpAnyH_ready (rs := [3, 5]) (by kernel_rfl) (by simp) ?_
            refine AllReadyH.cons (by simp only [List.getElem?_toArray, List.getElem?_cons_zero, List.getElem?_cons_succ]; rfl) (fun K hK => ?_) (AllReadyH.cons (by simp only [List.getElem?_toArray, List.getElem?_cons_zero, List.getElem?_cons_succ]; rfl) (fun K hK => ?_) AllReadyH.nil)
            · skip
              refine step_append_at rfl _ _ 25 rfl wm.heap.size 41 i0 _ 5 40 Tryz.underlying25 hi hz0 hz1 hz2 rfl (by decide) (.slice (some ⟨wm.heap.size, 0, none⟩) 0 0) 0 [] rfl (litT (W := wm.drew) (by first | (simp; done) | (simp; omega)) (by simp)) ⟨g0, o0, none⟩ xs.length cr (flatIw xs) rfl (by rw [flatIw_len]) (newsIw ((unhide HXm).below (bel_alloc (bel_drew (Below.refl _ _)) (.cells #[] 41)))) (flatIw_one _) (by unfold maxLen; omega) (by omega) (by first | (simp; done) | (simp; omega)) ?_
              intro v8 w8 hown8 hgrow8 _
              have hb8 : Below wm.heap.size wm w8 := (bel_alloc (bel_drew (Below.refl _ _)) (.cells #[] 41)).grown hgrow8 (by first | (simp; done) | (simp; omega)) (fun k9 hk => by simp [Value.ownBlock] at hk; omega)
              refine hK.out _ _ ?_ (fun hHeld2 => ?_)
              · (try dsimp only); exact hb8
              clear hK K hHeld
              have hHeld := hHeld2
              clear hHeld2
              try simp only [Act.put, List.setIfInBounds_toArray, List.set_cons_zero, List.set_cons_succ]
              refine wpAnyH_ready (rs := [5]) (by kernel_rfl) (by simp) ?_
              refine AllReadyH.cons (by simp only [List.getElem?_toArray, List.getElem?_cons_zero, List.getElem?_cons_succ]; rfl) (fun K hK => ?_) AllReadyH.nil
              go_simp
              have hb8x : Below wm.heap.size wm (w8.alloc (.cells #[.int .i64 1, .int .i64 xT, .int .i64 xK, .int .i64 xV, .int .i64 0] 41)) := bel_alloc hb8 _
              refine hK.out _ _ ?_ (fun hHeld2 => ?_)
              · (try dsimp only); exact hb8x
              clear hK K hHeld
              have hHeld := hHeld2
              clear hHeld2
              try simp only [Act.put, List.setIfInBounds_toArray, List.set_cons_zero, List.set_cons_succ]
              have hown8x := World.ownsRow.alloc hown8 (.cells #[.int .i64 1, .int .i64 xT, .int .i64 xK, .int .i64 xV, .int .i64 0] 41)
              refine wpAnyH_ready (rs := [6]) (by kernel_rfl) (by simp) ?_
              refine AllReadyH.cons (by simp only [List.getElem?_toArray, List.getElem?_cons_zero, List.getElem?_cons_succ]; rfl) (fun K hK => ?_) AllReadyH.nil
              refine step_append_at rfl _ _ 25 rfl wm.heap.size 41 i0 _ 5 40 Tryz.underlying25 hi hz0 hz1 hz2 rfl (by decide) v8 (0 + xs.length) ([] ++ flatIw xs) rfl hown8x ⟨w8.heap.size, 0, none⟩ 1 1 (flatIw [(⟨1, xT, xK, xV, 0⟩ : IwR)]) rfl (by rw [flatIw_len]; rfl) (newsIw (own1 w8)) (flatIw_one _) (by unfold maxLen; omega) (by omega) (by have := hb8.size; simp; omega) ?_
              intro v9 wq hown9 hgrow9 _
              have hb9 : Below wm.heap.size wm wq := hb8x.grown hgrow9 hb8x.size (own_geW hown8x)
              refine hK.out _ _ ?_ (fun hHeld2 => ?_)
              · (try dsimp only); exact hb9
              clear hK K hHeld
              have hHeld := hHeld2
              clear hHeld2
              try simp only [Act.put, List.setIfInBounds_toArray, List.set_cons_zero, List.set_cons_succ]
              have hO9 : OwnIw wq wm.heap.size v9 ys := by
                have h9 := hown9
                rw [List.nil_append, ← flatIw_app] at h9
                have e9 : (xs ++ [(⟨1, xT, xK, xV, 0⟩ : IwR)]).length = 0 + xs.length + 1 := by rw [List.length_append]; simp
                unfold OwnIw
                rw [← unhide Hys, e9]
                exact h9
              obtain ⟨av, cv, rfl, HV0, _, _⟩ := holdIw hO9 hyl
              have HV := hide HV0
              clear hown8 hown9 hgrow8 hgrow9 hO9 HV0
              refine wpAnyH_ready (rs := [7]) (by kernel_rfl) (by simp) ?_
              refine AllReadyH.cons (by simp only [List.getElem?_toArray, List.getElem?_cons_zero, List.getElem?_cons_succ]; rfl) (fun K hK => ?_) AllReadyH.nil
              go_simp
              (go_at_call 12; refine (pairs_n s t k z q l e b v r _ _ _ _ _ (unhide HV) HP).mono ?_; rintro e9 wv ⟨am, cm, rfl, hbwv⟩)
              (try go_wp2_with fail)
              refine hK.out _ _ ?_ (fun hHeld2 => ?_)
              · (try dsimp only); exact bel_trans hb9 hbwv
              clear hK K hHeld
              have hHeld := hHeld2
              clear hHeld2
              try simp only [Act.put, List.setIfInBounds_toArray, List.set_cons_zero, List.set_cons_succ]
              refine wpAnyH_take (i := 8) (v := ?_) (by simp only [List.getElem?_toArray, List.getElem?_cons_zero, List.getElem?_cons_succ]; rfl) (by kernel_rfl) (by kernel_rfl) (by kernel_rfl) (by intro _ _ _ h; exact h) (Or.inl ⟨by rfl, ?_⟩) (by assumption) ?_
              rotate_left
              · (intro w9 hSw; (try dsimp only at hSw); go_simp <;> with_reducible rfl)
              try simp only [Act.put, List.setIfInBounds_toArray, List.set_cons_zero, List.set_cons_succ]
              refine wpAnyH_take (i := 9) (v := ?_) (by simp only [List.getElem?_toArray, List.getElem?_cons_zero, List.getElem?_cons_succ]; rfl) (by kernel_rfl) (by kernel_rfl) (by kernel_rfl) (by intro _ _ _ h; exact h) (Or.inl ⟨by rfl, ?_⟩) (by assumption) ?_
              rotate_left
              · (intro w9 hSw; (try dsimp only at hSw); go_simp <;> with_reducible rfl)
              try simp only [Act.put, List.setIfInBounds_toArray, List.set_cons_zero, List.set_cons_succ]
              refine wpAnyH_done (by kernel_rfl) ?_ _
              go_wp2
              go_meet
              exact ⟨by first | rfl | (simp; done) | (congr 1; rw [Bool.eq_iff_iff]; simp; done) | (congr 1; rw [Bool.eq_iff_iff]; simp; omega), bel_trans hb9 hbwv⟩
            · go_simp
              refine hK.out _ _ ?_ (fun hHeld2 => ?_)
              · (try dsimp only); exact bel_alloc (bel_alloc (bel_drew (Below.refl _ _)) (.cells #[] 41)) (.cells #[.int .i64 1, .int .i64 xT, .int .i64 xK, .int .i64 xV, .int .i64 0] 41)
              clear hK K hHeld
              have hHeld := hHeld2
              clear hHeld2
              try simp only [Act.put, List.setIfInBounds_toArray, List.set_cons_zero, List.set_cons_succ]
              refine wpAnyH_ready (rs := [3]) (by kernel_rfl) (by simp) ?_
              refine AllReadyH.cons (by simp only [List.getElem?_toArray, List.getElem?_cons_zero, List.getElem?_cons_succ]; rfl) (fun K hK => ?_) AllReadyH.nil
              refine step_append_at rfl _ _ 25 rfl wm.heap.size 41 i0 _ 5 40 Tryz.underlying25 hi hz0 hz1 hz2 rfl (by decide) (.slice (some ⟨wm.heap.size, 0, none⟩) 0 0) 0 [] rfl (World.ownsRow.alloc (litT (W := wm.drew) (by first | (simp; done) | (simp; omega)) (by simp)) _) ⟨g0, o0, none⟩ xs.length cr (flatIw xs) rfl (by rw [flatIw_len]) (newsIw ((unhide HXm).below (bel_alloc (bel_alloc (bel_drew (Below.refl _ _)) (.cells #[] 41)) (.cells #[.int .i64 1, .int .i64 xT, .int .i64 xK, .int .i64 xV, .int .i64 0] 41)))) (flatIw_one _) (by unfold maxLen; omega) (by omega) (by first | (simp; done) | (simp; omega)) ?_
              intro v8 w8 hown8 hgrow8 _
              have hb8 : Below wm.heap.size wm w8 := (bel_alloc (bel_alloc (bel_drew (Below.refl _ _)) (.cells #[] 41)) (.cells #[.int .i64 1, .int .i64 xT, .int .i64 xK, .int .i64 xV, .int .i64 0] 41)).grown hgrow8 (by first | (simp; done) | (simp; omega)) (fun k9 hk => by simp [Value.ownBlock] at hk; omega)
              refine hK.out _ _ ?_ (fun hHeld2 => ?_)
              · (try dsimp only); exact hb8
              clear hK K hHeld
              have hHeld := hHeld2
              clear hHeld2
              try simp only [Act.put, List.setIfInBounds_toArray, List.set_cons_zero, List.set_cons_succ]
              have hb8x := hb8
              have HXx : IwRs w8 (some ⟨wm.heap.size + 1, 0, none⟩) 1 [(⟨1, xT, xK, xV, 0⟩ : IwR)] := (own1' (wm.drew.alloc (.cells #[] 41)) (by simp)).grown hgrow8 (fun g9 o9 hp9 e9 e8 => by cases e9; simp [Value.ownBlock] at e8)
              refine wpAnyH_ready (rs := [6]) (by kernel_rfl) (by simp) ?_
              refine AllReadyH.cons (by simp only [List.getElem?_toArray, List.getElem?_cons_zero, List.getElem?_cons_succ]; rfl) (fun K hK => ?_) AllReadyH.nil
              refine step_append_at rfl _ _ 25 rfl wm.heap.size 41 i0 _ 5 40 Tryz.underlying25 hi hz0 hz1 hz2 rfl (by decide) v8 (0 + xs.length) ([] ++ flatIw xs) rfl hown8 ⟨wm.heap.size + 1, 0, none⟩ 1 1 (flatIw [(⟨1, xT, xK, xV, 0⟩ : IwR)]) rfl (by rw [flatIw_len]; rfl) (newsIw HXx) (flatIw_one _) (by unfold maxLen; omega) (by omega) hb8.size ?_
              intro v9 wq hown9 hgrow9 _
              have hb9 : Below wm.heap.size wm wq := hb8x.grown hgrow9 hb8x.size (own_geW hown8)
              refine hK.out _ _ ?_ (fun hHeld2 => ?_)
              · (try dsimp only); exact hb9
              clear hK K hHeld
              have hHeld := hHeld2
              clear hHeld2
              try simp only [Act.put, List.setIfInBounds_toArray, List.set_cons_zero, List.set_cons_succ]
              have hO9 : OwnIw wq wm.heap.size v9 ys := by
                have h9 := hown9
                rw [List.nil_append, ← flatIw_app] at h9
                have e9 : (xs ++ [(⟨1, xT, xK, xV, 0⟩ : IwR)]).length = 0 + xs.length + 1 := by rw [List.length_append]; simp
                unfold OwnIw
                rw [← unhide Hys, e9]
                exact h9
              obtain ⟨av, cv, rfl, HV0, _, _⟩ := holdIw hO9 hyl
              have HV := hide HV0
              clear hown8 hown9 hgrow8 hgrow9 hO9 HV0
              refine wpAnyH_ready (rs := [7]) (by kernel_rfl) (by simp) ?_
              refine AllReadyH.cons (by simp only [List.getElem?_toArray, List.getElem?_cons_zero, List.getElem?_cons_succ]; rfl) (fun K hK => ?_) AllReadyH.nil
              go_simp
              (go_at_call 12; refine (pairs_n s t k z q l e b v r _ _ _ _ _ (unhide HV) HP).mono ?_; rintro e9 wv ⟨am, cm, rfl, hbwv⟩)
              (try go_wp2_with fail)
              refine hK.out _ _ ?_ (fun hHeld2 => ?_)
              · (try dsimp only); exact bel_trans hb9 hbwv
              clear hK K hHeld
              have hHeld := hHeld2
              clear hHeld2
              try simp only [Act.put, List.setIfInBounds_toArray, List.set_cons_zero, List.set_cons_succ]
              refine wpAnyH_take (i := 8) (v := ?_) (by simp only [List.getElem?_toArray, List.getElem?_cons_zero, List.getElem?_cons_succ]; rfl) (by kernel_rfl) (by kernel_rfl) (by kernel_rfl) (by intro _ _ _ h; exact h) (Or.inl ⟨by rfl, ?_⟩) (by assumption) ?_
              rotate_left
              · (intro w9 hSw; (try dsimp only at hSw); go_simp <;> with_reducible rfl)
              try simp only [Act.put, List.setIfInBounds_toArray, List.set_cons_zero, List.set_cons_succ]
              refine wpAnyH_take (i := 9) (v := ?_) (by simp only [List.getElem?_toArray, List.getElem?_cons_zero, List.getElem?_cons_succ]; rfl) (by kernel_rfl) (by kernel_rfl) (by kernel_rfl) (by intro _ _ _ h; exact h) (Or.inl ⟨by rfl, ?_⟩) (by assumption) ?_
              rotate_left
              · (intro w9 hSw; (try dsimp only at hSw); go_simp <;> with_reducible rfl)
              try simp only [Act.put, List.setIfInBounds_toArray, List.set_cons_zero, List.set_cons_succ]
              refine wpAnyH_done (by kernel_rfl) ?_ _
              go_wp2
              go_meet
              exact ⟨by first | rfl | (simp; done) | (congr 1; rw [Bool.eq_iff_iff]; simp; done) | (congr 1; rw [Bool.eq_iff_iff]; simp; omega), bel_trans hb9 hbwv⟩
          · go_simp
            refine hK.out _ _ ?_ (fun hHeld2 => ?_)
            · (try dsimp only); exact bel_alloc (bel_drew (Below.refl _ _)) (.cells #[.int .i64 1, .int .i64 xT, .int .i64 xK, .int .i64 xV, .int .i64 0] 41)
            clear hK K hHeld
            have hHeld := hHeld2
            clear hHeld2
            try simp only [Act.put, List.setIfInBounds_toArray, List.set_cons_zero, List.set_cons_succ]
            refine wpAnyH_ready (rs := [1]) (by kernel_rfl) (by simp) ?_
            refine AllReadyH.cons (by simp only [List.getElem?_toArray, List.getElem?_cons_zero, List.getElem?_cons_succ]; rfl) (fun K hK => ?_) AllReadyH.nil
            go_simp
            refine hK.out _ _ ?_ (fun hHeld2 => ?_)
            · (try dsimp only); exact bel_alloc (bel_alloc (bel_drew (Below.refl _ _)) (.cells #[.int .i64 1, .int .i64 xT, .int .i64 xK, .int .i64 xV, .int .i64 0] 41)) (.cells #[] 41)
            clear hK K hHeld
            have hHeld := hHeld2
            clear hHeld2
            try simp only [Act.put, List.setIfInBounds_toArray, List.set_cons_zero, List.set_cons_succ]
            refine wpAnyH_ready (rs := [3]) (by kernel_rfl) (by simp) ?_
            refine AllReadyH.cons (by simp only [List.getElem?_toArray, List.getElem?_cons_zero, List.getElem?_cons_succ]; rfl) (fun K hK => ?_) AllReadyH.nil
            refine step_append_at rfl _ _ 25 rfl wm.heap.size 41 i0 _ 5 40 Tryz.underlying25 hi hz0 hz1 hz2 rfl (by decide) (.slice (some ⟨wm.heap.size + 1, 0, none⟩) 0 0) 0 [] rfl (litT' (wm.drew.alloc (.cells #[.int .i64 1, .int .i64 xT, .int .i64 xK, .int .i64 xV, .int .i64 0] 41)) (by simp) (by simp)) ⟨g0, o0, none⟩ xs.length cr (flatIw xs) rfl (by rw [flatIw_len]) (newsIw ((unhide HXm).below (bel_alloc (bel_alloc (bel_drew (Below.refl _ _)) (.cells #[.int .i64 1, .int .i64 xT, .int .i64 xK, .int .i64 xV, .int .i64 0] 41)) (.cells #[] 41)))) (flatIw_one _) (by unfold maxLen; omega) (by omega) (by first | (simp; done) | (simp; omega)) ?_
            intro v8 w8 hown8 hgrow8 _
            have hb8 : Below wm.heap.size wm w8 := (bel_alloc (bel_alloc (bel_drew (Below.refl _ _)) (.cells #[.int .i64 1, .int .i64 xT, .int .i64 xK, .int .i64 xV, .int .i64 0] 41)) (.cells #[] 41)).grown hgrow8 (by first | (simp; done) | (simp; omega)) (fun k9 hk => by simp [Value.ownBlock] at hk; omega)
            refine hK.out _ _ ?_ (fun hHeld2 => ?_)
            · (try dsimp only); exact hb8
            clear hK K hHeld
            have hHeld := hHeld2
            clear hHeld2
            try simp only [Act.put, List.setIfInBounds_toArray, List.set_cons_zero, List.set_cons_succ]
            have hb8x := hb8
            have HXx : IwRs w8 (some ⟨wm.heap.size, 0, none⟩) 1 [(⟨1, xT, xK, xV, 0⟩ : IwR)] := ((own1' wm.drew rfl).below (bel_one _ _)).grown hgrow8 (fun g9 o9 hp9 e9 e8 => by cases e9; simp [Value.ownBlock] at e8)
            refine wpAnyH_ready (rs := [6]) (by kernel_rfl) (by simp) ?_
            refine AllReadyH.cons (by simp only [List.getElem?_toArray, List.getElem?_cons_zero, List.getElem?_cons_succ]; rfl) (fun K hK => ?_) AllReadyH.nil
            refine step_append_at rfl _ _ 25 rfl wm.heap.size 41 i0 _ 5 40 Tryz.underlying25 hi hz0 hz1 hz2 rfl (by decide) v8 (0 + xs.length) ([] ++ flatIw xs) rfl hown8 ⟨wm.heap.size, 0, none⟩ 1 1 (flatIw [(⟨1, xT, xK, xV, 0⟩ : IwR)]) rfl (by rw [flatIw_len]; rfl) (newsIw HXx) (flatIw_one _) (by unfold maxLen; omega) (by omega) hb8.size ?_
            intro v9 wq hown9 hgrow9 _
            have hb9 : Below wm.heap.size wm wq := hb8x.grown hgrow9 hb8x.size (own_geW hown8)
            refine hK.out _ _ ?_ (fun hHeld2 => ?_)
            · (try dsimp only); exact hb9
            clear hK K hHeld
            have hHeld := hHeld2
            clear hHeld2
            try simp only [Act.put, List.setIfInBounds_toArray, List.set_cons_zero, List.set_cons_succ]
            have hO9 : OwnIw wq wm.heap.size v9 ys := by
              have h9 := hown9
              rw [List.nil_append, ← flatIw_app] at h9
              have e9 : (xs ++ [(⟨1, xT, xK, xV, 0⟩ : IwR)]).length = 0 + xs.length + 1 := by rw [List.length_append]; simp
              unfold OwnIw
              rw [← unhide Hys, e9]
              exact h9
            obtain ⟨av, cv, rfl, HV0, _, _⟩ := holdIw hO9 hyl
            have HV := hide HV0
            clear hown8 hown9 hgrow8 hgrow9 hO9 HV0
            refine wpAnyH_ready (rs := [7]) (by kernel_rfl) (by simp) ?_
            refine AllReadyH.cons (by simp only [List.getElem?_toArray, List.getElem?_cons_zero, List.getElem?_cons_succ]; rfl) (fun K hK => ?_) AllReadyH.nil
            go_simp
            (go_at_call 12; refine (pairs_n s t k z q l e b v r _ _ _ _ _ (unhide HV) HP).mono ?_; rintro e9 wv ⟨am, cm, rfl, hbwv⟩)
            (try go_wp2_with fail)
            refine hK.out _ _ ?_ (fun hHeld2 => ?_)
            · (try dsimp only); exact bel_trans hb9 hbwv
            clear hK K hHeld
            have hHeld := hHeld2
            clear hHeld2
            try simp only [Act.put, List.setIfInBounds_toArray, List.set_cons_zero, List.set_cons_succ]
            refine wpAnyH_take (i := 8) (v := ?_) (by simp only [List.getElem?_toArray, List.getElem?_cons_zero, List.getElem?_cons_succ]; rfl) (by kernel_rfl) (by kernel_rfl) (by kernel_rfl) (by intro _ _ _ h; exact h) (Or.inl ⟨by rfl, ?_⟩) (by assumption) ?_
            rotate_left
            · (intro w9 hSw; (try dsimp only at hSw); go_simp <;> with_reducible rfl)
            try simp only [Act.put, List.setIfInBounds_toArray, List.set_cons_zero, List.set_cons_succ]
            refine wpAnyH_take (i := 9) (v := ?_) (by simp only [List.getElem?_toArray, List.getElem?_cons_zero, List.getElem?_cons_succ]; rfl) (by kernel_rfl) (by kernel_rfl) (by kernel_rfl) (by intro _ _ _ h; exact h) (Or.inl ⟨by rfl, ?_⟩) (by assumption) ?_
            rotate_left
            · (intro w9 hSw; (try dsimp only at hSw); go_simp <;> with_reducible rfl)
            try simp only [Act.put, List.setIfInBounds_toArray, List.set_cons_zero, List.set_cons_succ]
            refine wpAnyH_done (by kernel_rfl) ?_ _
            go_wp2
            go_meet
            exact ⟨by first | rfl | (simp; done) | (congr 1; rw [Bool.eq_iff_iff]; simp; done) | (congr 1; rw [Bool.eq_iff_iff]; simp; omega), bel_trans hb9 hbwv⟩
      case rest =>
        rename World => wp
        obtain ⟨rfl, hbp⟩ := hcut
        clear j0 j1 j2 j3 j4 j5 j6 j7 j8 j9 x0 x1 x2 x3 x4 HXm hbz
        have HMp := hide ((unhide HMm).below hbp)
        have HAp := hide ((unhide HAm).below hbp)
        have bJp := (hbp.block w1.heap.size zJm).trans bJm
        have bXp := (hbp.block gx zXm).trans bXm
        have hbAp : Below w.heap.size w wp := bel_trans hbAm hbp
        have zJp : w1.heap.size < wp.heap.size := Nat.lt_of_lt_of_le zJm hbp.size
        have zXp : gx < wp.heap.size := Nat.lt_of_lt_of_le zXm hbp.size
        clear HMm HAm bJm bXm hbAm zJm zXm hbp
        by_cases hz : np = 0
        · have hm0 := (unhide HQ).no hz
          have dz : decide (np = 0) = true := decide_eq_true hz
          rw [dz, hm0]
          clear hz dz hm0 Hbz
          go_wp2_with fail
          refine (frok_any _).mono ?_
          rintro e9 wc ⟨rfl, hbc⟩
          go_wp2
          go_ret
          exact ⟨rfl, bel_trans hbAp hbc⟩
        · have dz : decide (np = 0) = false := decide_eq_false hz
          rw [dz]
          have Hrow := hide ((unhide HQ).rws hz)
          obtain ⟨c, hc, hcR, hcM⟩ := (unhide HQ).cnt hz
          have HcR := hide hcR
          obtain ⟨D, hD⟩ : ∃ D : Int, countT MM = D := ⟨_, rfl⟩
          have HcM := hide hD
          have hwsl : ws.length ≤ 61 := by
            rw [← unhide HW]
            unfold winsAll
            split
            · exact winsOf_len _ _ _ _
            · simp
          have hwD : Hid (IntKind.i64.wrap ((c : Int) + (ws.length : Int)) = D) := hide (by rw [IntWalk.i64_in _ ⟨by omega, by omega⟩, ← hD, hcM]; omega)
          clear dz hz hcR hcM hD HQ Hbz
          go_wp2
          go_loopw [8] (fun iv wr => ∃ ix : Nat, ix ≤ RR.length ∧ iv = .int .i64 ix ∧ Below wp.heap.size wp wr) (fun iv _ => RR.length - (intOf iv).toNat)
          case atStart => exact ⟨0, Nat.zero_le _, rfl, Below.refl _ _⟩
          case round =>
            obtain ⟨ix, hix, rfl, hbw⟩ := hrel
            have HMr := hide ((unhide HMp).below hbw)
            by_cases hlt : (ix : Int) < (RR.length : Int)
            · obtain ⟨x, hxi⟩ : ∃ x, RR[ix]? = some x := ⟨_, List.getElem?_eq_getElem (by omega)⟩
              obtain ⟨_, _, hy⟩ := unhide HAp
              obtain ⟨gA, oA, rfl, hrA⟩ := hy.resolve_left (by omega)
              have hgA : gA < wp.heap.size := hrA.lt (by omega)
              obtain ⟨r0, r1, r2, r3, r4, r5, r6⟩ := (hrA ix _ hxi).below hbw hgA
              have hgAr : gA < wr.heap.size := Nat.lt_of_lt_of_le hgA hbw.size
              have hfd := unhide Hrow x (List.mem_of_getElem? hxi)
              have y2 := Joins.cell_of_block ((hbw.block gx zXp).trans bXp) 2
              simp only [List.getElem?_toArray, List.getElem?_cons_zero, List.getElem?_cons_succ] at y2
              clear hrA hy hxi HAp
              obtain ⟨ky, st, en, n, su, le, mo⟩ := x
              dsimp only at r0 r1 r2 r3 r4 r5 r6 hfd
              by_cases hky : ky = xK
              · have d1 : (ky == xK) = true := by simp [hky]
                have d2 : (ky != xK) = false := by simp [hky]
                clear hky hfd
                go_wp2_with fail
                go_quiet (fail)
                go_wp2
                refine ⟨⟨ix + 1, by omega, by go_num, bel_drewN hbw _⟩, by simp [intOf]; omega⟩
              · have d1 : (ky == xK) = false := by simp [hky]
                have d2 : (ky != xK) = true := by simp [hky]
                have HFd := hide (hfd hky)
                clear hky hfd
                go_wp2_with fail
                go_quiet (fail)
                generalize hws9 : wr.drewN nq = ws9
                have hbs : Below wr.heap.size wr ws9 := by rw [← hws9]; exact bel_drewN (Below.refl _ _) _
                clear hws9 y2
                replace r0 := (hbs.cell (p := ⟨gA, oA + ix * 7, none⟩) hgAr).trans r0
                replace r1 := (hbs.cell (p := ⟨gA, oA + ix * 7 + 1, none⟩) hgAr).trans r1
                have r2' : wr.cell? ⟨gA, oA + ix * 7 + 1 + 1, none⟩ = some (.int .i64 en) := r2
                clear r2
                have r2 := (hbs.cell (p := ⟨gA, oA + ix * 7 + 1 + 1, none⟩) hgAr).trans r2'
                replace r3 := (hbs.cell (p := ⟨gA, oA + ix * 7 + 3, none⟩) hgAr).trans r3
                replace r4 := (hbs.cell (p := ⟨gA, oA + ix * 7 + 4, none⟩) hgAr).trans r4
                replace r5 := (hbs.cell (p := ⟨gA, oA + ix * 7 + 5, none⟩) hgAr).trans r5
                replace r6 := (hbs.cell (p := ⟨gA, oA + ix * 7 + 6, none⟩) hgAr).trans r6
                replace hgAr := Nat.lt_of_lt_of_le hgAr hbs.size
                replace HMr := hide ((unhide HMr).below hbs)
                replace hbw := bel_trans hbw hbs
                clear r2' hbs d1 d2
                go_wp2_with fail
                go_cut [9, 10] (fun pv bv W => ∃ B : Nat, pv = .pointer (some ⟨B, 0, none⟩) ∧ bv = .bool true ∧ W.heap[B]? = some (.cells #[.int .i64 n, .int .i64 su, .int .i64 le, .int .i64 mo] 37 (0, 0)) ∧ Below ws9.heap.size ws9 W)
                case first =>
                  refine wp_region_held_drew (S := (fun W => Below ws9.heap.size ws9 W)) (by kernel_rfl) ?_ (fun hHeld => ?_)
                  · exact (bel_drew (Below.refl _ _))
                  refine wpAnyH_take (i := 0) (v := ?_) (by simp only [List.getElem?_toArray, List.getElem?_cons_zero, List.getElem?_cons_succ]; rfl) (by kernel_rfl) (by kernel_rfl) (by kernel_rfl) (by intro _ _ _ h; exact h) (Or.inl ⟨by rfl, ?_⟩) (by assumption) ?_
                  rotate_left
                  · (intro w9 hSw; (try dsimp only at hSw); go_simp <;> with_reducible rfl)
                  try simp only [Act.put, List.setIfInBounds_toArray, List.set_cons_zero, List.set_cons_succ]
                  refine wpAnyH_take (i := 1) (v := ?_) (by simp only [List.getElem?_toArray, List.getElem?_cons_zero, List.getElem?_cons_succ]; rfl) (by kernel_rfl) (by kernel_rfl) (by kernel_rfl) (by intro _ _ _ h; exact h) (Or.inl ⟨by rfl, ?_⟩) (by assumption) ?_
                  rotate_left
                  · (intro w9 hSw; (try dsimp only at hSw); go_simp <;> with_reducible rfl)
                  try simp only [Act.put, List.setIfInBounds_toArray, List.set_cons_zero, List.set_cons_succ]
                  refine wpAnyH_take (i := 2) (v := ?_) (by simp only [List.getElem?_toArray, List.getElem?_cons_zero, List.getElem?_cons_succ]; rfl) (by kernel_rfl) (by kernel_rfl) (by kernel_rfl) (by intro _ _ _ h; exact h) (Or.inl ⟨by rfl, ?_⟩) (by assumption) ?_
                  rotate_left
                  · (intro w9 hSw; (try dsimp only at hSw); go_simp <;> with_reducible rfl)
                  try simp only [Act.put, List.setIfInBounds_toArray, List.set_cons_zero, List.set_cons_succ]
                  refine wpAnyH_take (i := 3) (v := ?_) (by simp only [List.getElem?_toArray, List.getElem?_cons_zero, List.getElem?_cons_succ]; rfl) (by kernel_rfl) (by kernel_rfl) (by kernel_rfl) (by intro _ _ _ h; exact h) (Or.inl ⟨by rfl, ?_⟩) (by assumption) ?_
                  rotate_left
                  · (intro w9 hSw; (try dsimp only at hSw); go_simp <;> with_reducible rfl)
                  try simp only [Act.put, List.setIfInBounds_toArray, List.set_cons_zero, List.set_cons_succ]
                  refine wpAnyH_take (i := 4) (v := ?_) (by simp only [List.getElem?_toArray, List.getElem?_cons_zero, List.getElem?_cons_succ]; rfl) (by kernel_rfl) (by kernel_rfl) (by kernel_rfl) (by intro _ _ _ h; exact h) (Or.inl ⟨by rfl, ?_⟩) (by assumption) ?_
                  rotate_left
                  · (intro w9 hSw; (try dsimp only at hSw); go_simp <;> with_reducible rfl)
                  try simp only [Act.put, List.setIfInBounds_toArray, List.set_cons_zero, List.set_cons_succ]
                  refine wpAnyH_take (i := 5) (v := ?_) (by simp only [List.getElem?_toArray, List.getElem?_cons_zero, List.getElem?_cons_succ]; rfl) (by kernel_rfl) (by kernel_rfl) (by kernel_rfl) (by intro _ _ _ h; exact h) (Or.inl ⟨by rfl, ?_⟩) (by assumption) ?_
                  rotate_left
                  · (intro w9 hSw; (try dsimp only at hSw); have y0 := (hSw.cell (p := ⟨gA, oA + ix * 7, none⟩) hgAr).trans r0; have y1 := (hSw.cell (p := ⟨gA, oA + ix * 7 + 1, none⟩) hgAr).trans r1; have y2 := (hSw.cell (p := ⟨gA, oA + ix * 7 + 1 + 1, none⟩) hgAr).trans r2; go_simp <;> with_reducible rfl)
                  try simp only [Act.put, List.setIfInBounds_toArray, List.set_cons_zero, List.set_cons_succ]
                  refine wpAnyH_take (i := 6) (v := ?_) (by simp only [List.getElem?_toArray, List.getElem?_cons_zero, List.getElem?_cons_succ]; rfl) (by kernel_rfl) (by kernel_rfl) (by kernel_rfl) (by intro _ _ _ h; exact h) (Or.inl ⟨by rfl, ?_⟩) (by assumption) ?_
                  rotate_left
                  · (intro w9 hSw; (try dsimp only at hSw); go_simp <;> with_reducible rfl)
                  try simp only [Act.put, List.setIfInBounds_toArray, List.set_cons_zero, List.set_cons_succ]
                  refine wpAnyH_take (i := 7) (v := ?_) (by simp only [List.getElem?_toArray, List.getElem?_cons_zero, List.getElem?_cons_succ]; rfl) (by kernel_rfl) (by kernel_rfl) (by kernel_rfl) (by intro _ _ _ h; exact h) (Or.inl ⟨by rfl, ?_⟩) (by assumption) ?_
                  rotate_left
                  · (intro w9 hSw; (try dsimp only at hSw); go_simp <;> with_reducible rfl)
                  try simp only [Act.put, List.setIfInBounds_toArray, List.set_cons_zero, List.set_cons_succ]
                  refine wpAnyH_take (i := 8) (v := ?_) (by simp only [List.getElem?_toArray, List.getElem?_cons_zero, List.getElem?_cons_succ]; rfl) (by kernel_rfl) (by kernel_rfl) (by kernel_rfl) (by intro _ _ _ h; exact h) (Or.inl ⟨by rfl, ?_⟩) (by assumption) ?_
                  rotate_left
                  · (intro w9 hSw; (try dsimp only at hSw); go_simp <;> with_reducible rfl)
                  try simp only [Act.put, List.setIfInBounds_toArray, List.set_cons_zero, List.set_cons_succ]
                  refine wpAnyH_take (i := 9) (v := ?_) (by simp only [List.getElem?_toArray, List.getElem?_cons_zero, List.getElem?_cons_succ]; rfl) (by kernel_rfl) (by kernel_rfl) (by kernel_rfl) (by intro _ _ _ h; exact h) (Or.inl ⟨by rfl, ?_⟩) (by assumption) ?_
                  rotate_left
                  · (intro w9 hSw; (try dsimp only at hSw); go_simp <;> with_reducible rfl)
                  try simp only [Act.put, List.setIfInBounds_toArray, List.set_cons_zero, List.set_cons_succ]
                  refine wpAnyH_take (i := 10) (v := ?_) (by simp only [List.getElem?_toArray, List.getElem?_cons_zero, List.getElem?_cons_succ]; rfl) (by kernel_rfl) (by kernel_rfl) (by kernel_rfl) (by intro _ _ _ h; exact h) (Or.inl ⟨by rfl, ?_⟩) (by assumption) ?_
                  rotate_left
                  · (intro w9 hSw; (try dsimp only at hSw); have y0 := (hSw.cell (p := ⟨gA, oA + ix * 7, none⟩) hgAr).trans r0; have y1 := (hSw.cell (p := ⟨gA, oA + ix * 7 + 1, none⟩) hgAr).trans r1; have y2 := (hSw.cell (p := ⟨gA, oA + ix * 7 + 1 + 1, none⟩) hgAr).trans r2; go_simp <;> with_reducible rfl)
                  try simp only [Act.put, List.setIfInBounds_toArray, List.set_cons_zero, List.set_cons_succ]
                  refine wpAnyH_ready (rs := [11, 15]) (by kernel_rfl) (by simp) ?_
                  refine AllReadyH.cons (by simp only [List.getElem?_toArray, List.getElem?_cons_zero, List.getElem?_cons_succ]; rfl) (fun K hK => ?_) (AllReadyH.cons (by simp only [List.getElem?_toArray, List.getElem?_cons_zero, List.getElem?_cons_succ]; rfl) (fun K hK => ?_) AllReadyH.nil)
                  · go_simp
                    (go_at_call 18; refine (find_is _ _ _ MM _ _ _ _ ((unhide HMr).below (bel_drew (Below.refl _ _))) HFd).mono ?_; rintro e9 wv ⟨rfl, hbwv⟩)
                    (try go_wp2_with fail)
                    refine hK.out _ _ ?_ (fun hHeld2 => ?_)
                    · (try dsimp only); exact bel_trans (bel_drew (Below.refl _ _)) hbwv
                    clear hK K hHeld
                    have hHeld := hHeld2
                    clear hHeld2
                    try simp only [Act.put, List.setIfInBounds_toArray, List.set_cons_zero, List.set_cons_succ]
                    refine wpAnyH_take (i := 12) (v := ?_) (by simp only [List.getElem?_toArray, List.getElem?_cons_zero, List.getElem?_cons_succ]; rfl) (by kernel_rfl) (by kernel_rfl) (by kernel_rfl) (by intro _ _ _ h; exact h) (Or.inl ⟨by rfl, ?_⟩) (by assumption) ?_
                    rotate_left
                    · (intro w9 hSw; (try dsimp only at hSw); go_simp <;> with_reducible rfl)
                    try simp only [Act.put, List.setIfInBounds_toArray, List.set_cons_zero, List.set_cons_succ]
                    refine wpAnyH_take (i := 13) (v := ?_) (by simp only [List.getElem?_toArray, List.getElem?_cons_zero, List.getElem?_cons_succ]; rfl) (by kernel_rfl) (by kernel_rfl) (by kernel_rfl) (by intro _ _ _ h; exact h) (Or.inl ⟨by rfl, ?_⟩) (by assumption) ?_
                    rotate_left
                    · (intro w9 hSw; (try dsimp only at hSw); go_simp <;> with_reducible rfl)
                    try simp only [Act.put, List.setIfInBounds_toArray, List.set_cons_zero, List.set_cons_succ]
                    refine wpAnyH_take (i := 14) (v := ?_) (by simp only [List.getElem?_toArray, List.getElem?_cons_zero, List.getElem?_cons_succ]; rfl) (by kernel_rfl) (by kernel_rfl) (by kernel_rfl) (by intro _ _ _ h; exact h) (Or.inl ⟨by rfl, ?_⟩) (by assumption) ?_
                    rotate_left
                    · (intro w9 hSw; (try dsimp only at hSw); go_simp <;> with_reducible rfl)
                    try simp only [Act.put, List.setIfInBounds_toArray, List.set_cons_zero, List.set_cons_succ]
                    refine wpAnyH_ready (rs := [15]) (by kernel_rfl) (by simp) ?_
                    refine AllReadyH.cons (by simp only [List.getElem?_toArray, List.getElem?_cons_zero, List.getElem?_cons_succ]; rfl) (fun K hK => ?_) AllReadyH.nil
                    go_simp
                    have hbv : Below ws9.heap.size ws9 (wv.alloc (.cells #[.int .i64 0, .int .i64 0, .int .i64 0, .int .i64 0] 37)) := bel_alloc (bel_trans (bel_drew (Below.refl _ _)) hbwv) _
                    refine hK.out _ _ ?_ (fun hHeld2 => ?_)
                    · (try dsimp only); exact hbv
                    clear hK K hHeld
                    have hHeld := hHeld2
                    clear hHeld2
                    try simp only [Act.put, List.setIfInBounds_toArray, List.set_cons_zero, List.set_cons_succ]
                    refine wpAnyH_ready (rs := [16]) (by kernel_rfl) (by simp) ?_
                    refine AllReadyH.cons (by simp only [List.getElem?_toArray, List.getElem?_cons_zero, List.getElem?_cons_succ]; rfl) (fun K hK => ?_) AllReadyH.nil
                    go_simp
                    have hF5 : Below ws9.heap.size ws9 (wv.alloc (.cells #[.int .i64 n, .int .i64 su, .int .i64 le, .int .i64 mo] 37)) := bel_alloc (bel_trans (bel_drew (Below.refl _ _)) hbwv) _
                    have hB5 : (wv.alloc (.cells #[.int .i64 n, .int .i64 su, .int .i64 le, .int .i64 mo] 37)).heap[wv.heap.size]? = some (.cells #[.int .i64 n, .int .i64 su, .int .i64 le, .int .i64 mo] 37 (0, 0)) := World.alloc_heap_new wv _
                    refine hK.out _ _ ?_ (fun hHeld2 => ?_)
                    · (try dsimp only); exact hF5
                    clear hK K hHeld
                    have hHeld := hHeld2
                    clear hHeld2
                    try simp only [Act.put, List.setIfInBounds_toArray, List.set_cons_zero, List.set_cons_succ]
                    refine wpAnyH_take (i := 17) (v := ?_) (by simp only [List.getElem?_toArray, List.getElem?_cons_zero, List.getElem?_cons_succ]; rfl) (by kernel_rfl) (by kernel_rfl) (by kernel_rfl) (by intro _ _ _ h; exact h) (Or.inl ⟨by rfl, ?_⟩) (by assumption) ?_
                    rotate_left
                    · (intro w9 hSw; (try dsimp only at hSw); go_simp <;> with_reducible rfl)
                    try simp only [Act.put, List.setIfInBounds_toArray, List.set_cons_zero, List.set_cons_succ]
                    refine wpAnyH_done (by kernel_rfl) ?_ _
                    clear hHeld
                    go_wp2
                    go_meet
                    exact ⟨_, rfl, rfl, hB5, hF5⟩
                  · go_simp
                    refine hK.out _ _ ?_ (fun hHeld2 => ?_)
                    · (try dsimp only); exact bel_alloc (bel_drew (Below.refl _ _)) (.cells #[.int .i64 0, .int .i64 0, .int .i64 0, .int .i64 0] 37)
                    clear hK K hHeld
                    have hHeld := hHeld2
                    clear hHeld2
                    try simp only [Act.put, List.setIfInBounds_toArray, List.set_cons_zero, List.set_cons_succ]
                    refine wpAnyH_ready (rs := [11]) (by kernel_rfl) (by simp) ?_
                    refine AllReadyH.cons (by simp only [List.getElem?_toArray, List.getElem?_cons_zero, List.getElem?_cons_succ]; rfl) (fun K hK => ?_) AllReadyH.nil
                    go_simp
                    (go_at_call 18; refine (find_is _ _ _ MM _ _ _ _ ((unhide HMr).below (bel_alloc (bel_drew (Below.refl _ _)) (.cells #[.int .i64 0, .int .i64 0, .int .i64 0, .int .i64 0] 37))) HFd).mono ?_; rintro e9 wv ⟨rfl, hbwv⟩)
                    (try go_wp2_with fail)
                    have hbv : Below ws9.heap.size ws9 wv := bel_trans (bel_alloc (bel_drew (Below.refl _ _)) (.cells #[.int .i64 0, .int .i64 0, .int .i64 0, .int .i64 0] 37)) hbwv
                    refine hK.out _ _ ?_ (fun hHeld2 => ?_)
                    · (try dsimp only); exact hbv
                    clear hK K hHeld
                    have hHeld := hHeld2
                    clear hHeld2
                    try simp only [Act.put, List.setIfInBounds_toArray, List.set_cons_zero, List.set_cons_succ]
                    refine wpAnyH_take (i := 12) (v := ?_) (by simp only [List.getElem?_toArray, List.getElem?_cons_zero, List.getElem?_cons_succ]; rfl) (by kernel_rfl) (by kernel_rfl) (by kernel_rfl) (by intro _ _ _ h; exact h) (Or.inl ⟨by rfl, ?_⟩) (by assumption) ?_
                    rotate_left
                    · (intro w9 hSw; (try dsimp only at hSw); go_simp <;> with_reducible rfl)
                    try simp only [Act.put, List.setIfInBounds_toArray, List.set_cons_zero, List.set_cons_succ]
                    refine wpAnyH_take (i := 13) (v := ?_) (by simp only [List.getElem?_toArray, List.getElem?_cons_zero, List.getElem?_cons_succ]; rfl) (by kernel_rfl) (by kernel_rfl) (by kernel_rfl) (by intro _ _ _ h; exact h) (Or.inl ⟨by rfl, ?_⟩) (by assumption) ?_
                    rotate_left
                    · (intro w9 hSw; (try dsimp only at hSw); go_simp <;> with_reducible rfl)
                    try simp only [Act.put, List.setIfInBounds_toArray, List.set_cons_zero, List.set_cons_succ]
                    refine wpAnyH_take (i := 14) (v := ?_) (by simp only [List.getElem?_toArray, List.getElem?_cons_zero, List.getElem?_cons_succ]; rfl) (by kernel_rfl) (by kernel_rfl) (by kernel_rfl) (by intro _ _ _ h; exact h) (Or.inl ⟨by rfl, ?_⟩) (by assumption) ?_
                    rotate_left
                    · (intro w9 hSw; (try dsimp only at hSw); go_simp <;> with_reducible rfl)
                    try simp only [Act.put, List.setIfInBounds_toArray, List.set_cons_zero, List.set_cons_succ]
                    have bB : wv.heap[ws9.heap.size]? = _ := (hbwv.block ws9.heap.size (by simp)).trans (World.alloc_heap_new ws9.drew _)
                    have zv : ws9.heap.size ≤ ws9.heap.size := Nat.le_refl _
                    have q0 := Joins.cell_of_block bB 0
                    have q1 := Joins.cell_of_block bB 1
                    have q2 := Joins.cell_of_block bB 2
                    have q3 := Joins.cell_of_block bB 3
                    simp only [List.getElem?_toArray, List.getElem?_cons_zero, List.getElem?_cons_succ] at q0 q1 q2 q3
                    have fr : ∀ j, (wv).frozen? ⟨ws9.heap.size, j, none⟩ = false := fun j => by simp [World.frozen?, bB]
                    have f00 := fr 0
                    have f01 := fr 1
                    have f02 := fr 2
                    have f03 := fr 3
                    clear fr
                    have hB5 : ((((wv.setCell ⟨ws9.heap.size, 0, none⟩ (.int .i64 n)).setCell ⟨ws9.heap.size, 1, none⟩ (.int .i64 su)).setCell ⟨ws9.heap.size, 2, none⟩ (.int .i64 le)).setCell ⟨ws9.heap.size, 3, none⟩ (.int .i64 mo)).heap[ws9.heap.size]? = some (.cells #[.int .i64 n, .int .i64 su, .int .i64 le, .int .i64 mo] 37 (0, 0)) := Joins.block_setCell (Joins.block_setCell (Joins.block_setCell (Joins.block_setCell bB _) _) _) _
                    have hF5 : Below ws9.heap.size ws9 ((((wv.setCell ⟨ws9.heap.size, 0, none⟩ (.int .i64 n)).setCell ⟨ws9.heap.size, 1, none⟩ (.int .i64 su)).setCell ⟨ws9.heap.size, 2, none⟩ (.int .i64 le)).setCell ⟨ws9.heap.size, 3, none⟩ (.int .i64 mo)) := bel_set (bel_set (bel_set (bel_set hbv zv _) zv _) zv _) zv _
                    refine wpAnyH_ready (rs := [16]) (by kernel_rfl) (by simp) ?_
                    refine AllReadyH.cons (by simp only [List.getElem?_toArray, List.getElem?_cons_zero, List.getElem?_cons_succ]; rfl) (fun K hK => ?_) AllReadyH.nil
                    go_simp
                    refine hK.out _ _ ?_ (fun hHeld2 => ?_)
                    · (try dsimp only); exact hF5
                    clear hK K hHeld
                    have hHeld := hHeld2
                    clear hHeld2
                    try simp only [Act.put, List.setIfInBounds_toArray, List.set_cons_zero, List.set_cons_succ]
                    refine wpAnyH_take (i := 17) (v := ?_) (by simp only [List.getElem?_toArray, List.getElem?_cons_zero, List.getElem?_cons_succ]; rfl) (by kernel_rfl) (by kernel_rfl) (by kernel_rfl) (by intro _ _ _ h; exact h) (Or.inl ⟨by rfl, ?_⟩) (by assumption) ?_
                    rotate_left
                    · (intro w9 hSw; (try dsimp only at hSw); go_simp <;> with_reducible rfl)
                    try simp only [Act.put, List.setIfInBounds_toArray, List.set_cons_zero, List.set_cons_succ]
                    refine wpAnyH_done (by kernel_rfl) ?_ _
                    clear hHeld q0 q1 q2 q3 f00 f01 f02 f03 bB
                    generalize ((((wv.setCell ⟨ws9.heap.size, 0, none⟩ (.int .i64 n)).setCell ⟨ws9.heap.size, 1, none⟩ (.int .i64 su)).setCell ⟨ws9.heap.size, 2, none⟩ (.int .i64 le)).setCell ⟨ws9.heap.size, 3, none⟩ (.int .i64 mo)) = we at *
                    go_wp2
                    go_meet
                    exact ⟨_, rfl, rfl, hB5, hF5⟩
                case rest =>
                  rename World => wv
                  obtain ⟨B, rfl, rfl, bB, hbv⟩ := hcut
                  have q0 := Joins.cell_of_block bB 0
                  have q1 := Joins.cell_of_block bB 1
                  have q2 := Joins.cell_of_block bB 2
                  have q3 := Joins.cell_of_block bB 3
                  simp only [List.getElem?_toArray, List.getElem?_cons_zero, List.getElem?_cons_succ] at q0 q1 q2 q3
                  have v3 := (hbv.cell (p := ⟨gA, oA + ix * 7 + 3, none⟩) hgAr).trans r3
                  have v4 : wv.cell? ⟨gA, oA + ix * 7 + 3 + 1, none⟩ = some (.int .i64 su) := (hbv.cell (p := ⟨gA, oA + ix * 7 + 4, none⟩) hgAr).trans r4
                  have v5 : wv.cell? ⟨gA, oA + ix * 7 + 3 + 2, none⟩ = some (.int .i64 le) := (hbv.cell (p := ⟨gA, oA + ix * 7 + 5, none⟩) hgAr).trans r5
                  have v6 : wv.cell? ⟨gA, oA + ix * 7 + 3 + 3, none⟩ = some (.int .i64 mo) := (hbv.cell (p := ⟨gA, oA + ix * 7 + 6, none⟩) hgAr).trans r6
                  clear r0 r1 r2 r3 r4 r5 r6 bB
                  go_wp2_with fail
                  go_quiet (fail)
                  go_wp2
                  refine ⟨⟨ix + 1, by omega, by go_num, bel_drewN (bel_trans hbw hbv) _⟩, by simp [intOf]; omega⟩
            · have HAr := hide (((unhide HAp).below hbw).below (bel_drew (Below.refl _ _)))
              replace HMr := hide ((unhide HMr).below (bel_drew (Below.refl _ _)))
              have bJ : wr.drew.heap[w1.heap.size]? = _ := (hbw.block w1.heap.size zJp).trans bJp
              have bX : wr.drew.heap[gx]? = _ := (hbw.block gx zXp).trans bXp
              have zr := hbw.size
              have hwD' := unhide hwD
              go_wp2_with fail
              refine wp_region_held_drew (S := (fun W => W.heap[w1.heap.size]? = some (.cells #[.int .i64 s, .int .i64 t, .int .i64 k, .int .i64 z, .int .i64 q, .int .i64 l, .int .i64 e, .bool b, .int .i64 v, .int .i64 r] 24 (0, 0)) ∧ W.heap[gx]? = some (.cells #[.int .i64 1, .int .i64 xT, .int .i64 xK, .int .i64 xV, .int .i64 0] 41 (0, 0)))) (by kernel_rfl) ?_ (fun hHeld => ?_)
              · (try dsimp only); exact ⟨bJ, bX⟩
              refine wpAnyH_take (i := 0) (v := ?_) (by simp only [List.getElem?_toArray, List.getElem?_cons_zero, List.getElem?_cons_succ]; rfl) (by kernel_rfl) (by kernel_rfl) (by kernel_rfl) (by intro _ _ _ h; exact h) (Or.inl ⟨by rfl, ?_⟩) (by assumption) ?_
              rotate_left
              · (intro w9 hSw; (try dsimp only at hSw); go_simp <;> with_reducible rfl)
              try simp only [Act.put, List.setIfInBounds_toArray, List.set_cons_zero, List.set_cons_succ]
              refine wpAnyH_take (i := 2) (v := ?_) (by simp only [List.getElem?_toArray, List.getElem?_cons_zero, List.getElem?_cons_succ]; rfl) (by kernel_rfl) (by kernel_rfl) (by kernel_rfl) (by intro _ _ _ h; exact h) (Or.inl ⟨by rfl, ?_⟩) (by assumption) ?_
              rotate_left
              · (intro w9 hSw; (try dsimp only at hSw); go_simp <;> with_reducible rfl)
              try simp only [Act.put, List.setIfInBounds_toArray, List.set_cons_zero, List.set_cons_succ]
              refine wpAnyH_take (i := 4) (v := ?_) (by simp only [List.getElem?_toArray, List.getElem?_cons_zero, List.getElem?_cons_succ]; rfl) (by kernel_rfl) (by kernel_rfl) (by kernel_rfl) (by intro _ _ _ h; exact h) (Or.inl ⟨by rfl, ?_⟩) (by assumption) ?_
              rotate_left
              · (intro w9 hSw; (try dsimp only at hSw); obtain ⟨q0, q1⟩ := hSw; have g0x0 : w9.cell? ⟨w1.heap.size, 0, none⟩ = some (.int .i64 s) := (by simp [World.cell?, q0, go_sem]); have g0x1 : w9.cell? ⟨w1.heap.size, 1, none⟩ = some (.int .i64 t) := (by simp [World.cell?, q0, go_sem]); have g0x2 : w9.cell? ⟨w1.heap.size, 2, none⟩ = some (.int .i64 k) := (by simp [World.cell?, q0, go_sem]); have g0x3 : w9.cell? ⟨w1.heap.size, 3, none⟩ = some (.int .i64 z) := (by simp [World.cell?, q0, go_sem]); have g0x4 : w9.cell? ⟨w1.heap.size, 4, none⟩ = some (.int .i64 q) := (by simp [World.cell?, q0, go_sem]); have g0x5 : w9.cell? ⟨w1.heap.size, 5, none⟩ = some (.int .i64 l) := (by simp [World.cell?, q0, go_sem]); have g0x6 : w9.cell? ⟨w1.heap.size, 6, none⟩ = some (.int .i64 e) := (by simp [World.cell?, q0, go_sem]); have g0x7 : w9.cell? ⟨w1.heap.size, 7, none⟩ = some (.bool b) := (by simp [World.cell?, q0, go_sem]); have g0x8 : w9.cell? ⟨w1.heap.size, 8, none⟩ = some (.int .i64 v) := (by simp [World.cell?, q0, go_sem]); have g0x9 : w9.cell? ⟨w1.heap.size, 9, none⟩ = some (.int .i64 r) := (by simp [World.cell?, q0, go_sem]); go_simp <;> with_reducible rfl)
              try simp only [Act.put, List.setIfInBounds_toArray, List.set_cons_zero, List.set_cons_succ]
              refine wpAnyH_take (i := 5) (v := ?_) (by simp only [List.getElem?_toArray, List.getElem?_cons_zero, List.getElem?_cons_succ]; rfl) (by kernel_rfl) (by kernel_rfl) (by kernel_rfl) (by intro _ _ _ h; exact h) (Or.inl ⟨by rfl, ?_⟩) (by assumption) ?_
              rotate_left
              · (intro w9 hSw; (try dsimp only at hSw); go_simp <;> with_reducible rfl)
              try simp only [Act.put, List.setIfInBounds_toArray, List.set_cons_zero, List.set_cons_succ]
              refine wpAnyH_take (i := 6) (v := ?_) (by simp only [List.getElem?_toArray, List.getElem?_cons_zero, List.getElem?_cons_succ]; rfl) (by kernel_rfl) (by kernel_rfl) (by kernel_rfl) (by intro _ _ _ h; exact h) (Or.inl ⟨by rfl, ?_⟩) (by assumption) ?_
              rotate_left
              · (intro w9 hSw; (try dsimp only at hSw); obtain ⟨q0, q1⟩ := hSw; have g1x0 : w9.cell? ⟨gx, 0, none⟩ = some (.int .i64 1) := (by simp [World.cell?, q1, go_sem]); have g1x1 : w9.cell? ⟨gx, 1, none⟩ = some (.int .i64 xT) := (by simp [World.cell?, q1, go_sem]); have g1x2 : w9.cell? ⟨gx, 2, none⟩ = some (.int .i64 xK) := (by simp [World.cell?, q1, go_sem]); have g1x3 : w9.cell? ⟨gx, 3, none⟩ = some (.int .i64 xV) := (by simp [World.cell?, q1, go_sem]); have g1x4 : w9.cell? ⟨gx, 4, none⟩ = some (.int .i64 0) := (by simp [World.cell?, q1, go_sem]); go_simp <;> with_reducible rfl)
              try simp only [Act.put, List.setIfInBounds_toArray, List.set_cons_zero, List.set_cons_succ]
              refine wpAnyH_ready (rs := [1]) (by kernel_rfl) (by simp) ?_
              refine AllReadyH.cons (by simp only [List.getElem?_toArray, List.getElem?_cons_zero, List.getElem?_cons_succ]; rfl) (fun K hK => ?_) AllReadyH.nil
              go_simp
              (go_at_call 11; refine (count_is _ _ _ MM _ (unhide HMr) HcM).mono ?_; rintro e9 wa ⟨rfl, hbwa⟩; have HAa := hide ((unhide HAr).below hbwa))
              (try go_wp2_with fail)
              have zwa := hbwa.size
              (try simp at zwa)
              have bJ := (hbwa.block (w1.heap.size) (by first | omega | (simp; done) | (simp; omega))).trans bJ
              have bX := (hbwa.block (gx) (by first | omega | (simp; done) | (simp; omega))).trans bX
              refine hK.out _ _ ?_ (fun hHeld2 => ?_)
              · (try dsimp only); exact ⟨bJ, bX⟩
              clear hK K hHeld
              have hHeld := hHeld2
              clear hHeld2
              try simp only [Act.put, List.setIfInBounds_toArray, List.set_cons_zero, List.set_cons_succ]
              refine wpAnyH_ready (rs := [3]) (by kernel_rfl) (by simp) ?_
              refine AllReadyH.cons (by simp only [List.getElem?_toArray, List.getElem?_cons_zero, List.getElem?_cons_succ]; rfl) (fun K hK => ?_) AllReadyH.nil
              go_simp
              (go_at_call 11; refine (count_is _ _ _ RR _ (unhide HAa) HcR).mono ?_; rintro e9 wb9 ⟨rfl, hbwb9⟩; skip)
              (try go_wp2_with fail)
              have zwb9 := hbwb9.size
              (try simp at zwb9)
              have bJ := (hbwb9.block (w1.heap.size) (by first | omega | (simp; done) | (simp; omega))).trans bJ
              have bX := (hbwb9.block (gx) (by first | omega | (simp; done) | (simp; omega))).trans bX
              refine hK.out _ _ ?_ (fun hHeld2 => ?_)
              · (try dsimp only); exact ⟨bJ, bX⟩
              clear hK K hHeld
              have hHeld := hHeld2
              clear hHeld2
              try simp only [Act.put, List.setIfInBounds_toArray, List.set_cons_zero, List.set_cons_succ]
              refine wpAnyH_ready (rs := [7]) (by kernel_rfl) (by simp) ?_
              refine AllReadyH.cons (by simp only [List.getElem?_toArray, List.getElem?_cons_zero, List.getElem?_cons_succ]; rfl) (fun K hK => ?_) AllReadyH.nil
              go_simp
              (go_at_call 19; refine (winof_is s t k z q l e b v r _ _ HW).mono ?_; rintro e9 wc9 ⟨aw, cw, rfl, hbwc9⟩)
              (try go_wp2_with fail)
              have zwc9 := hbwc9.size
              (try simp at zwc9)
              have bJ := (hbwc9.block (w1.heap.size) (by first | omega | (simp; done) | (simp; omega))).trans bJ
              have bX := (hbwc9.block (gx) (by first | omega | (simp; done) | (simp; omega))).trans bX
              refine hK.out _ _ ?_ (fun hHeld2 => ?_)
              · (try dsimp only); exact ⟨bJ, bX⟩
              clear hK K hHeld
              have hHeld := hHeld2
              clear hHeld2
              try simp only [Act.put, List.setIfInBounds_toArray, List.set_cons_zero, List.set_cons_succ]
              refine wpAnyH_take (i := 8) (v := ?_) (by simp only [List.getElem?_toArray, List.getElem?_cons_zero, List.getElem?_cons_succ]; rfl) (by kernel_rfl) (by kernel_rfl) (by kernel_rfl) (by intro _ _ _ h; exact h) (Or.inl ⟨by rfl, ?_⟩) (by assumption) ?_
              rotate_left
              · (intro w9 hSw; (try dsimp only at hSw); go_simp <;> with_reducible rfl)
              try simp only [Act.put, List.setIfInBounds_toArray, List.set_cons_zero, List.set_cons_succ]
              refine wpAnyH_take (i := 9) (v := ?_) (by simp only [List.getElem?_toArray, List.getElem?_cons_zero, List.getElem?_cons_succ]; rfl) (by kernel_rfl) (by kernel_rfl) (by kernel_rfl) (by intro _ _ _ h; exact h) (Or.inl ⟨by rfl, ?_⟩) (by assumption) ?_
              rotate_left
              · (intro w9 hSw; (try dsimp only at hSw); go_simp <;> with_reducible rfl)
              try simp only [Act.put, List.setIfInBounds_toArray, List.set_cons_zero, List.set_cons_succ]
              refine wpAnyH_take (i := 10) (v := ?_) (by simp only [List.getElem?_toArray, List.getElem?_cons_zero, List.getElem?_cons_succ]; rfl) (by kernel_rfl) (by kernel_rfl) (by kernel_rfl) (by intro _ _ _ h; exact h) (Or.inl ⟨by rfl, ?_⟩) (by assumption) ?_
              rotate_left
              · (intro w9 hSw; (try dsimp only at hSw); go_simp <;> with_reducible rfl)
              try simp only [Act.put, List.setIfInBounds_toArray, List.set_cons_zero, List.set_cons_succ]
              refine wpAnyH_take (i := 11) (v := ?_) (by simp only [List.getElem?_toArray, List.getElem?_cons_zero, List.getElem?_cons_succ]; rfl) (by kernel_rfl) (by kernel_rfl) (by kernel_rfl) (by intro _ _ _ h; exact h) (Or.inl ⟨by rfl, ?_⟩) (by assumption) ?_
              rotate_left
              · (intro w9 hSw; (try dsimp only at hSw); go_simp <;> with_reducible rfl)
              try simp only [Act.put, List.setIfInBounds_toArray, List.set_cons_zero, List.set_cons_succ]
              refine wpAnyH_ready (rs := [12]) (by kernel_rfl) (by simp) ?_
              refine AllReadyH.cons (by simp only [List.getElem?_toArray, List.getElem?_cons_zero, List.getElem?_cons_succ]; rfl) (fun K hK => ?_) AllReadyH.nil
              go_simp
              (go_at_call 16; refine (frok_any _).mono ?_; rintro e9 wd9 ⟨rfl, hbwd9⟩)
              (try go_wp2_with fail)
              have zwd9 := hbwd9.size
              (try simp at zwd9)
              have bJ := (hbwd9.block (w1.heap.size) (by first | omega | (simp; done) | (simp; omega))).trans bJ
              have bX := (hbwd9.block (gx) (by first | omega | (simp; done) | (simp; omega))).trans bX
              refine hK.out _ _ ?_ (fun hHeld2 => ?_)
              · (try dsimp only); exact ⟨bJ, bX⟩
              clear hK K hHeld
              have hHeld := hHeld2
              clear hHeld2
              try simp only [Act.put, List.setIfInBounds_toArray, List.set_cons_zero, List.set_cons_succ]
              refine wpAnyH_take (i := 13) (v := ?_) (by simp only [List.getElem?_toArray, List.getElem?_cons_zero, List.getElem?_cons_succ]; rfl) (by kernel_rfl) (by kernel_rfl) (by kernel_rfl) (by intro _ _ _ h; exact h) (Or.inl ⟨by rfl, ?_⟩) (by assumption) ?_
              rotate_left
              · (intro w9 hSw; (try dsimp only at hSw); go_simp <;> with_reducible rfl)
              try simp only [Act.put, List.setIfInBounds_toArray, List.set_cons_zero, List.set_cons_succ]
              refine wpAnyH_take (i := 14) (v := ?_) (by simp only [List.getElem?_toArray, List.getElem?_cons_zero, List.getElem?_cons_succ]; rfl) (by kernel_rfl) (by kernel_rfl) (by kernel_rfl) (by intro _ _ _ h; exact h) (Or.inl ⟨by rfl, ?_⟩) (by assumption) ?_
              rotate_left
              · (intro w9 hSw; (try dsimp only at hSw); go_simp <;> with_reducible rfl)
              try simp only [Act.put, List.setIfInBounds_toArray, List.set_cons_zero, List.set_cons_succ]
              refine wpAnyH_done (by kernel_rfl) ?_ _
              go_wp2
              go_ret
              exact ⟨rfl, bel_trans (bel_trans (bel_trans (bel_trans (bel_drew (bel_trans hbAp hbw)) hbwa) hbwb9) hbwc9) hbwd9⟩
  · go_enter Tryz.func6, Tryz.ntmps6
    go_wp2
    go_ret
    exact ⟨rfl, Below.refl _ _⟩
end Go.Proofs.YtbockbdlojkpiaaGreat
