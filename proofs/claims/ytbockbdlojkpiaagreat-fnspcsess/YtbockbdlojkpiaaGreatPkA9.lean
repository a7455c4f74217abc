/- Laid together: texts that were built one by one. -/
import Derived.Test.YtbockbdlojkpiaaGreatPkA8
import Derived.BigQuiet
/- Proved here, over lists alone: sessions are as far as their records go. -/
namespace Go.Proofs.YtbockbdlojkpiaaGreat
open Go.RowKit
set_option linter.unusedVariables false
set_option linter.unusedSimpArgs false

/-- What the law asks of sessions. -/
structure SesQ (z : Int) (xs : List IwR) (r : TbR) : Prop where
  zz : 1 ≤ z ∧ z ≤ 20
  tms : ∀ x ∈ xs, 0 ≤ x.tm ∧ x.tm ≤ 60
  bd : 0 ≤ r.st ∧ r.st < r.en ∧ r.en ≤ 80
  first : ∃ x ∈ xs, x.ke = r.ky ∧ x.tm = r.st
  last : ∃ x ∈ xs, x.ke = r.ky ∧ r.st ≤ x.tm ∧ x.tm + z = r.en
  bound : ∀ x ∈ xs, x.ke = r.ky → r.st ≤ x.tm → x.tm < r.en → x.tm + z ≤ r.en
  gap : ∀ u n, r.st ≤ u → n < r.en → u + z ≤ n → ∃ x ∈ xs, x.ke = r.ky ∧ u < x.tm ∧ x.tm < n
theorem pairs_s (s t z l e v r : Int) (xs : List IwR) : ∀ q ∈ tabP 3 (pairsT s t 3 z 0 l e v r xs), SesQ z xs q := by
  have hwv := pairsT_wv s t 3 z 0 l e v r xs
  unfold pairsT at hwv ⊢
  split
  · rename_i hc
    rw [if_pos hc] at hwv
    simp only [Bool.and_eq_true] at hc
    obtain ⟨hz, _, _, _⟩ := okJob_q hc.1
    have hw : ∀ x ∈ prsT 3 z 0 xs, x.st < x.en := fun x h => (hwv x h).1
    have h := tabP3_ok _ (prsT 3 z 0 xs) rfl (Nat.le_trans (prsT_le hc.2 3 z 0) (by omega)) hw (fun x h => (hwv x h).2)
    generalize tabP 3 (prsT 3 z 0 xs) = rows at h
    have hmk : ∀ y ∈ prsT 3 z 0 xs, ∃ x ∈ xs, y = mkP x ⟨x.tm, x.tm + z⟩ := fun y hy => by
      obtain ⟨x, hx, w, hw9, rfl⟩ := mem_prsT hy
      have e9 : winsOf 3 z 0 x.tm = [⟨x.tm, x.tm + z⟩] := rfl
      rw [e9, List.mem_singleton] at hw9
      exact ⟨x, hx, by rw [hw9]⟩
    intro q hq
    obtain ⟨y1, m1, i1, e1⟩ := h.loX hw hq
    obtain ⟨y2, m2, i2, e2⟩ := h.hiX hw hq
    obtain ⟨x1, hx1, rfl⟩ := hmk y1 m1
    obtain ⟨x2, hx2, rfl⟩ := hmk y2 m2
    have j1 := inR_iff.1 i1
    have j2 := inR_iff.1 i2
    have t1 := (recs_of hc.2 hx1).1
    have t2 := (recs_of hc.2 hx2).1
    simp only [mkP] at e1 e2 j1 j2
    refine ⟨hz, fun x hx => (recs_of hc.2 hx).1, by omega, ⟨x1, hx1, j1.1, e1⟩, ⟨x2, hx2, j2.1, j2.2.1, e2⟩, ?_, ?_⟩
    · intro x hx hk hlo hhi
      have h1 := ses_inT hz.1 h hq hx
      rw [inT_iff.2 ⟨hk, hlo, hhi⟩] at h1
      have := (inR_iff.1 h1).2.2
      simpa [mkP] using this
    · intro u n hu hn hun
      obtain ⟨y, hy, k1, k2, k3⟩ := h.inn q hq (u + z) (by omega) (by omega)
      obtain ⟨x, hx, rfl⟩ := hmk y hy
      simp only [mkP] at k1 k2 k3
      exact ⟨x, hx, k1, by omega, by omega⟩
  · intro q hq
    simp [tabP] at hq
/-- A record of the session, behind a time. -/
def aftB (ky en u : Int) (x : IwR) : Bool := decide (x.ke = ky ∧ u < x.tm ∧ x.tm < en)
theorem aft_iff {ky en u : Int} {x : IwR} : aftB ky en u x = true ↔ (x.ke = ky ∧ u < x.tm ∧ x.tm < en) := by simp [aftB]
/-- The next time behind one. -/
def NxIs (ky en u : Int) (xs : List IwR) (nx : Int) : Prop := (nx = -1 ∧ ∀ x ∈ xs, aftB ky en u x = false) ∨ (0 ≤ nx ∧ (∃ x ∈ xs, aftB ky en u x = true ∧ x.tm = nx) ∧ ∀ x ∈ xs, aftB ky en u x = true → nx ≤ x.tm)
theorem NxIs.nil (ky en u : Int) : NxIs ky en u [] (-1) := .inl ⟨rfl, by simp⟩
theorem NxIs.no {ky en u : Int} {xs : List IwR} {nx : Int} (h : NxIs ky en u xs nx) {x : IwR} (hx : aftB ky en u x = false) : NxIs ky en u (xs ++ [x]) nx := by
  rcases h with ⟨h1, h2⟩ | ⟨h0, ⟨y, hy, hy2⟩, h2⟩
  · refine .inl ⟨h1, fun y hy => ?_⟩
    rcases List.mem_append.1 hy with h9 | h9
    · exact h2 y h9
    · simp at h9; subst h9; exact hx
  · refine .inr ⟨h0, ⟨y, List.mem_append_left _ hy, hy2⟩, fun y9 hy9 h8 => ?_⟩
    rcases List.mem_append.1 hy9 with h9 | h9
    · exact h2 y9 h9 h8
    · simp at h9; subst h9; rw [hx] at h8; cases h8
theorem NxIs.far {ky en u : Int} {xs : List IwR} {nx : Int} (h : NxIs ky en u xs nx) {x : IwR} (h0 : ¬ nx < 0) (hx : ¬ x.tm < nx) : NxIs ky en u (xs ++ [x]) nx := by
  rcases h with ⟨h1, h2⟩ | ⟨h1, ⟨y, hy, hy2⟩, h2⟩
  · omega
  · refine .inr ⟨h1, ⟨y, List.mem_append_left _ hy, hy2⟩, fun y9 hy9 h8 => ?_⟩
    rcases List.mem_append.1 hy9 with h9 | h9
    · exact h2 y9 h9 h8
    · simp at h9; subst h9; omega
theorem NxIs.yes {ky en u : Int} {xs : List IwR} {nx : Int} (h : NxIs ky en u xs nx) {x : IwR} (hx : aftB ky en u x = true) (ht : 0 ≤ x.tm) (hl : nx < 0 ∨ x.tm < nx) : NxIs ky en u (xs ++ [x]) x.tm := by
  refine .inr ⟨ht, ⟨x, List.mem_append_right _ (by simp), hx, rfl⟩, fun y9 hy9 h8 => ?_⟩
  rcases List.mem_append.1 hy9 with h9 | h9
  · rcases h with ⟨h1, h2⟩ | ⟨h1, _, h2⟩
    · rw [h2 y9 h9] at h8; cases h8
    · have := h2 y9 h9 h8
      omega
  · simp at h9; subst h9; exact Int.le_refl _
theorem filter_lt {α : Type} (p q : α → Bool) : ∀ (xs : List α), (∀ y ∈ xs, p y = true → q y = true) → (∃ y ∈ xs, q y = true ∧ p y = false) → (xs.filter p).length < (xs.filter q).length
  | [], _, h => by obtain ⟨y, hy, _⟩ := h; cases hy
  | x :: t, h, ⟨y, hy, hq, hp⟩ => by
    have hle : ∀ (ys : List α), (∀ y ∈ ys, p y = true → q y = true) → (ys.filter p).length ≤ (ys.filter q).length := by
      intro ys
      induction ys with
      | nil => intro _; exact Nat.le_refl _
      | cons a b ih =>
        intro h9
        have := ih (fun y hy => h9 y (List.mem_cons_of_mem _ hy))
        have h8 := h9 a (by simp)
        cases hpa : p a
        · cases hqa : q a <;> simp [List.filter_cons, hpa, hqa] <;> omega
        · simp [List.filter_cons, hpa, h8 hpa]; omega
    have ht := hle t (fun y hy => h y (List.mem_cons_of_mem _ hy))
    rcases List.mem_cons.1 hy with rfl | h9
    · simp [List.filter_cons, hq, hp]; omega
    · have ih := filter_lt p q t (fun y hy => h y (List.mem_cons_of_mem _ hy)) ⟨y, h9, hq, hp⟩
      have h8 := h x (by simp)
      cases hpa : p x
      · cases hqa : q x <;> simp [List.filter_cons, hpa, hqa] <;> omega
      · simp [List.filter_cons, hpa, h8 hpa]; omega
/-- So far along a session. -/
def AtIs (ky st en : Int) (xs : List IwR) (m : Nat) (u : Int) : Prop := (∃ x ∈ xs, x.ke = ky ∧ x.tm = u) ∧ st ≤ u ∧ u < en ∧ ((xs.filter (aftB ky en u)).length + m ≤ xs.length ∨ (xs.filter (aftB ky en u)).length = 0)
theorem SesQ.at0 {z : Int} {xs : List IwR} {r : TbR} (h : SesQ z xs r) : AtIs r.ky r.st r.en xs 0 r.st :=
  ⟨h.first, Int.le_refl _, h.bd.2.1, .inl (by have := List.length_filter_le (aftB r.ky r.en r.st) xs; omega)⟩
theorem AtIs.stay {ky st en : Int} {xs : List IwR} {m : Nat} {u nx : Int} (h : AtIs ky st en xs m u) (hn : NxIs ky en u xs nx) (h0 : ¬ 0 ≤ nx) : AtIs ky st en xs (m + 1) u := by
  refine ⟨h.1, h.2.1, h.2.2.1, .inr ?_⟩
  rcases hn with ⟨_, h2⟩ | ⟨h1, _⟩
  · rw [List.filter_eq_nil_iff.2 (fun y hy => by rw [h2 y hy]; simp)]
    rfl
  · omega
theorem AtIs.move {ky st en : Int} {xs : List IwR} {m : Nat} {u nx : Int} (h : AtIs ky st en xs m u) (hn : NxIs ky en u xs nx) (h0 : 0 ≤ nx) : AtIs ky st en xs (m + 1) nx := by
  rcases hn with ⟨h1, _⟩ | ⟨_, ⟨y, hy, hy2, rfl⟩, h2⟩
  · omega
  · have j := aft_iff.1 hy2
    obtain ⟨_, h3, h4, h5⟩ := h
    refine ⟨⟨y, hy, j.1, rfl⟩, by omega, j.2.2, .inl ?_⟩
    have h6 : (xs.filter (aftB ky en y.tm)).length < (xs.filter (aftB ky en u)).length := filter_lt _ _ xs (fun x hx hp => by
      have := aft_iff.1 hp
      exact aft_iff.2 ⟨this.1, by omega, this.2.2⟩) ⟨y, hy, hy2, by simp [aftB]⟩
    have h7 := List.length_filter_le (aftB ky en u) xs
    rcases h5 with h5 | h5 <;> omega
theorem SesQ.near {z : Int} {xs : List IwR} {r : TbR} (h : SesQ z xs r) {m : Nat} {u nx : Int} (ha : AtIs r.ky r.st r.en xs m u) (hn : NxIs r.ky r.en u xs nx) (h0 : 0 ≤ nx) : nx - u < z := by
  rcases hn with ⟨h1, _⟩ | ⟨_, ⟨y, hy, hy2, rfl⟩, h2⟩
  · omega
  · have j := aft_iff.1 hy2
    by_cases hc : y.tm - u < z
    · exact hc
    · exfalso
      obtain ⟨x, hx, k1, k2, k3⟩ := h.gap u y.tm ha.2.1 j.2.2 (by omega)
      have := h2 x hx (aft_iff.2 ⟨k1, k2, by omega⟩)
      omega
theorem SesQ.fin {z : Int} {xs : List IwR} {r : TbR} (h : SesQ z xs r) {u : Int} (ha : AtIs r.ky r.st r.en xs xs.length u) : u + z = r.en := by
  obtain ⟨⟨x, hx, hk, rfl⟩, h1, h2, h3⟩ := ha
  have h4 : (xs.filter (aftB r.ky r.en x.tm)).length = 0 := by omega
  have h5 := h.bound x hx hk h1 h2
  obtain ⟨y, hy, k1, k2, k3⟩ := h.last
  have hz := h.zz
  by_cases hc : x.tm < y.tm
  · exfalso
    have h6 := List.eq_nil_of_length_eq_zero h4
    have h7 := List.filter_eq_nil_iff.1 h6 y hy
    exact h7 (aft_iff.2 ⟨k1, hc, by omega⟩)
  · omega
/-- Whether a record begins the session. -/
def fstB (ky st : Int) (x : IwR) : Bool := decide (x.ke = ky ∧ x.tm = st)
theorem SesQ.fst {z : Int} {xs : List IwR} {r : TbR} (h : SesQ z xs r) : xs.any (fstB r.ky r.st) = true := by
  obtain ⟨x, hx, h1, h2⟩ := h.first
  exact List.any_eq_true.2 ⟨x, hx, by simp [fstB, h1, h2]⟩
theorem any_snoc {f : IwR → Bool} {xs : List IwR} {i : Nat} {x : IwR} (h : xs[i]? = some x) : (xs.take (i + 1)).any f = ((xs.take i).any f || f x) := by
  rw [take_snocI h, List.any_append]
  simp
end Go.Proofs.YtbockbdlojkpiaaGreat
/- Proved here: the law that a session is as far as its records go returns true at every code. -/
namespace Go.Proofs.YtbockbdlojkpiaaGreat
open Go.ChangeShapes Go.WideShapes Go.ChangeAt Go.RowKit
set_option linter.unusedVariables false

set_option linter.unusedSimpArgs false
set_option maxRecDepth 40000 in
set_option maxHeartbeats 8000000 in
theorem lawSpcSessP (a : Option Addr) (len cap : Nat) (w : World) (hlc : len ≤ cap) (hm : len ≤ maxLen) (hb : BytesAt w a len) (hl : ∀ g o, a = some ⟨g, o, none⟩ → 0 < len → g < w.heap.size) (hn : a = none → cap = 0) : Calls Tryz.prog 5 #[.slice a len cap] w fun e w' => e = .returned (.bool true) ∧ Below w.heap.size w w' := by
  unfold maxLen at hm
  by_cases hlen : (len : Int) ≤ 1048576
  · have hd := hide (drawtab_any a len cap w hlc (by omega) hb hl hn)
    clear hb hl hn
    go_enter Tryz.func5, Tryz.ntmps5
    go_wp2_with fail
    refine (unhide hd).mono ?_
    rintro e' w1 ⟨s, t, k, z, q, l, e, b, v, r, u, xs, rfl, hO, hnn, hxl, hb1⟩
    obtain ⟨g0, o0, cr, rfl, hcr, HX0⟩ := some_sl hO hnn (by omega)
    clear hd hO hnn
    obtain ⟨RR, hRR⟩ : ∃ RR, tabP 3 (pairsT s t 3 z 0 l e v r xs) = RR := ⟨_, rfl⟩
    have hQ0 := pairs_s s t z l e v r xs
    have hRl : RR.length ≤ 7320 := by rw [← hRR]; exact Nat.le_trans (tabP_len _ _) (pairsT_le _ _ _ _ _ _ _ _ _ _)
    rw [hRR] at hQ0
    have HQ := hide hQ0
    have HR := hide hRR
    have hbJ : Below w1.heap.size w1 (w1.alloc (.cells #[.int .i64 s, .int .i64 t, .int .i64 3, .int .i64 z, .int .i64 0, .int .i64 l, .int .i64 e, .bool b, .int .i64 v, .int .i64 r] 24)) := bel_one _ _
    have HXj := hide (HX0.below hbJ)
    clear hRR hQ0 HX0
    go_wp2_with fail
    refine (tabI_is s t 3 z 0 l e b v r _ _ _ xs _ RR (unhide HXj) HR).mono ?_
    rintro e' w2 ⟨ar, car, rfl, hT2, hb2⟩
    have HA := hide hT2
    have HX := hide ((unhide HXj).below hb2)
    have zJ : w1.heap.size < w2.heap.size := by have := hb2.size; simp at this; omega
    have bJ : w2.heap[w1.heap.size]? = some (.cells #[.int .i64 s, .int .i64 t, .int .i64 3, .int .i64 z, .int .i64 0, .int .i64 l, .int .i64 e, .bool b, .int .i64 v, .int .i64 r] 24 (0, 0)) := (hb2.block w1.heap.size (by simp)).trans (World.alloc_heap_new w1 _)
    have hbA2 : Below w.heap.size w w2 := bel_trans (bel_alloc hb1 _) hb2
    have j0 := Joins.cell_of_block bJ 0
    have j1 := Joins.cell_of_block bJ 1
    have j2 := Joins.cell_of_block bJ 2
    have j3 := Joins.cell_of_block bJ 3
    have j4 := Joins.cell_of_block bJ 4
    have j5 := Joins.cell_of_block bJ 5
    have j6 := Joins.cell_of_block bJ 6
    have j7 := Joins.cell_of_block bJ 7
    have j8 := Joins.cell_of_block bJ 8
    have j9 := Joins.cell_of_block bJ 9
    simp only [List.getElem?_toArray, List.getElem?_cons_zero, List.getElem?_cons_succ] at j0 j1 j2 j3 j4 j5 j6 j7 j8 j9
    clear hT2 HXj hbJ hb1 hb2
    go_wp2_with fail
    clear j0 j1 j2 j3 j4 j5 j6 j7 j8 j9
    refine (tabS_is s t 3 z 0 l e b v r _ _ _ xs _ RR (unhide HX) HR).mono ?_
    rintro e' w3 ⟨d3, cd3, rfl, hT3, hb3⟩
    have HT3 := hide hT3
    have HX3 := hide ((unhide HX).below hb3)
    have HA3 := hide ((unhide HA).below hb3)
    clear hT3
    go_wp2_with fail
    refine (frtab_o _ _ _ _ _ RR _ (unhide HA3) (unhide HT3)).mono ?_
    rintro e' w4 ⟨rfl, hb4⟩
    have HX4 := hide ((unhide HX3).below hb4)
    have HA4 := hide ((unhide HA3).below hb4)
    have hbA4 : Below w.heap.size w w4 := bel_trans (bel_trans hbA2 hb3) hb4
    have z4 : w1.heap.size < w4.heap.size := by have := hb3.size; have := hb4.size; omega
    have jz : w4.cell? ⟨w1.heap.size, 3, none⟩ = some (.int .i64 z) := (hb4.cell (p := ⟨w1.heap.size, 3, none⟩) (show w1.heap.size < w3.heap.size by have := hb3.size; omega)).trans ((hb3.cell (p := ⟨w1.heap.size, 3, none⟩) zJ).trans (Joins.cell_of_block bJ 3))
    clear HT3 HX HX3 HA HA3 HR hb3 hb4 hbA2 bJ zJ
    go_wp2
    go_loopw [6] (fun iv wr => ∃ ix : Nat, ix ≤ RR.length ∧ iv = .int .i64 ix ∧ Below w4.heap.size w4 wr) (fun iv _ => RR.length - (intOf iv).toNat)
    case atStart => exact ⟨0, Nat.zero_le _, rfl, Below.refl _ _⟩
    case round =>
      obtain ⟨ix, hix, rfl, hbw⟩ := hrel
      by_cases hlt : (ix : Int) < (RR.length : Int)
      · obtain ⟨x, hxi⟩ : ∃ x, RR[ix]? = some x := ⟨_, List.getElem?_eq_getElem (by omega)⟩
        have hSq := unhide HQ x (List.mem_of_getElem? hxi)
        obtain ⟨_, _, hy⟩ := unhide HA4
        obtain ⟨gA, oA, rfl, hrA⟩ := hy.resolve_left (by omega)
        have hgA : gA < w4.heap.size := hrA.lt (by omega)
        obtain ⟨c0, c1, c2, _, _, _, _⟩ := (hrA ix _ hxi).below hbw hgA
        clear hrA hy hxi HA4
        have hxp : 0 < xs.length := by
          obtain ⟨x9, hx9, _⟩ := hSq.first
          exact List.length_pos_of_mem hx9
        obtain ⟨_, _, hyX⟩ := unhide HX4
        obtain ⟨g1, o1, e1, hrX⟩ := hyX.resolve_left (by omega)
        cases e1
        have hg0 : g0 < w4.heap.size := hrX.lt (by omega)
        obtain ⟨ky, st, en, n, su, le, mo⟩ := x
        dsimp only at c0 c1 c2
        have HSq := hide hSq
        have hbd := hSq.bd
        have hzz := hSq.zz
        have Hat0 := hide hSq.at0
        dsimp only at hbd hzz Hat0
        obtain ⟨wz, hwz⟩ : ∃ wz, wz = wr := ⟨_, rfl⟩
        subst hwz
        have zz : w4.heap.size ≤ wz.heap.size := hbw.size
        have c2' : wz.cell? ⟨gA, oA + ix * 7 + 1 + 1, none⟩ = some (.int .i64 en) := c2
        have hgz : gA < wz.heap.size := by omega
        clear hSq
        go_wp2
        have hbA : Below wz.heap.size wz (wz.alloc (.cells #[.int .i64 st, .int .i64 en] 35)) := bel_one _ _
        have q0 : (wz.alloc (.cells #[.int .i64 st, .int .i64 en] 35)).cell? ⟨wz.heap.size, 0, none⟩ = some (.int .i64 st) := by simp [go_sem]
        have q1 : (wz.alloc (.cells #[.int .i64 st, .int .i64 en] 35)).cell? ⟨wz.heap.size, 1, none⟩ = some (.int .i64 en) := by simp [go_sem]
        have zb : wz.heap.size < (wz.alloc (.cells #[.int .i64 st, .int .i64 en] 35)).heap.size := by simp
        generalize wz.alloc (.cells #[.int .i64 st, .int .i64 en] 35) = wb at hbA q0 q1 zb ⊢
        have hb4b : Below w4.heap.size w4 wb := hbw.trans (hbA.mono zz)
        replace c0 := (hbA.cell (p := ⟨gA, oA + ix * 7, none⟩) hgz).trans c0
        have jzb : wb.cell? ⟨w1.heap.size, 3, none⟩ = some (.int .i64 z) := (hb4b.cell (p := ⟨w1.heap.size, 3, none⟩) z4).trans jz
        have HXb := hide (fun k9 y9 (h9 : xs[k9]? = some y9) => (hrX k9 y9 h9).below hb4b hg0)
        have hgb : g0 < wb.heap.size := Nat.lt_of_lt_of_le hg0 hb4b.size
        have hgAb : gA < wb.heap.size := Nat.lt_of_lt_of_le hgA hb4b.size
        have zJb : w1.heap.size < wb.heap.size := Nat.lt_of_lt_of_le z4 hb4b.size
        clear c1 c2 c2' hbA hbw hrX hyX HX4 hgz jz
        go_loopw [8, 9] (fun uv nv wk => ∃ (m : Nat) (u : Int), m ≤ xs.length ∧ uv = .int .i64 u ∧ nv = .int .i64 m ∧ 0 ≤ u ∧ u ≤ 80 ∧ Hid (AtIs ky st en xs m u) ∧ Below wb.heap.size wb wk) (fun _ nv _ => xs.length - (intOf nv).toNat)
        case atStart => exact ⟨0, st, Nat.zero_le _, rfl, rfl, by omega, by omega, Hat0, Below.refl _ _⟩
        case round =>
          obtain ⟨m, u, hml, rfl, rfl, hu0, hu1, HAt, hbm⟩ := hrel
          by_cases hlm : (m : Int) < (xs.length : Int)
          · obtain ⟨wn, hwn⟩ : ∃ wn, wn = wr := ⟨_, rfl⟩
            subst hwn
            go_wp2
            go_loopw [10, 11] (fun xv kv wk => ∃ (kx : Nat) (nx : Int), kx ≤ xs.length ∧ kv = .int .i64 kx ∧ xv = .int .i64 nx ∧ (-1 ≤ nx ∧ nx ≤ 80) ∧ Hid (NxIs ky en u (xs.take kx) nx) ∧ Below wb.heap.size wb wk) (fun _ kv _ => xs.length - (intOf kv).toNat)
            case atStart => exact ⟨0, -1, Nat.zero_le _, rfl, rfl, by omega, hide (NxIs.nil _ _ _), hbm⟩
            case round =>
              obtain ⟨kx, nx, hkx, rfl, rfl, hnb, HNx, hbk⟩ := hrel
              by_cases hlk : (kx : Int) < (xs.length : Int)
              · skip
                obtain ⟨y, hyi⟩ : ∃ y, xs[kx]? = some y := ⟨_, List.getElem?_eq_getElem (by omega)⟩
                have Hyi := hide hyi
                have htm := (unhide HSq).tms y (List.mem_of_getElem? hyi)
                have f1 := (hbk.cell (p := ⟨g0, o0 + kx * 5 + 1, none⟩) hgb).trans (unhide HXb kx _ hyi).2.1
                have f2 := (hbk.cell (p := ⟨g0, o0 + kx * 5 + 2, none⟩) hgb).trans (unhide HXb kx _ hyi).2.2.1
                have r0 := (hbk.cell (p := ⟨gA, oA + ix * 7, none⟩) hgAb).trans c0
                have x0 := (hbk.cell (p := ⟨wz.heap.size, 0, none⟩) zb).trans q0
                have x1 := (hbk.cell (p := ⟨wz.heap.size, 1, none⟩) zb).trans q1
                clear hyi
                obtain ⟨kd, tm, ke, va, nn⟩ := y
                dsimp only at f1 f2 htm
                by_cases h1 : ke = ky
                · by_cases h2 : u < tm
                  · by_cases h3 : tm < en
                    · by_cases h4 : nx < 0
                      · skip
                        have d1 : (ke == ky) = true := by simp [h1]
                        have d2 : decide (u < tm) = true := decide_eq_true h2
                        have d3 : decide (tm < en) = true := decide_eq_true h3
                        have d4 : decide (nx < 0) = true := decide_eq_true h4
                        have HN : Hid (NxIs ky en u (xs.take kx ++ [⟨kd, tm, ke, va, nn⟩]) tm) := hide ((unhide HNx).yes (x := ⟨kd, tm, ke, va, nn⟩) (aft_iff.2 ⟨h1, h2, h3⟩) htm.1 (Or.inl h4))
                        clear h1 h2 h3 h4
                        go_wp2_with fail
                        go_quiet (fail)
                        go_wp2
                        refine ⟨⟨kx + 1, tm, by omega, by go_num, rfl, by omega, hide (by rw [take_snocI (unhide Hyi)]; exact unhide HN), bel_drewN hbk _⟩, by simp [intOf]; omega⟩
                      · by_cases h5 : tm < nx
                        · skip
                          have d1 : (ke == ky) = true := by simp [h1]
                          have d2 : decide (u < tm) = true := decide_eq_true h2
                          have d3 : decide (tm < en) = true := decide_eq_true h3
                          have d4 : decide (nx < 0) = false := decide_eq_false h4
                          have d5 : decide (tm < nx) = true := decide_eq_true h5
                          have HN : Hid (NxIs ky en u (xs.take kx ++ [⟨kd, tm, ke, va, nn⟩]) tm) := hide ((unhide HNx).yes (x := ⟨kd, tm, ke, va, nn⟩) (aft_iff.2 ⟨h1, h2, h3⟩) htm.1 (Or.inr h5))
                          clear h1 h2 h3 h4 h5
                          go_wp2_with fail
                          go_quiet (fail)
                          go_wp2
                          refine ⟨⟨kx + 1, tm, by omega, by go_num, rfl, by omega, hide (by rw [take_snocI (unhide Hyi)]; exact unhide HN), bel_drewN hbk _⟩, by simp [intOf]; omega⟩
                        · skip
                          have d1 : (ke == ky) = true := by simp [h1]
                          have d2 : decide (u < tm) = true := decide_eq_true h2
                          have d3 : decide (tm < en) = true := decide_eq_true h3
                          have d4 : decide (nx < 0) = false := decide_eq_false h4
                          have d5 : decide (tm < nx) = false := decide_eq_false h5
                          have HN : Hid (NxIs ky en u (xs.take kx ++ [⟨kd, tm, ke, va, nn⟩]) nx) := hide ((unhide HNx).far h4 h5)
                          clear h1 h2 h3 h4 h5
                          go_wp2_with fail
                          go_quiet (fail)
                          go_wp2
                          refine ⟨⟨kx + 1, nx, by omega, by go_num, rfl, by omega, hide (by rw [take_snocI (unhide Hyi)]; exact unhide HN), bel_drewN hbk _⟩, by simp [intOf]; omega⟩
                    · skip
                      have d1 : (ke == ky) = true := by simp [h1]
                      have d2 : decide (u < tm) = true := decide_eq_true h2
                      have d3 : decide (tm < en) = false := decide_eq_false h3
                      have HN : Hid (NxIs ky en u (xs.take kx ++ [⟨kd, tm, ke, va, nn⟩]) nx) := hide ((unhide HNx).no (show aftB ky en u ⟨kd, tm, ke, va, nn⟩ = false by simp only [aftB]; exact decide_eq_false (fun h9 => h3 h9.2.2)))
                      clear h1 h2 h3
                      go_wp2_with fail
                      go_quiet (fail)
                      go_wp2
                      refine ⟨⟨kx + 1, nx, by omega, by go_num, rfl, by omega, hide (by rw [take_snocI (unhide Hyi)]; exact unhide HN), bel_drewN hbk _⟩, by simp [intOf]; omega⟩
                  · skip
                    have d1 : (ke == ky) = true := by simp [h1]
                    have d2 : decide (u < tm) = false := decide_eq_false h2
                    have HN : Hid (NxIs ky en u (xs.take kx ++ [⟨kd, tm, ke, va, nn⟩]) nx) := hide ((unhide HNx).no (show aftB ky en u ⟨kd, tm, ke, va, nn⟩ = false by simp only [aftB]; exact decide_eq_false (fun h9 => h2 h9.2.1)))
                    clear h1 h2
                    go_wp2_with fail
                    go_quiet (fail)
                    go_wp2
                    refine ⟨⟨kx + 1, nx, by omega, by go_num, rfl, by omega, hide (by rw [take_snocI (unhide Hyi)]; exact unhide HN), bel_drewN hbk _⟩, by simp [intOf]; omega⟩
                · skip
                  have d1 : (ke == ky) = false := by simp [h1]
                  have HN : Hid (NxIs ky en u (xs.take kx ++ [⟨kd, tm, ke, va, nn⟩]) nx) := hide ((unhide HNx).no (show aftB ky en u ⟨kd, tm, ke, va, nn⟩ = false by simp only [aftB]; exact decide_eq_false (fun h9 => h1 h9.1)))
                  clear h1
                  go_wp2_with fail
                  go_quiet (fail)
                  go_wp2
                  refine ⟨⟨kx + 1, nx, by omega, by go_num, rfl, by omega, hide (by rw [take_snocI (unhide Hyi)]; exact unhide HN), bel_drewN hbk _⟩, by simp [intOf]; omega⟩
              · obtain rfl : kx = xs.length := by omega
                have HNf : Hid (NxIs ky en u xs nx) := hide (by have h9 := unhide HNx; rw [List.take_of_length_le (by omega)] at h9; exact h9)
                have jzr := (hbk.cell (p := ⟨w1.heap.size, 3, none⟩) zJb).trans jzb
                by_cases h0 : 0 ≤ nx
                · have hnear := (unhide HSq).near (unhide HAt) (unhide HNf) h0
                  have HAn := hide ((unhide HAt).move (unhide HNf) h0)
                  have hwr : IntKind.i64.wrap (nx - u) = nx - u := IntWalk.i64_in _ ⟨by omega, by omega⟩
                  have hnz : ¬ z ≤ nx - u := by omega
                  have dnz : decide (z ≤ nx - u) = false := decide_eq_false hnz
                  clear HNx HNf hnear
                  go_wp2
                  refine ⟨⟨m + 1, nx, by omega, rfl, by go_num, h0, by omega, HAn, hbk⟩, by simp [intOf]; omega⟩
                · have HAn := hide ((unhide HAt).stay (unhide HNf) h0)
                  clear HNx HNf
                  go_wp2
                  refine ⟨⟨m + 1, u, by omega, rfl, by go_num, hu0, hu1, HAn, hbk⟩, by simp [intOf]; omega⟩
          · obtain rfl : m = xs.length := by omega
            have hfin := (unhide HSq).fin (unhide HAt)
            have Hfst := hide (unhide HSq).fst
            dsimp only at hfin Hfst
            obtain ⟨wn, hwn⟩ : ∃ wn, wn = wr := ⟨_, rfl⟩
            subst hwn
            go_wp2
            go_loopw [12, 13] (fun fv kv wk => ∃ (kx : Nat) (fb : Bool), kx ≤ xs.length ∧ kv = .int .i64 kx ∧ fv = .bool fb ∧ Hid ((xs.take kx).any (fstB ky st) = fb) ∧ Below wb.heap.size wb wk) (fun _ kv _ => xs.length - (intOf kv).toNat)
            case atStart => exact ⟨0, false, Nat.zero_le _, rfl, rfl, hide rfl, hbm⟩
            case round =>
              obtain ⟨kx, fb, hkx, rfl, rfl, HFb, hbk⟩ := hrel
              by_cases hlk : (kx : Int) < (xs.length : Int)
              · skip
                obtain ⟨y, hyi⟩ : ∃ y, xs[kx]? = some y := ⟨_, List.getElem?_eq_getElem (by omega)⟩
                have Hyi := hide hyi
                have htm := (unhide HSq).tms y (List.mem_of_getElem? hyi)
                have f1 := (hbk.cell (p := ⟨g0, o0 + kx * 5 + 1, none⟩) hgb).trans (unhide HXb kx _ hyi).2.1
                have f2 := (hbk.cell (p := ⟨g0, o0 + kx * 5 + 2, none⟩) hgb).trans (unhide HXb kx _ hyi).2.2.1
                have r0 := (hbk.cell (p := ⟨gA, oA + ix * 7, none⟩) hgAb).trans c0
                have x0 := (hbk.cell (p := ⟨wz.heap.size, 0, none⟩) zb).trans q0
                have x1 := (hbk.cell (p := ⟨wz.heap.size, 1, none⟩) zb).trans q1
                clear hyi
                obtain ⟨kd, tm, ke, va, nn⟩ := y
                dsimp only at f1 f2 htm
                cases fb with
                | true =>
                  have HN : Hid ((xs.take (kx + 1)).any (fstB ky st) = true) := hide (by rw [any_snoc (unhide Hyi), unhide HFb]; rfl)
                  clear htm
                  go_wp2_with fail
                  go_quiet (fail)
                  go_wp2
                  refine ⟨⟨kx + 1, true, by omega, by go_num, rfl, HN, bel_drewN hbk _⟩, by simp [intOf]; omega⟩
                | false =>
                  by_cases h1 : ke = ky
                  · by_cases h2 : tm = st
                    · skip
                      have d1 : (ke == ky) = true := by simp [h1]
                      have d2 : (tm == st) = true := by simp [h2]
                      have HN : Hid ((xs.take (kx + 1)).any (fstB ky st) = true) := hide (by rw [any_snoc (unhide Hyi), unhide HFb]; simp [fstB, h1, h2])
                      clear h1 h2
                      go_wp2_with fail
                      go_quiet (fail)
                      go_wp2
                      refine ⟨⟨kx + 1, true, by omega, by go_num, rfl, HN, bel_drewN hbk _⟩, by simp [intOf]; omega⟩
                    · skip
                      have d1 : (ke == ky) = true := by simp [h1]
                      have d2 : (tm == st) = false := by simp [h2]
                      have HN : Hid ((xs.take (kx + 1)).any (fstB ky st) = false) := hide (by rw [any_snoc (unhide Hyi), unhide HFb]; simp [fstB, h1, h2])
                      clear h1 h2
                      go_wp2_with fail
                      go_quiet (fail)
                      go_wp2
                      refine ⟨⟨kx + 1, false, by omega, by go_num, rfl, HN, bel_drewN hbk _⟩, by simp [intOf]; omega⟩
                  · skip
                    have d1 : (ke == ky) = false := by simp [h1]
                    have HN : Hid ((xs.take (kx + 1)).any (fstB ky st) = false) := hide (by rw [any_snoc (unhide Hyi), unhide HFb]; simp [fstB, h1])
                    clear h1
                    go_wp2_with fail
                    go_quiet (fail)
                    go_wp2
                    refine ⟨⟨kx + 1, false, by omega, by go_num, rfl, HN, bel_drewN hbk _⟩, by simp [intOf]; omega⟩
              · obtain rfl : kx = xs.length := by omega
                obtain rfl : fb = true := by have h9 := unhide HFb; rw [List.take_of_length_le (by omega), unhide Hfst] at h9; exact h9.symm
                have jzr := (hbk.cell (p := ⟨w1.heap.size, 3, none⟩) zJb).trans jzb
                have x1 := (hbk.cell (p := ⟨wz.heap.size, 1, none⟩) zb).trans q1
                have hwr : IntKind.i64.wrap (u + z) = en := (IntWalk.i64_in _ ⟨by omega, by omega⟩).trans hfin
                clear hfin HFb
                go_wp2
                refine ⟨⟨ix + 1, by omega, by go_num, hb4b.trans (hbk.mono hb4b.size)⟩, by simp [intOf]; omega⟩
      · have hbF : Below w.heap.size w wr := bel_trans hbA4 hbw
        go_wp2_with fail
        refine (frok_any _).mono ?_
        rintro e9 wc ⟨rfl, hbc⟩
        go_wp2
        go_ret
        exact ⟨rfl, bel_trans hbF hbc⟩
  · go_enter Tryz.func5, Tryz.ntmps5
    go_wp2
    go_ret
    exact ⟨rfl, Below.refl _ _⟩
end Go.Proofs.YtbockbdlojkpiaaGreat
