/- Proved here: a job's lines are drawn. -/
import Derived.Test.YtgccnmegbdlefaaDoorDrawJobK
import Derived.Test.YtgccnmegbdlefaaDoorDrawTxt
import Derived.Test.YtgccnmegbdlefaaDoorJpS
import Derived.Test.YtgccnmegbdlefaaDoorStrTo
import Derived.Laws.OwnMore
namespace Go.Proofs.YtgccnmegbdlefaaDoor
open Go.ChangeShapes Go.WideShapes Go.ChangeAt Go.RowKit
set_option linter.unusedVariables false
set_option linter.unusedSimpArgs false

theorem flatSt_map (ys : List StR) : flatSt ys = ys.map fun x => Value.string x.s := by
  induction ys with
  | nil => rfl
  | cons x r ih => show x.cells ++ flatSt r = _; rw [ih]; rfl
theorem flat_stL (L : List ByteArray) : flatSt (stL L) = L.map Value.string := by rw [flatSt_map]; simp [stL]
theorem addr_add (g o j : Nat) : ((⟨g, o, none⟩ : Addr).add j) = ⟨g, o + j, none⟩ := by
  unfold Addr.add
  split
  · rename_i h0; rw [h0]; simp
  · simp
/-- A slice of texts of one's own, not empty: where it lies, and what its cells hold. -/
theorem ownSt_shape {W : World} {B : Nat} {v : Value} {L : List ByteArray} (h : OwnSt W B v (stL L)) (hp : 0 < L.length) : ∃ g c, v = .slice (some ⟨g, 0, none⟩) L.length c ∧ B ≤ g ∧ g < W.heap.size ∧ L.length ≤ c := by
  unfold OwnSt at h
  rw [stL_len] at h
  rcases h.2 with ⟨_, h0⟩ | ⟨g, cap, cur, rfl, hB, hblk, hnc, _⟩
  · omega
  · exact ⟨g, cap, rfl, hB, (Array.getElem?_eq_some_iff.1 hblk).1, hnc⟩
theorem ownSt_cell {W : World} {B g n c : Nat} {L : List ByteArray} (h : OwnSt W B (.slice (some ⟨g, 0, none⟩) n c) (stL L)) {i : Nat} {x : ByteArray} (hi : L[i]? = some x) : W.cell? ⟨g, i, none⟩ = some (.string x) ∧ W.frozen? ⟨g, i, none⟩ = false := by
  have hil := (List.getElem?_eq_some_iff.1 hi).1
  unfold OwnSt at h
  rw [stL_len, flat_stL] at h
  rcases h.2 with ⟨h0, _⟩ | ⟨g', cap, cur, h0, hB, hblk, hnc, hcm, hsz, htk⟩
  · cases h0
  · simp only [Value.slice.injEq, Option.some.injEq, Addr.mk.injEq, and_true, true_and] at h0
    obtain ⟨rfl, rfl, rfl⟩ := h0
    refine ⟨?_, Joins.unfrozen_of_block hblk i⟩
    rw [Joins.cell_of_block hblk i]
    have h9 : (cur.toList.take (L.length * 1))[i]? = some (.string x) := by rw [htk, List.getElem?_map, hi]; rfl
    rw [List.getElem?_take_of_lt (by omega)] at h9
    simpa using h9
theorem ownSt_set {W : World} {B g n c : Nat} {L : List ByteArray} (h : OwnSt W B (.slice (some ⟨g, 0, none⟩) n c) (stL L)) (i : Nat) (y : ByteArray) : OwnSt (W.setCell ⟨g, i, none⟩ (.string y)) B (.slice (some ⟨g, 0, none⟩) n c) (stL (L.set i y)) := by
  have hn : n = L.length := by
    unfold OwnSt at h
    rw [stL_len] at h
    rcases h.2 with ⟨h0, _⟩ | ⟨g', cap, cur, h0, _⟩
    · cases h0
    · simp only [Value.slice.injEq] at h0; exact h0.2.1
  unfold OwnSt at h ⊢
  rw [stL_len, flat_stL] at h ⊢
  subst hn
  have h9 := (h.stored i (.string y)).1
  rw [List.length_set, List.map_set]; exact h9
theorem cells_tl {W : World} {B g n c : Nat} {L : List ByteArray} (h : OwnSt W B (.slice (some ⟨g, 0, none⟩) n c) (stL L)) (o : Nat) (M : List ByteArray) (hM : ∀ j x, M[j]? = some x → L[o + j]? = some x) : ∀ j u, (M.map Value.string)[j]? = some u → W.cell? ((⟨g, o, none⟩ : Addr).add j) = some u := by
  intro j u hu
  rw [List.getElem?_map, Option.map_eq_some_iff] at hu
  obtain ⟨x, hx, rfl⟩ := hu
  rw [addr_add]
  exact (ownSt_cell h (hM j x hx)).1
theorem own_of {W : World} {B : Nat} {v : Value} {n : Nat} {L : List ByteArray} (hn : n = L.length) (h : W.ownsRow B 9 1 v n (L.map Value.string)) : OwnSt W B v (stL L) := by
  unfold OwnSt; rw [stL_len, flat_stL]; subst hn; exact h
theorem own_to {W : World} {B : Nat} {v : Value} {n : Nat} {L : List ByteArray} (hn : L.length = n) (h : OwnSt W B v (stL L)) : W.ownsRow B 9 1 v n (L.map Value.string) := by
  unfold OwnSt at h; rw [stL_len, flat_stL] at h; subst hn; exact h
theorem ownKJ {R : Nat} {W W' : World} {B : Nat} {v : Value} {ys : List StR} (h : OwnSt W B v ys) (hB : R < B) (hb : Kp R W W') : OwnSt W' B v ys := by
  rcases h with ⟨hl, h | ⟨g, cap, cur, rfl, hBg, hblk, r⟩⟩
  · exact ⟨hl, Or.inl h⟩
  · exact ⟨hl, Or.inr ⟨g, cap, cur, rfl, hBg, (hb.all g (Array.getElem?_eq_some_iff.1 hblk).1 (by omega)).trans hblk, r⟩⟩
theorem st_id (ys : List StR) : ys = stL (ys.map (·.s)) := by
  induction ys with
  | nil => rfl
  | cons x r ih => show x :: r = ⟨x.s⟩ :: stL (r.map (·.s)); rw [← ih]
theorem kp_grown {R : Nat} {w W W' : World} {row : Option Nat} (h : Kp R w W) (hR : R < w.heap.size) (hg : W.grownBy W' row) (hr : ∀ k, row = some k → w.heap.size ≤ k) : Kp R w W' :=
  ⟨h.low.grown hg (Nat.le_of_lt (Nat.lt_of_lt_of_le hR h.low.size)) (fun k hk => by have := hr k hk; omega), fun b hb hn => (hg.block b (Nat.lt_of_lt_of_le hb h.low.size) (fun e => by have := hr b e.symm; omega)).trans (h.all b hb hn)⟩
theorem one_str (M : List ByteArray) : ∀ u ∈ M.map Value.string, u.oneCell' = true := by
  intro u hu
  obtain ⟨x, _, rfl⟩ := List.mem_map.1 hu
  rfl
theorem lines_of (ns : List Int) (h : ns.length = 10) (hb : ∀ n ∈ ns, -99999999 ≤ n ∧ n ≤ 99999999) : ∃ L : List ByteArray, jLines ns = stL L ∧ L.length = 10 ∧ ∀ x ∈ L, x.size ≤ 40 := by
  refine ⟨(jLines ns).map (·.s), ?_, by rw [List.length_map]; exact jLines_len h, ?_⟩
  · exact st_id _
  · intro x hx
    obtain ⟨y, hy, rfl⟩ := List.mem_map.1 hx
    obtain ⟨i, hi⟩ := List.getElem?_of_mem hy
    have hi10 : i < 10 := by have := (List.getElem?_eq_some_iff.1 hi).1; rw [jLines_len h] at this; exact this
    obtain ⟨a, ha, has⟩ := jNames_at hi10
    have hn : ns[i]? = some ns[i] := List.getElem?_eq_getElem (by omega)
    rw [jLines_at ha hn] at hi
    have hbn := hb ns[i] (List.getElem_mem _)
    have := decI_size ns[i] hbn.1 hbn.2
    obtain rfl := Option.some.inj hi
    show (a ++ ⟨#[32]⟩ ++ decI ns[i]).size ≤ 40
    rw [ByteArray.size_append, ByteArray.size_append]
    have e1 : (⟨#[32]⟩ : ByteArray).size = 1 := rfl
    omega
/-- Drawn lines. -/
def JlP (R : Nat) (w : World) (e : Ending) (w' : World) : Prop := ∃ (v : Value) (L : List ByteArray), e = .returned v ∧ OwnSt w' w.heap.size v (stL L) ∧ L.length ≤ 11 ∧ (∀ x ∈ L, x.size ≤ 1000) ∧ Kp R w w'
theorem sliceJ {W : World} {B : Nat} {e : TypeId} {size n : Nat} {v : Value} {xs : List Value} (h : W.ownsRow B e size v n xs) : ∃ a c, v = .slice a n c := by
  rcases h.2 with ⟨rfl, h0⟩ | ⟨g, cap, cur, rfl, _⟩
  · exact ⟨none, 0, by rw [h0]⟩
  · exact ⟨_, _, rfl⟩
theorem tk_at {L : List ByteArray} {k j : Nat} {x : ByteArray} (h : (L.take k)[j]? = some x) : L[j]? = some x := by
  have hj := (List.getElem?_eq_some_iff.1 h).1
  rw [List.length_take] at hj
  rwa [List.getElem?_take_of_lt (by omega)] at h
set_option maxRecDepth 20000 in
set_option maxHeartbeats 8000000 in
theorem joblines_any (R : Nat) (a : Option Addr) (len cap : Nat) (w : World) (hR0 : R < w.heap.size) (h : Rd R w a len cap 0) : Calls Tryd.prog 26 #[.pointer (some ⟨R, 0, none⟩), .int .i64 2] w fun e w' => JlP R w e w' := by
  obtain ⟨i0, hi, hz0, hz1, hz2⟩ := info_parts Tryd.infoStr
  go_enter Tryd.func26, Tryd.ntmps26
  go_wp2_with fail
  refine (jobK_any R a len cap 0 w (by decide) hR0 h).mono ?_
  rintro e1 w1 ⟨s, t, k, z, q, l, e, b, v, r, rfl, hok, k1, p1, hp1, hr1⟩
  have hok' := hide hok
  have z1 := k1.low.size
  clear hok h
  go_wp2_with fail
  refine (specjobprint_any s t k z q l e b v r _).mono ?_
  rintro e2 w2 ⟨vl, rfl, hO, hb2⟩
  rw [jobLines_ok (unhide hok')] at hO
  obtain ⟨L, hL, hL10, hLb⟩ := lines_of (jNums s t k z q l e b v r) rfl (jNums_bd s t k z q l e b v r (unhide hok'))
  rw [hL] at hO
  obtain ⟨g, cg, rfl, hg1, hg2, hgc⟩ := ownSt_shape hO (by omega)
  rw [hL10]
  have hw1 : w.heap.size ≤ w1.heap.size := by
    rcases Nat.lt_or_ge w1.heap.size w.heap.size with h9 | h9
    · have := k1.low.size; omega
    · exact h9
  have k2 : Kp R w w2 := k1.trans (Kp.of_bel (by omega) hb2)
  rw [hL10] at hO
  have HO2 : Hid (OwnSt w2 w1.heap.size (.slice (some ⟨g, 0, none⟩) 10 cg) (stL L)) := hide hO
  have hr2 := hr1.kp (by omega) hb2
  have HLb := hide hLb
  clear hO hL hr1 hok' hLb
  go_wp2_with fail
  refine (pick_any R a len cap (p1) 2 _ (by decide) (by decide) hr2).mono ?_
  rintro e3 w3 ⟨x, rfl, x0, x1, k3, hr3⟩
  have HR3 := hide (hr3 (by omega))
  have kk3 : Kp R w w3 := k2.trans k3
  have HO3 : Hid (OwnSt w3 w1.heap.size (.slice (some ⟨g, 0, none⟩) 10 cg) (stL L)) := hide (ownKJ (unhide HO2) (by omega) k3)
  clear hr2 hr3
  by_cases hx : 0 < x
  · go_wp2
    go_ret
    exact ⟨_, L, rfl, World.ownsRow.mono (unhide HO3) hw1, by omega, fun y hy => by have := unhide HLb y hy; omega, kk3⟩
  · go_wp2_with fail
    refine (pick_any R a len cap (p1 + 1) 10 _ (by decide) (by decide) (unhide HR3)).mono ?_
    rintro e4 w4 ⟨y, rfl, y0, y1, k4, hr4⟩
    obtain ⟨kn, rfl⟩ : ∃ kn : Nat, y = kn := ⟨y.toNat, by omega⟩
    have HR4 := hide (hr4 (by omega))
    clear hr4 hx
    go_wp2_with fail
    refine (pick_any R a len cap (p1 + 1 + 1) 4 _ (by decide) (by decide) (unhide HR4)).mono ?_
    rintro e5 w5 ⟨m, rfl, m0, m1, k5, hr5⟩
    have HR5 := hide (hr5 (by omega))
    have kk5 : Kp R w w5 := kk3.trans (k4.trans k5)
    have HO5 : Hid (OwnSt w5 w1.heap.size (.slice (some ⟨g, 0, none⟩) 10 cg) (stL L)) := hide (ownKJ (unhide HO3) (by omega) (k4.trans k5))
    have hkn : kn < 10 := by omega
    have hknI : (kn : Int) < 10 := by omega
    obtain ⟨xk, hxk⟩ : ∃ xk, L[kn]? = some xk := ⟨_, List.getElem?_eq_getElem (by omega)⟩
    have hxs := unhide HLb xk (List.mem_of_getElem? hxk)
    obtain ⟨hcell, hfz⟩ := ownSt_cell (unhide HO5) hxk
    have hgs : g < w5.heap.size := Nat.lt_of_lt_of_le hg2 (by
      have h5 := (k3.trans (k4.trans k5)).low.size
      rcases Nat.lt_or_ge w5.heap.size w2.heap.size with h9 | h9 <;> omega)
    have HXK := hide hxk
    have zw5 : w1.heap.size ≤ w5.heap.size := by omega
    clear hr5 hxk k3 k4 k5 k1 k2 kk3
    have hm : m = 0 ∨ m = 1 ∨ m = 2 ∨ m = 3 := by omega
    rcases hm with rfl | rfl | rfl | rfl
    case inr.inr.inl =>
      have w9 : IntKind.i64.wrap ((kn : Int) + 1) = (kn : Int) + 1 := IntWalk.i64_in _ ⟨by omega, by omega⟩
      have hkc : kn ≤ cg := by omega
      have hk0 : (0 : Int) ≤ (kn : Int) + 1 := by omega
      have hk1 : (kn : Int) + 1 ≤ 10 := by omega
      obtain ⟨oo, hoo, hM⟩ : ∃ oo : Nat, (if cg = kn + 1 then (some ⟨g, 0, none⟩ : Option Addr) else some ⟨g, kn + 1, none⟩) = some ⟨g, oo, none⟩ ∧ ∀ (j : Nat) (x : ByteArray), (L.drop (kn + 1))[j]? = some x → L[oo + j]? = some x := by
        by_cases h9 : cg = kn + 1
        · refine ⟨0, if_pos h9, fun j x hj => ?_⟩
          rw [List.drop_eq_nil_of_le (by omega)] at hj
          simp at hj
        · exact ⟨kn + 1, if_neg h9, fun j x hj => by rwa [List.getElem?_drop] at hj⟩
      have HOO := hide hoo
      have HM := hide hM
      clear hoo hM
      go_wp2_with fail
      refine wp_region_held_drew (S := (fun _ => True)) (by kernel_rfl) ?_ (fun hHeld => ?_)
      · (try dsimp only); (try trivial)
      refine wpAnyH_take (i := 1) (v := ?_) (by simp only [List.getElem?_toArray, List.getElem?_cons_zero, List.getElem?_cons_succ]; rfl) (by kernel_rfl) (by kernel_rfl) (by kernel_rfl) (by intro _ _ _ h; exact h) (Or.inl ⟨by rfl, ?_⟩) (by assumption) ?_
      rotate_left
      · (intro w9 hSw; (try dsimp only at hSw); go_simp <;> with_reducible rfl)
      try simp only [Act.put, List.setIfInBounds_toArray, List.set_cons_zero, List.set_cons_succ]
      refine wpAnyH_take (i := 2) (v := ?_) (by simp only [List.getElem?_toArray, List.getElem?_cons_zero, List.getElem?_cons_succ]; rfl) (by kernel_rfl) (by kernel_rfl) (by kernel_rfl) (by intro _ _ _ h; exact h) (Or.inl ⟨by rfl, ?_⟩) (by assumption) ?_
      rotate_left
      · (intro w9 hSw; (try dsimp only at hSw); go_simp <;> with_reducible rfl)
      try simp only [Act.put, List.setIfInBounds_toArray, List.set_cons_zero, List.set_cons_succ]
      refine wpAnyH_take (i := 3) (v := ?_) (by simp only [List.getElem?_toArray, List.getElem?_cons_zero, List.getElem?_cons_succ]; rfl) (by kernel_rfl) (by kernel_rfl) (by kernel_rfl) (by intro _ _ _ h; exact h) (Or.inl ⟨by rfl, ?_⟩) (by assumption) ?_
      rotate_left
      · (intro w9 hSw; (try dsimp only at hSw); go_simp <;> with_reducible rfl)
      try simp only [Act.put, List.setIfInBounds_toArray, List.set_cons_zero, List.set_cons_succ]
      refine wpAnyH_take (i := 5) (v := ?_) (by simp only [List.getElem?_toArray, List.getElem?_cons_zero, List.getElem?_cons_succ]; rfl) (by kernel_rfl) (by kernel_rfl) (by kernel_rfl) (by intro _ _ _ h; exact h) (Or.inl ⟨by rfl, ?_⟩) (by assumption) ?_
      rotate_left
      · (intro w9 hSw; (try dsimp only at hSw); go_simp <;> with_reducible rfl)
      try simp only [Act.put, List.setIfInBounds_toArray, List.set_cons_zero, List.set_cons_succ]
      refine wpAnyH_take (i := 6) (v := ?_) (by simp only [List.getElem?_toArray, List.getElem?_cons_zero, List.getElem?_cons_succ]; rfl) (by kernel_rfl) (by kernel_rfl) (by kernel_rfl) (by intro _ _ _ h; exact h) (Or.inl ⟨by rfl, ?_⟩) (by assumption) ?_
      rotate_left
      · (intro w9 hSw; (try dsimp only at hSw); go_simp <;> with_reducible rfl)
      try simp only [Act.put, List.setIfInBounds_toArray, List.set_cons_zero, List.set_cons_succ]
      refine wpAnyH_take (i := 7) (v := ?_) (by simp only [List.getElem?_toArray, List.getElem?_cons_zero, List.getElem?_cons_succ]; rfl) (by kernel_rfl) (by kernel_rfl) (by kernel_rfl) (by intro _ _ _ h; exact h) (Or.inl ⟨by rfl, ?_⟩) (by assumption) ?_
      rotate_left
      · (intro w9 hSw; (try dsimp only at hSw); go_simp <;> with_reducible rfl)
      try simp only [Act.put, List.setIfInBounds_toArray, List.set_cons_zero, List.set_cons_succ]
      refine wpAnyH_take (i := 8) (v := ?_) (by simp only [List.getElem?_toArray, List.getElem?_cons_zero, List.getElem?_cons_succ]; rfl) (by kernel_rfl) (by kernel_rfl) (by kernel_rfl) (by intro _ _ _ h; exact h) (Or.inl ⟨by rfl, ?_⟩) (by assumption) ?_
      rotate_left
      · (intro w9 hSw; (try dsimp only at hSw); go_simp <;> with_reducible rfl)
      try simp only [Act.put, List.setIfInBounds_toArray, List.set_cons_zero, List.set_cons_succ]
      refine wpAnyH_ready (rs := [0]) (by kernel_rfl) (by simp) ?_
      refine AllReadyH.cons (by simp only [List.getElem?_toArray, List.getElem?_cons_zero, List.getElem?_cons_succ]; rfl) (fun K hK => ?_) AllReadyH.nil
      go_simp
      refine hK.out _ _ ?_ (fun hHeld2 => ?_)
      · (try dsimp only); (try trivial)
      clear hK K hHeld
      have hHeld := hHeld2
      clear hHeld2
      try simp only [Act.put, List.setIfInBounds_toArray, List.set_cons_zero, List.set_cons_succ]
      refine wpAnyH_ready (rs := [4]) (by kernel_rfl) (by simp) ?_
      refine AllReadyH.cons (by simp only [List.getElem?_toArray, List.getElem?_cons_zero, List.getElem?_cons_succ]; rfl) (fun K hK => ?_) AllReadyH.nil
      refine step_append_at rfl _ _ 26 rfl w5.heap.size 9 i0 _ 1 16 Tryd.underlying26 hi hz0 hz1 hz2 rfl (by decide) (.slice (some ⟨w5.heap.size, 0, none⟩) 0 0) 0 [] rfl ?own ⟨g, 0, none⟩ kn cg ((L.take kn).map Value.string) rfl (by simp; omega) (cells_tl (ownBel (unhide HO5) (by repeat (first | (with_reducible exact Below.refl _ _) | (with_reducible assumption) | (with_reducible refine bel_set ?_ (by first | (simp; done) | (simp; omega)) _) | (with_reducible refine bel_alloc ?_ _) | (with_reducible refine bel_drew ?_) | (with_reducible refine bel_drewN ?_ _) | (with_reducible refine bel_trans ?_ (by with_reducible assumption))))) 0 _ (fun j x h9 => by rw [Nat.zero_add]; exact tk_at h9)) (one_str _) (by unfold maxLen; omega) (by omega) (by simp) ?_
      case own => exact ownLit (W := w5.drew) (B := w5.heap.size) _ _ (by show w5.heap.size ≤ w5.drew.heap.size; exact Nat.le_refl _) rfl
      intro v6 w6 hown6 hgrow6 hblk6
      rw [Nat.zero_add, List.nil_append] at hown6
      have hb6 : Below w5.heap.size w5 w6 := (show Below w5.heap.size w5 _ from (by repeat (first | (with_reducible exact Below.refl _ _) | (with_reducible assumption) | (with_reducible refine bel_set ?_ (by first | (simp; done) | (simp; omega)) _) | (with_reducible refine bel_alloc ?_ _) | (with_reducible refine bel_drew ?_) | (with_reducible refine bel_drewN ?_ _) | (with_reducible refine bel_trans ?_ (by with_reducible assumption))))).grown hgrow6 (by simp) (fun k9 h9 => by simp [Value.ownBlock] at h9; omega)
      obtain ⟨a6, c6, rfl⟩ := sliceJ hown6
      refine hK.out _ _ ?_ (fun hHeld2 => ?_)
      · (try dsimp only); (try trivial)
      clear hK K hHeld
      have hHeld := hHeld2
      clear hHeld2
      try simp only [Act.put, List.setIfInBounds_toArray, List.set_cons_zero, List.set_cons_succ]
      refine wpAnyH_ready (rs := [9]) (by kernel_rfl) (by simp) ?_
      refine AllReadyH.cons (by simp only [List.getElem?_toArray, List.getElem?_cons_zero, List.getElem?_cons_succ]; rfl) (fun K hK => ?_) AllReadyH.nil
      refine step_append_at rfl _ _ 26 rfl w5.heap.size 9 i0 _ 1 16 Tryd.underlying26 hi hz0 hz1 hz2 rfl (by decide) (.slice a6 kn c6) kn _ rfl hown6 ⟨g, oo, none⟩ (9 - kn) (cg - (kn + 1)) ((L.drop (kn + 1)).map Value.string) (by simp [Act.eval, unhide HOO]) (by simp; omega) (cells_tl (ownBel (unhide HO5) hb6) oo _ (unhide HM)) (one_str _) (by unfold maxLen; omega) (by omega) (hb6.size) ?_
      intro v7 w7 hown7 hgrow7 _
      have hb7 : Below w5.heap.size w5 w7 := hb6.grown hgrow7 hb6.size (fun k9 h9 => (World.ownsRow.lt hown6 k9 h9).1)
      refine hK.out _ _ ?_ (fun hHeld2 => ?_)
      · (try dsimp only); (try trivial)
      clear hK K hHeld
      have hHeld := hHeld2
      clear hHeld2
      try simp only [Act.put, List.setIfInBounds_toArray, List.set_cons_zero, List.set_cons_succ]
      refine wpAnyH_take (i := 10) (v := ?_) (by simp only [List.getElem?_toArray, List.getElem?_cons_zero, List.getElem?_cons_succ]; rfl) (by kernel_rfl) (by kernel_rfl) (by kernel_rfl) (by intro _ _ _ h; exact h) (Or.inl ⟨by rfl, ?_⟩) (by assumption) ?_
      rotate_left
      · (intro w9 hSw; (try dsimp only at hSw); go_simp <;> with_reducible rfl)
      try simp only [Act.put, List.setIfInBounds_toArray, List.set_cons_zero, List.set_cons_succ]
      refine wpAnyH_done (by kernel_rfl) ?_ _
      go_wp2
      all_goals (go_ret; exact ⟨_, L.take kn ++ L.drop (kn + 1), rfl, World.ownsRow.mono (own_of (n := kn + (9 - kn)) (by rw [List.length_append, List.length_take, List.length_drop, hL10]; omega) (by simpa using hown7)) (by omega), by simp; omega, fun y hy => by
        rcases List.mem_append.1 hy with hy | hy
        · have := unhide HLb y (List.mem_of_mem_take hy); omega
        · have := unhide HLb y (List.mem_of_mem_drop hy); omega, kk5.trans (Kp.of_bel (by omega) hb7)⟩)

    case inr.inr.inr =>
      go_wp2_with (at_builtin; go_loud (refine wpList_append_own _ rfl _ _ 26 rfl w1.heap.size 9 i0 _ 1 16 Tryd.underlying26 hi hz0 hz1 hz2 rfl (by decide) (.slice (some ⟨g, 0, none⟩) 10 cg) 10 (L.map Value.string) rfl (World.ownsRow.alloc (own_to hL10 (unhide HO5)) _) ⟨w5.heap.size, 0, none⟩ 1 1 [.string xk] rfl rfl (cells_newSt w5 xk _) (by simp [Value.oneCell']) (by unfold maxLen; omega) (by omega) (by simp; omega) ?_); intro v' w6 hown' hgrow _)
      go_wp2
      go_ret
      refine ⟨_, L ++ [xk], rfl, World.ownsRow.mono (own_of (n := 10 + 1) (by simp [hL10]) (by simpa using hown')) hw1, by simp; omega, fun y hy => by
        rcases List.mem_append.1 hy with hy | hy
        · have := unhide HLb y hy; omega
        · obtain rfl : y = xk := by simpa using hy
          omega, kp_grown (kp_alloc hR0 kk5 _) hR0 hgrow (fun k9 h9 => by (have h8 : g = k9 := (by simpa [Value.ownBlock] using h9)); omega)⟩

    all_goals
      go_wp2_with fail
      refine (bent_any R a len cap (p1 + 1 + 1 + 1) xk _ (by omega) (by omega) (by omega) (unhide HR5)).mono ?_
      rintro e6 w6 ⟨s', rfl, hs', k6, p6, hp6, hr6⟩
      have HO6 : Hid (OwnSt w6 w1.heap.size (.slice (some ⟨g, 0, none⟩) 10 cg) (stL L)) := hide (ownKJ (unhide HO5) (by omega) k6)
      obtain ⟨hc6, hf6⟩ := ownSt_cell (unhide HO6) (unhide HXK)
      clear hcell hfz hr6
      go_wp2
      go_ret
      exact ⟨_, L.set kn s', rfl, World.ownsRow.mono (ownSt_set (unhide HO6) kn s') hw1, by rw [List.length_set]; omega, fun y hy => by
        rcases List.mem_or_eq_of_mem_set hy with hy | rfl
        · have := unhide HLb y hy; omega
        · omega, kp_setN (kk5.trans k6) (by show w.heap.size ≤ g; omega) hR0 _⟩
end Go.Proofs.YtgccnmegbdlefaaDoor
