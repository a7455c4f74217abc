/- Proved here: the law on LogRecs returns true at every slice and number. -/
import Derived.Test.YtbbgiklhkhlnaaaRecsImpl
import Derived.Test.YtbbgiklhkhlnaaaMark
import Derived.Test.YtbbgiklhkhlnaaaLogLaw
namespace Go.Proofs.Ytbbgiklhkhlnaaa
open Go.RowKit
set_option linter.unusedVariables false

theorem ItsAt.grown {W W' : World} {row : Option Nat} {g o : Nat} {xs : List It} (h : ItsAt W g o xs) (hg : W.grownBy W' row) (hne : 0 < xs.length → some g ≠ row) : ItsAt W' g o xs := by
  intro i x hx
  have hlt : i < xs.length := (List.getElem?_eq_some_iff.1 hx).1
  have hgl := h.lt (by omega)
  have hbk := hg.block g hgl (hne (by omega))
  obtain ⟨h0, h1, h2, h3, h4⟩ := h i x hx
  exact ⟨(World.cell?_of_block (w := W) hbk).trans h0, (World.cell?_of_block (w := W) hbk).trans h1, (World.cell?_of_block (w := W) hbk).trans h2, (World.cell?_of_block (w := W) hbk).trans h3, (World.cell?_of_block (w := W) hbk).trans h4⟩
theorem Its.grown {W W' : World} {row : Option Nat} {a : Option Addr} {n : Nat} {xs : List It} (h : Its W a n xs) (hg : W.grownBy W' row) (hne : ∀ g o, 0 < n → a = some ⟨g, o, none⟩ → some g ≠ row) : Its W' a n xs := by
  obtain ⟨h1, h2, h3⟩ := h
  refine ⟨h1, h2, ?_⟩
  rcases h3 with h3 | ⟨g, o, ha, hr⟩
  · exact Or.inl h3
  · exact Or.inr ⟨g, o, ha, hr.grown hg (fun hp => hne g o (by omega) ha)⟩
theorem Its.lt {W : World} {g o n : Nat} {xs : List It} (h : Its W (some ⟨g, o, none⟩) n xs) (hp : 0 < n) : g < W.heap.size := by
  obtain ⟨h1, h2, h3⟩ := h
  obtain ⟨g', o', ha, hr⟩ := h3.resolve_left (by omega)
  simp at ha
  have := hr.lt (by omega)
  omega
theorem bel_grow {w W W' : World} {row : Option Nat} (h : Below w.heap.size w W) (hg : W.grownBy W' row) (hr : ∀ k, row = some k → w.heap.size ≤ k) : Below w.heap.size w W' := h.grown hg h.size hr
theorem Marked.below {W W' : World} {a : Option Addr} {n : Nat} (h : Marked W a n) (hb : Below W.heap.size W W') : Marked W' a n := by
  rcases h with h | ⟨g, ha, hM⟩
  · exact Or.inl h
  · refine Or.inr ⟨g, ha, fun i hi => (hM i hi).below hb ?_⟩
    exact cell_lt (hM i hi).1

theorem hold {W : World} {B : Nat} {v : Value} {ys : List It} (h : OwnIts W B v ys) (hl : ys.length ≤ 1048576) :
    ∃ a cap, v = .slice a ys.length cap ∧ Its W a ys.length ys ∧ Wr W a ys.length cap ∧ ∀ g o, 0 < ys.length → a = some ⟨g, o, none⟩ → B ≤ g := by
  have hm : ys.length ≤ maxLen := by unfold maxLen; omega
  obtain ⟨hlen, h | ⟨g, cap, cur, rfl, hB, hblk, hnc, hcm, hsz, htk⟩⟩ := h
  · obtain ⟨rfl, h0⟩ := h
    rw [h0]
    exact ⟨none, 0, rfl, ⟨h0, Nat.zero_le _, Or.inl rfl⟩, Or.inl rfl, fun _ _ hp => by omega⟩
  · refine ⟨_, cap, rfl, ⟨rfl, hm, Or.inr ⟨g, 0, rfl, ?_⟩⟩, Or.inr ⟨g, rfl, ⟨cur, hblk, hsz⟩, hnc⟩, fun g' o' _ e => by simp at e; omega⟩
    intro i x hx
    have hi : i < ys.length := (List.getElem?_eq_some_iff.1 hx).1
    have hcell : ∀ j u, j < ys.length * 5 → (flat ys)[j]? = some u → W.cell? ⟨g, j, none⟩ = some u := by
      intro j u hj hu
      rw [Joins.cell_of_block hblk j, ← Array.getElem?_toList]
      rw [← htk, List.getElem?_take_of_lt hj] at hu
      exact hu
    obtain ⟨f0, f1, f2, f3, f4⟩ := flat_get hx
    rw [Nat.zero_add]
    exact ⟨hcell _ _ (by omega) f0, hcell _ _ (by omega) f1, hcell _ _ (by omega) f2, hcell _ _ (by omega) f3, hcell _ _ (by omega) f4⟩
theorem Wr.below {W W' : World} {a : Option Addr} {n cap : Nat} (h : Wr W a n cap) (hb : Below W.heap.size W W') : Wr W' a n cap := by
  rcases h with h | ⟨g, ha, hB, hc⟩
  · exact Or.inl h
  · exact Or.inr ⟨g, ha, hB.below hb hB.lt, hc⟩
theorem Wr.grown {W W' : World} {row : Option Nat} {a : Option Addr} {n cap : Nat} (h : Wr W a n cap) (hg : W.grownBy W' row) (hne : ∀ g o, 0 < n → a = some ⟨g, o, none⟩ → some g ≠ row) : Wr W' a n cap := by
  rcases h with h | ⟨g, ha, hB, hc⟩
  · exact Or.inl h
  · by_cases h0 : n = 0
    · exact Or.inl h0
    · obtain ⟨cur, c1, c2⟩ := hB
      exact Or.inr ⟨g, ha, ⟨cur, (hg.block g (Array.getElem?_eq_some_iff.1 c1).1 (hne g 0 (by omega) ha)).trans c1, c2⟩, hc⟩
theorem rowOf_ne {a : Option Addr} {n g : Nat} (h : ∀ g' o', 0 < n → a = some ⟨g', o', none⟩ → g ≠ g') (hs : n = 0 ∨ ∃ g', a = some ⟨g', 0, none⟩) : some g ≠ rowOf a n := by
  rcases hs with rfl | ⟨g', rfl⟩
  · simp [rowOf_zero]
  · by_cases h0 : n = 0
    · subst h0; simp [rowOf_zero]
    · rw [rowOf_pos h0]
      have := h g' 0 (by omega) rfl
      simpa using this
theorem rowOf_ge {a : Option Addr} {n B : Nat} (h : ∀ g' o', 0 < n → a = some ⟨g', o', none⟩ → B ≤ g') (hs : n = 0 ∨ ∃ g', a = some ⟨g', 0, none⟩) : ∀ k, rowOf a n = some k → B ≤ k := by
  intro k hk
  rcases hs with rfl | ⟨g', rfl⟩
  · simp [rowOf_zero] at hk
  · by_cases h0 : n = 0
    · subst h0; simp [rowOf_zero] at hk
    · rw [rowOf_pos h0] at hk
      have := h g' 0 (by omega) rfl
      simp at hk
      omega
theorem Wr.shape {W : World} {a : Option Addr} {n cap : Nat} (h : Wr W a n cap) : n = 0 ∨ ∃ g', a = some ⟨g', 0, none⟩ := by
  rcases h with h | ⟨g, ha, _⟩
  · exact Or.inl h
  · exact Or.inr ⟨g, ha⟩

set_option maxHeartbeats 2000000 in
theorem lawLogRecs (a : Option Addr) (len cap : Nat) (xs : List It) (least : Int) (w : World) (h : Its w a len xs) : Calls Try.prog 5 #[.slice a len cap, .int .i64 least] w fun e w' => e = .returned (.bool true) ∧ Below w.heap.size w w' := by
  have hm := h.2.1
  have hxl := h.1
  by_cases hl : (len : Int) ≤ 1048576
  · have hl' : len ≤ 1048576 := by omega
    have hRl : (recs least xs).length ≤ 1048576 := Nat.le_trans (recs_le least xs) (by omega)
    generalize hR : recs least xs = R at hRl
    have HR := hide hR
    clear hR
    go_enter Try.func5, Try.ntmps5
    go_wp2_with fail
    refine (sz_small a len cap _ hm hl).mono ?_
    rintro e w1 ⟨rfl, hw⟩
    obtain rfl := hw.symm
    go_wp2_with fail
    refine (toIts_any a len cap xs _ h hl').mono ?_
    rintro e w2 ⟨g2, rfl, hI2, hb2⟩
    go_wp2_with fail
    refine (specrecs_any _ len len least xs _ (its_of hxl hm hI2) hl').mono ?_
    rintro e w3 ⟨v0, rfl, hO0, hb3⟩
    rw [unhide HR] at hO0
    obtain ⟨a0, cap0, rfl, hT0, hW0, hge0⟩ := hold hO0 hRl
    have hb3' := bel_trans hb2 hb3
    clear hO0
    go_wp2_with fail
    refine (toIts_at a len cap xs _ (h.below hb3') hl').mono ?_
    rintro e w4 ⟨rfl, hI4, hBk4, hb4⟩
    go_wp2_with fail
    refine (implrecs_any _ len len least xs _ (its_of hxl hm hI4) hl').mono ?_
    rintro e w5 ⟨v1, rfl, hO1, hb5⟩
    rw [unhide HR] at hO1
    obtain ⟨a1, cap1, rfl, hT1, hW1, hge1⟩ := hold hO1 hRl
    clear hO1
    have hb35 := bel_trans hb4 hb5
    go_wp2_with fail
    refine (eqIts_any _ _ R.length cap1 cap0 R _ hT1 (hT0.below hb35)).mono ?_
    rintro e w6 ⟨rfl, hb6⟩
    go_wp2_with fail
    have hb6' := bel_trans (bel_trans hb3' hb35) hb6
    refine (toIts_any a len cap xs _ (h.below hb6') hl').mono ?_
    rintro e w7 ⟨g7, rfl, hI7, hb7⟩
    go_wp2_with fail
    have hb57 := bel_trans hb6 hb7
    refine (eqIts_any _ _ len len len xs _ ((its_of hxl hm hI4).below (bel_trans hb5 hb57)) (its_of hxl hm hI7)).mono ?_
    rintro e w8 ⟨rfl, hb8⟩
    have hb58 := bel_trans hb57 hb8
    have hb8' := bel_trans (bel_trans hb6' hb7) hb8
    have hz3 := hb3'.size
    have hz4 := hb4.size
    have hs4 := hBk4.lt
    go_wp2_with fail
    have hWx : Wr w8 (some ⟨w3.heap.size, 0, none⟩) len len := Or.inr ⟨_, rfl, hBk4.below (bel_trans hb5 hb58) hs4, Nat.le_refl _⟩
    refine (mark_any _ len len _ hWx hl').mono ?_
    rintro e w9 ⟨rfl, _, hg9⟩
    have hT1' : Its w9 a1 R.length R := (hT1.below hb58).grown hg9 (fun g o hp ha => rowOf_ne (fun g' o' _ e => by have := hge1 g o hp ha; simp at e; omega) hWx.shape)
    have hT0' : Its w9 a0 R.length R := (hT0.below (bel_trans hb35 hb58)).grown hg9 (fun g o hp ha => rowOf_ne (fun g' o' _ e => by subst ha; have := hT0.lt hp; simp at e; omega) hWx.shape)
    have hW1' : Wr w9 a1 R.length cap1 := (hW1.below hb58).grown hg9 (fun g o hp ha => rowOf_ne (fun g' o' _ e => by have := hge1 g o hp ha; simp at e; omega) hWx.shape)
    have hb9' : Below w.heap.size w w9 := bel_grow hb8' hg9 (rowOf_ge (fun g' o' _ e => by simp at e; omega) hWx.shape)
    clear hg9
    go_wp2_with fail
    refine (eqIts_any _ _ R.length cap1 cap0 R _ hT1' hT0').mono ?_
    rintro e w10 ⟨rfl, hb10⟩
    go_wp2_with fail
    refine (mark_any a1 R.length cap1 _ (hW1'.below hb10) hRl).mono ?_
    rintro e w11 ⟨rfl, hM11, hg11⟩
    have hT0'' : Its w11 a0 R.length R := (hT0'.below hb10).grown hg11 (fun g o hp ha => rowOf_ne (fun g' o' hp' e => by subst ha; have := hT0.lt hp; have := hge1 g' o' hp' e; omega) hW1.shape)
    have hb11' : Below w.heap.size w w11 := bel_grow (bel_trans hb9' hb10) hg11 (rowOf_ge (fun g' o' hp e => by have := hge1 g' o' hp e; omega) hW1.shape)
    clear hg11
    go_wp2_with fail
    refine (held_any a1 R.length cap1 _ hM11 hRl).mono ?_
    rintro e w12 ⟨rfl, hw12⟩
    obtain rfl := hw12.symm
    go_wp2_with fail
    refine (toIts_any a len cap xs _ (h.below hb11') hl').mono ?_
    rintro e w13 ⟨g13, rfl, hI13, hb13⟩
    go_wp2_with fail
    refine (implrecs_any _ len len least xs _ (its_of hxl hm hI13) hl').mono ?_
    rintro e w14 ⟨v2, rfl, hO2, hb14⟩
    rw [unhide HR] at hO2
    obtain ⟨a2, cap2, rfl, hT2, hW2, hge2⟩ := hold hO2 hRl
    clear hO2
    have hb1114 := bel_trans hb13 hb14
    go_wp2_with fail
    refine (eqIts_any _ _ R.length cap2 cap0 R _ hT2 (hT0''.below hb1114)).mono ?_
    rintro e w15 ⟨rfl, hb15⟩
    have hb1115 := bel_trans hb1114 hb15
    go_wp2_with fail
    refine (held_any a1 R.length cap1 _ (hM11.below hb1115) hRl).mono ?_
    rintro e w16 ⟨rfl, hw16⟩
    obtain rfl := hw16.symm
    go_wp2_with fail
    go_ret
    exact ⟨rfl, bel_trans hb11' hb1115⟩
  · go_enter Try.func5, Try.ntmps5
    go_wp2_with fail
    refine (sz_big a len cap _ hm (by omega)).mono ?_
    rintro e w1 ⟨rfl, hw⟩
    obtain rfl := hw.symm
    go_wp2_with fail
    go_ret
    exact ⟨rfl, Below.refl _ _⟩
end Go.Proofs.Ytbbgiklhkhlnaaa
