/- Laid together: what the claim needs of the texts that were built one by one. -/
import Derived.Test.YtabphkmhafflbaaPkCkpC
import Derived.Test.YtabphkmhafflbaaPkBase
namespace Go.Proofs.Ytabphkmhafflbaa
open Go.ChangeShapes Go.WideShapes Go.ChangeAt Go.RowKit Go.Deep
set_option linter.unusedVariables false

theorem newsOr {W : World} {a : Option Addr} {n : Nat} {xs : List OrR} {q : Addr} (h : OrRs W a n xs) (ha : a = some q) : ∀ j u, (flatOr xs)[j]? = some u → W.cell? (q.add j) = some u := by
  intro j u hu
  obtain ⟨h1, _, h3⟩ := h
  have hj : j < xs.length * 13 := by rw [← flatOr_len]; exact (List.getElem?_eq_some_iff.1 hu).1
  have hi : j / 13 < xs.length := by omega
  obtain ⟨g, o, e, hat⟩ := h3.resolve_left (by omega)
  rw [ha] at e
  cases e
  have e : ((⟨g, o, none⟩ : Addr).add j) = ⟨g, o + j, none⟩ := by
    unfold Addr.add
    split
    · rename_i h0; rw [h0]; rfl
    · rfl
  rw [e]
  obtain ⟨x, hx⟩ : ∃ x, xs[j / 13]? = some x := ⟨_, List.getElem?_eq_getElem hi⟩
  obtain ⟨f0, f1, f2, f3, f4, f5, f6, f7, f8, f9, f10, f11, f12⟩ := flatOr_get hx
  obtain ⟨c0, c1, c2, c3, c4, c5, c6, c7, c8, c9, c10, c11, c12⟩ := hat (j / 13) x hx
  have hmod : j = j / 13 * 13 ∨ j = j / 13 * 13 + 1 ∨ j = j / 13 * 13 + 2 ∨ j = j / 13 * 13 + 3 ∨ j = j / 13 * 13 + 4 ∨ j = j / 13 * 13 + 5 ∨ j = j / 13 * 13 + 6 ∨ j = j / 13 * 13 + 7 ∨ j = j / 13 * 13 + 8 ∨ j = j / 13 * 13 + 9 ∨ j = j / 13 * 13 + 10 ∨ j = j / 13 * 13 + 11 ∨ j = j / 13 * 13 + 12 := by omega
  rcases hmod with hj | hj | hj | hj | hj | hj | hj | hj | hj | hj | hj | hj | hj
  · rw [hj, f0] at hu; cases hu; rw [hj]; exact c0
  · rw [hj, f1] at hu; cases hu; rw [hj, ← Nat.add_assoc]; exact c1
  · rw [hj, f2] at hu; cases hu; rw [hj, ← Nat.add_assoc]; exact c2
  · rw [hj, f3] at hu; cases hu; rw [hj, ← Nat.add_assoc]; exact c3
  · rw [hj, f4] at hu; cases hu; rw [hj, ← Nat.add_assoc]; exact c4
  · rw [hj, f5] at hu; cases hu; rw [hj, ← Nat.add_assoc]; exact c5
  · rw [hj, f6] at hu; cases hu; rw [hj, ← Nat.add_assoc]; exact c6
  · rw [hj, f7] at hu; cases hu; rw [hj, ← Nat.add_assoc]; exact c7
  · rw [hj, f8] at hu; cases hu; rw [hj, ← Nat.add_assoc]; exact c8
  · rw [hj, f9] at hu; cases hu; rw [hj, ← Nat.add_assoc]; exact c9
  · rw [hj, f10] at hu; cases hu; rw [hj, ← Nat.add_assoc]; exact c10
  · rw [hj, f11] at hu; cases hu; rw [hj, ← Nat.add_assoc]; exact c11
  · rw [hj, f12] at hu; cases hu; rw [hj, ← Nat.add_assoc]; exact c12

theorem flatOr_oneC (xs : List OrR) : ∀ u ∈ flatOr xs, u.oneCell' = true := by
  intro u hu
  simp only [flatOr, List.mem_flatMap] at hu
  obtain ⟨x, _, hx⟩ := hu
  simp only [OrR.cells, List.mem_cons, List.not_mem_nil, or_false] at hx
  rcases hx with rfl | rfl | rfl | rfl | rfl | rfl | rfl | rfl | rfl | rfl | rfl | rfl | rfl <;> rfl

set_option linter.unusedSimpArgs false in
set_option maxRecDepth 20000 in
theorem cloneOrC_any (a : Option Addr) (n cap : Nat) (xs : List OrR) (w : World) (h : OrRs w a n xs) (hl : n ≤ 1048576) : Calls Try.prog 57 #[.slice a n cap] w fun e w' => ∃ v, e = .returned v ∧ w'.ownsRow w.heap.size 82 13 v n (flatOr xs) ∧ Below w.heap.size w w' := by
  obtain ⟨i0, hi, hz0, hz1, hz2⟩ := info_parts Try.infoOr
  have hxl := h.1
  cases a with
  | none =>
    have h0 : n = 0 := by
      rcases h.2.2 with h | ⟨g, o, e, _⟩
      · exact h
      · cases e
    subst h0
    obtain rfl := List.length_eq_zero_iff.1 hxl
    have hnil : ∀ w : World, (binOp .eql 44 (.slice none 0 cap) (.slice none 0 0)).run Try.prog w = .ok (.bool true) w := fun w => by simpa using Lib.run_eql_slice_nil w 44 82 none 0 cap 0 0 Try.underlying44
    go_enter Try.func57, Try.ntmps57
    go_wp2
    go_ret
    exact ⟨_, rfl, World.ownsRow_nil _ _ _ _, Below.refl _ _⟩
  | some q =>
    have hnil : ∀ w : World, (binOp .eql 44 (.slice (some q) n cap) (.slice none 0 0)).run Try.prog w = .ok (.bool false) w := fun w => by simpa using Lib.run_eql_slice_nil w 44 82 (some q) n cap 0 0 Try.underlying44
    have HG := h.below (bel_one w (.cells #[] 82))
    go_enter Try.func57, Try.ntmps57
    go_wp2_with (at_builtin; go_loud (refine wpList_append_own _ rfl _ _ 44 rfl w.heap.size 82 i0 _ 13 104 Try.underlying44 hi hz0 hz1 hz2 rfl (by decide) (.slice (some ⟨w.heap.size, 0, none⟩) 0 0) 0 [] rfl (lit_at (Nat.le_refl _) rfl) q n cap (flatOr xs) rfl (by rw [flatOr_len, hxl]) (newsOr HG rfl) (flatOr_oneC xs) (by unfold maxLen; omega) (by omega) (by simp) ?_); intro v' w2 hown hgrow _)
    rw [Nat.zero_add, List.nil_append] at hown
    have hb2 : Below w.heap.size w w2 := (bel_one w _).grown hgrow (by simp) (fun k hk => by simp [Value.ownBlock] at hk; omega)
    go_ret
    exact ⟨_, rfl, hown, hb2⟩
end Go.Proofs.Ytabphkmhafflbaa
