/- Laid together: what the claim needs of the texts that were built one by one. -/
import Derived.Test.YtabphkmhafflbaaPkCkpN
import Derived.Test.YtabphkmhafflbaaPkBase
namespace Go.Proofs.Ytabphkmhafflbaa
open Go.ChangeShapes Go.WideShapes Go.ChangeAt Go.RowKit Go.Deep
set_option linter.unusedVariables false

theorem cellsIn {W : World} {a : Option Addr} {n : Nat} {xs : List Int} {q : Addr} (h : InRs W a n xs) (ha : a = some q) : ∀ j u, (xs.map fun z => .int .i64 z)[j]? = some u → W.cell? (q.add j) = some u := by
  intro j u hu
  obtain ⟨h1, _, h3⟩ := h
  rw [List.getElem?_map, Option.map_eq_some_iff] at hu
  obtain ⟨x, hx, rfl⟩ := hu
  have hj : j < xs.length := (List.getElem?_eq_some_iff.1 hx).1
  obtain ⟨g, o, e, hat⟩ := h3.resolve_left (by omega)
  rw [ha] at e
  cases e
  cases j with
  | zero => simpa [Addr.add] using hat 0 x hx
  | succ j => simpa [Addr.add] using hat (j + 1) x hx

set_option linter.unusedSimpArgs false in
set_option maxRecDepth 20000 in
theorem cloneIn_any (a : Option Addr) (n cap : Nat) (xs : List Int) (w : World) (h : InRs w a n xs) (hl : n ≤ 1048576) : Calls Try.prog 43 #[.slice a n cap] w fun e w' => ∃ v, e = .returned v ∧ w'.ownsRow w.heap.size 3 1 v n (xs.map fun z => .int .i64 z) ∧ Below w.heap.size w w' := by
  obtain ⟨i0, hi, hz0, hz1, hz2⟩ := info_parts Try.infoInt1
  have hxl := h.1
  cases a with
  | none =>
    have h0 : n = 0 := by
      rcases h.2.2 with h | ⟨g, o, e, _⟩
      · exact h
      · cases e
    subst h0
    obtain rfl := List.length_eq_zero_iff.1 hxl
    have hnil : ∀ w : World, (binOp .eql 26 (.slice none 0 cap) (.slice none 0 0)).run Try.prog w = .ok (.bool true) w := fun w => by simpa using Lib.run_eql_slice_nil w 26 3 none 0 cap 0 0 Try.underlying26
    go_enter Try.func43, Try.ntmps43
    go_wp2
    go_ret
    exact ⟨_, rfl, World.ownsRow_nil _ _ _ _, Below.refl _ _⟩
  | some q =>
    have hnil : ∀ w : World, (binOp .eql 26 (.slice (some q) n cap) (.slice none 0 0)).run Try.prog w = .ok (.bool false) w := fun w => by simpa using Lib.run_eql_slice_nil w 26 3 (some q) n cap 0 0 Try.underlying26
    have HG := h.below (bel_one w (.cells #[] 3))
    go_enter Try.func43, Try.ntmps43
    go_wp2_with (at_builtin; go_loud (refine wpList_append_own _ rfl _ _ 26 rfl w.heap.size 3 i0 _ 1 8 Try.underlying26 hi hz0 hz1 hz2 rfl (by decide) (.slice (some ⟨w.heap.size, 0, none⟩) 0 0) 0 [] rfl (lit_at (Nat.le_refl _) rfl) q n cap (xs.map fun z => .int .i64 z) rfl (by simp [hxl]) (cellsIn HG rfl) (fun u hu => by obtain ⟨z, _, rfl⟩ := List.mem_map.1 hu; rfl) (by unfold maxLen; omega) (by omega) (by simp) ?_); intro v' w2 hown hgrow _)
    rw [Nat.zero_add, List.nil_append] at hown
    have hb2 : Below w.heap.size w w2 := (bel_one w _).grown hgrow (by simp) (fun k hk => by simp [Value.ownBlock] at hk; omega)
    go_ret
    exact ⟨_, rfl, hown, hb2⟩

theorem cellsBo {W : World} {a : Option Addr} {n : Nat} {xs : List Bool} {q : Addr} (h : BoRs W a n xs) (ha : a = some q) : ∀ j u, (xs.map fun z => .bool z)[j]? = some u → W.cell? (q.add j) = some u := by
  intro j u hu
  obtain ⟨h1, _, h3⟩ := h
  rw [List.getElem?_map, Option.map_eq_some_iff] at hu
  obtain ⟨x, hx, rfl⟩ := hu
  have hj : j < xs.length := (List.getElem?_eq_some_iff.1 hx).1
  obtain ⟨g, o, e, hat⟩ := h3.resolve_left (by omega)
  rw [ha] at e
  cases e
  cases j with
  | zero => simpa [Addr.add] using hat 0 x hx
  | succ j => simpa [Addr.add] using hat (j + 1) x hx

set_option linter.unusedSimpArgs false in
set_option maxRecDepth 20000 in
theorem cloneBo_any (a : Option Addr) (n cap : Nat) (xs : List Bool) (w : World) (h : BoRs w a n xs) (hl : n ≤ 1048576) : Calls Try.prog 44 #[.slice a n cap] w fun e w' => ∃ v, e = .returned v ∧ w'.ownsRow w.heap.size 4 1 v n (xs.map fun z => .bool z) ∧ Below w.heap.size w w' := by
  obtain ⟨i0, hi, hz0, hz1, hz2⟩ := info_parts Try.infoBoo1
  have hxl := h.1
  cases a with
  | none =>
    have h0 : n = 0 := by
      rcases h.2.2 with h | ⟨g, o, e, _⟩
      · exact h
      · cases e
    subst h0
    obtain rfl := List.length_eq_zero_iff.1 hxl
    have hnil : ∀ w : World, (binOp .eql 27 (.slice none 0 cap) (.slice none 0 0)).run Try.prog w = .ok (.bool true) w := fun w => by simpa using Lib.run_eql_slice_nil w 27 4 none 0 cap 0 0 Try.underlying27
    go_enter Try.func44, Try.ntmps44
    go_wp2
    go_ret
    exact ⟨_, rfl, World.ownsRow_nil _ _ _ _, Below.refl _ _⟩
  | some q =>
    have hnil : ∀ w : World, (binOp .eql 27 (.slice (some q) n cap) (.slice none 0 0)).run Try.prog w = .ok (.bool false) w := fun w => by simpa using Lib.run_eql_slice_nil w 27 4 (some q) n cap 0 0 Try.underlying27
    have HG := h.below (bel_one w (.cells #[] 4))
    go_enter Try.func44, Try.ntmps44
    go_wp2_with (at_builtin; go_loud (refine wpList_append_own _ rfl _ _ 27 rfl w.heap.size 4 i0 _ 1 1 Try.underlying27 hi hz0 hz1 hz2 rfl (by decide) (.slice (some ⟨w.heap.size, 0, none⟩) 0 0) 0 [] rfl (lit_at (Nat.le_refl _) rfl) q n cap (xs.map fun z => .bool z) rfl (by simp [hxl]) (cellsBo HG rfl) (fun u hu => by obtain ⟨z, _, rfl⟩ := List.mem_map.1 hu; rfl) (by unfold maxLen; omega) (by omega) (by simp) ?_); intro v' w2 hown hgrow _)
    rw [Nat.zero_add, List.nil_append] at hown
    have hb2 : Below w.heap.size w w2 := (bel_one w _).grown hgrow (by simp) (fun k hk => by simp [Value.ownBlock] at hk; omega)
    go_ret
    exact ⟨_, rfl, hown, hb2⟩
end Go.Proofs.Ytabphkmhafflbaa
