/- Proved here: an operator's state copied by the program and the specification; whether all marks are ok. -/
import Derived.Test.YtppdfmclhklkhaaTskW
import Derived.Test.YtppdfmclhklkhaaTskOkI
import Derived.Deep.RegionHeld3
import Derived.Lib.SliceRun
namespace Go.Proofs.Ytppdfmclhklkhaa
open Go.ChangeShapes Go.WideShapes Go.ChangeAt Go.RowKit
set_option linter.unusedVariables false

set_option maxRecDepth 20000 in
theorem toStG_any (m : Int) (a : Option Addr) (len cap : Nat) (xs : List OrR) (w : World) (h : OrRs w a len xs) (hl : len ≤ 1048576) : Calls Try.prog 10 #[.agg #[.int .i64 m, .slice a len cap]] w fun e w' => ∃ g, e = .returned (.agg #[.int .i64 m, .slice (some ⟨g, 0, none⟩) len len]) ∧ OrG w' g len xs ∧ w.heap.size ≤ g ∧ Below w.heap.size w w' := by
  have hmx := h.2.1
  go_enter Try.func10, Try.ntmps10
  go_wp2_with (go_at_call 32; refine (toOr_at a len cap xs _ (h.below (by repeat (first | (with_reducible refine bel_set ?_ (by first | (simp; done) | (simp; omega)) _) | (with_reducible refine bel_alloc ?_ _) | (with_reducible exact Below.refl _ _) | (with_reducible assumption) | (with_reducible refine bel_drew ?_) | (with_reducible refine bel_drewN ?_ _) | (with_reducible refine bel_trans ?_ (by with_reducible assumption))))) hl).mono ?_; rintro e' w' ⟨rfl, H, R, hb⟩; obtain ⟨hc, hf, hs⟩ := bcell hb; have hz0 : w.heap.size + 1 < w'.heap.size := (by have h9 := hb.size; (try simp at h9); omega); have hz1 : w.heap.size + 1 + 1 < w'.heap.size := (by have h9 := hb.size; (try simp at h9); omega))
  have HG : OrG w' (w.heap.size + 1 + 1 + 1) len xs := ⟨h.1, hmx, by simpa using H, by simpa using R⟩
  refine bodyPost_ret (v := .agg #[.int .i64 m, .slice (some ⟨w.heap.size + 1 + 1 + 1, 0, none⟩) len len]) (by simp (maxDischargeDepth := 9) [results, Try.results10, go_sem, *]) rfl ⟨_, rfl, ?_, by omega, ?_⟩
  · repeat (first | (with_reducible exact HG) | (with_reducible refine OrG.set ?_ (by simp <;> omega)))
  · exact (by repeat (first | (with_reducible refine bel_set ?_ (by first | (simp; done) | (simp; omega)) _) | (with_reducible refine bel_alloc ?_ _) | (with_reducible exact Below.refl _ _) | (with_reducible assumption) | (with_reducible refine bel_drew ?_) | (with_reducible refine bel_drewN ?_ _) | (with_reducible refine bel_trans ?_ (by with_reducible assumption))))

theorem sliceOf {W : World} {B : Nat} {e : TypeId} {size n : Nat} {v : Value} {xs : List Value} (h : W.ownsRow B e size v n xs) : ∃ a c, v = .slice a n c := by
  rcases h.2 with ⟨rfl, h0⟩ | ⟨g, cap, cur, rfl, _⟩
  · exact ⟨none, 0, by rw [h0]⟩
  · exact ⟨_, _, rfl⟩
theorem own_set {W : World} {p : Addr} {u : Value} {B : Nat} {e : TypeId} {size n : Nat} {v : Value} {xs : List Value} (h : W.ownsRow B e size v n xs) (hp : v.ownBlock ≠ some p.block) : (W.setCell p u).ownsRow B e size v n xs := by
  rcases h with ⟨hl, h | ⟨g, cap, cur, rfl, hB, hblk, r⟩⟩
  · exact ⟨hl, Or.inl h⟩
  · exact ⟨hl, Or.inr ⟨g, cap, cur, rfl, hB, (Below.heap_setCell _ _ _ _ (fun e => hp (by rw [← e]; rfl))).trans hblk, r⟩⟩
theorem own_geB {W : World} {B : Nat} {e : TypeId} {size n : Nat} {v : Value} {xs : List Value} (h : W.ownsRow B e size v n xs) : ∀ k, v.ownBlock = some k → B ≤ k := by
  intro k hk
  rcases h.2 with ⟨rfl, _⟩ | ⟨g, cap, cur, rfl, hg, _⟩
  · cases hk
  · simp [Value.ownBlock] at hk; omega

set_option linter.unusedSimpArgs false in
set_option maxRecDepth 20000 in
set_option maxHeartbeats 1000000 in
theorem l7copy_any (m : Int) (g len cap : Nat) (xs : List OrR) (w : World) (h : OrG w g len xs) (hl : len ≤ 1048576) : Calls Try.prog 30 #[.agg #[.int .i64 m, .slice (some ⟨g, 0, none⟩) len cap]] w fun e w' => ∃ a c, e = .returned (.agg #[.int .i64 m, .slice a len c]) ∧ OwnOr w' w.heap.size (.slice a len c) xs ∧ Below w.heap.size w w' := by
  obtain ⟨i0, hi, hz0, hz1, hz2⟩ := info_parts Try.infoOr
  have hxl := h.1
  have hb0 : Below w.heap.size w (((w.alloc (.cells #[.int .i64 m, .slice (some ⟨g, 0, none⟩) len cap] 32)).alloc (.cells #[.int .i64 0, .slice none 0 0] 32)).drew.alloc (.cells #[] 80)) := bel_alloc (bel_drew (bel_alloc (bel_one _ _) _)) _
  have HG := h.below hb0
  go_enter Try.func30, Try.ntmps30
  go_wp2_with fail
  refine wp_region_held_drew (S := (fun W => (W.cell? ⟨w.heap.size, 0, none⟩ = some (.int .i64 m) ∧ W.cell? ⟨w.heap.size, 1, none⟩ = some (.slice (some ⟨g, 0, none⟩) len cap)) ∧ w.heap.size < W.heap.size)) (by kernel_rfl) ?_ (fun hHeld => ?_)
  · (try dsimp only); exact ⟨⟨by simp [go_sem], by simp [go_sem]⟩, by simp <;> omega⟩
  refine wpAnyH_take (i := 0) (v := ?_) (by simp only [List.getElem?_toArray, List.getElem?_cons_zero, List.getElem?_cons_succ]; rfl) (by kernel_rfl) (by kernel_rfl) (by kernel_rfl) (by intro _ _ _ h; exact h) (Or.inl ⟨by rfl, ?_⟩) (by assumption) ?_
  rotate_left
  · (intro w9 hSw; (try dsimp only at hSw); go_simp <;> with_reducible rfl)
  try simp only [Act.put, List.setIfInBounds_toArray, List.set_cons_zero, List.set_cons_succ]
  refine wpAnyH_take (i := 1) (v := ?_) (by simp only [List.getElem?_toArray, List.getElem?_cons_zero, List.getElem?_cons_succ]; rfl) (by kernel_rfl) (by kernel_rfl) (by kernel_rfl) (by intro _ _ _ h; exact h) (Or.inl ⟨by rfl, ?_⟩) (by assumption) ?_
  rotate_left
  · (intro w9 hSw; (try dsimp only at hSw); go_simp <;> with_reducible rfl)
  try simp only [Act.put, List.setIfInBounds_toArray, List.set_cons_zero, List.set_cons_succ]
  refine wpAnyH_take (i := 3) (v := ?_) (by simp only [List.getElem?_toArray, List.getElem?_cons_zero, List.getElem?_cons_succ]; rfl) (by kernel_rfl) (by kernel_rfl) (by kernel_rfl) (by intro _ _ _ h; exact h) (Or.inl ⟨by rfl, ?_⟩) (by assumption) ?_
  rotate_left
  · (intro w9 hSw; (try dsimp only at hSw); go_simp <;> with_reducible rfl)
  try simp only [Act.put, List.setIfInBounds_toArray, List.set_cons_zero, List.set_cons_succ]
  refine wpAnyH_take (i := 4) (v := ?_) (by simp only [List.getElem?_toArray, List.getElem?_cons_zero, List.getElem?_cons_succ]; rfl) (by kernel_rfl) (by kernel_rfl) (by kernel_rfl) (by intro _ _ _ h; exact h) (Or.inl ⟨by rfl, ?_⟩) (by assumption) ?_
  rotate_left
  · (intro w9 hSw; (try dsimp only at hSw); go_simp <;> with_reducible rfl)
  try simp only [Act.put, List.setIfInBounds_toArray, List.set_cons_zero, List.set_cons_succ]
  refine wpAnyH_ready (rs := [2]) (by kernel_rfl) (by simp) ?_
  refine AllReadyH.cons (by simp only [List.getElem?_toArray, List.getElem?_cons_zero, List.getElem?_cons_succ]; rfl) (fun K hK => ?_) AllReadyH.nil
  go_simp
  refine hK.out _ _ ?_ (fun hHeld2 => ?_)
  · (try dsimp only); exact ⟨⟨by simp [go_sem], by simp [go_sem]⟩, by simp <;> omega⟩
  clear hK K hHeld
  have hHeld := hHeld2
  clear hHeld2
  try simp only [Act.put, List.setIfInBounds_toArray, List.set_cons_zero, List.set_cons_succ]
  refine wpAnyH_ready (rs := [5]) (by kernel_rfl) (by simp) ?_
  refine AllReadyH.cons (by simp only [List.getElem?_toArray, List.getElem?_cons_zero, List.getElem?_cons_succ]; rfl) (fun K hK => ?_) AllReadyH.nil
  refine step_append_at rfl _ _ 30 rfl (w.heap.size + 1 + 1) 80 i0 _ 13 104 Try.underlying30 hi hz0 hz1 hz2 rfl (by decide) (.slice (some ⟨w.heap.size + 1 + 1, 0, none⟩) 0 0) 0 [] rfl ?own ⟨g, 0, none⟩ len cap (flatOr xs) rfl (by rw [flatOr_len, hxl]) HG.cells (flatOr_one xs) (by unfold maxLen; omega) (by omega) (by simp) ?_
  case own => exact ownLit (W := ((w.alloc (.cells #[.int .i64 m, .slice (some ⟨g, 0, none⟩) len cap] 32)).alloc (.cells #[.int .i64 0, .slice none 0 0] 32)).drew) (B := w.heap.size + 1 + 1) _ _ (by simp) (by simp)
  intro v' w2 hown hgrow _
  rw [Nat.zero_add, List.nil_append] at hown
  obtain ⟨a', c', rfl⟩ := sliceOf hown
  have hbX : Below (w.heap.size + 1 + 1) (((w.alloc (.cells #[.int .i64 m, .slice (some ⟨g, 0, none⟩) len cap] 32)).alloc (.cells #[.int .i64 0, .slice none 0 0] 32)).drew.alloc (.cells #[] 80)) w2 := (Below.refl _ _).grown hgrow (by simp) (fun k hk => by simp [Value.ownBlock] at hk; omega)
  have hOO : OwnOr w2 (w.heap.size + 1 + 1) (.slice a' len c') xs := by unfold OwnOr; rw [hxl]; exact hown
  have hz2' : w.heap.size + 1 < w2.heap.size := by have h9 := hgrow.size; simp at h9; omega
  have z0 : w2.cell? ⟨w.heap.size + 1, 0, none⟩ = some (.int .i64 0) := (hbX.cell (p := ⟨w.heap.size + 1, 0, none⟩) (by simp)).trans (by simp [go_sem])
  have z1 : w2.cell? ⟨w.heap.size + 1, 1, none⟩ = some (.slice none 0 0) := (hbX.cell (p := ⟨w.heap.size + 1, 1, none⟩) (by simp)).trans (by simp [go_sem])
  have y0 : w2.frozen? ⟨w.heap.size + 1, 0, none⟩ = false := (hbX.frozen (p := ⟨w.heap.size + 1, 0, none⟩) (by simp)).trans (by simp [go_sem])
  have y1 : w2.frozen? ⟨w.heap.size + 1, 1, none⟩ = false := (hbX.frozen (p := ⟨w.heap.size + 1, 1, none⟩) (by simp)).trans (by simp [go_sem])
  refine hK.out _ _ ?_ (fun hHeld2 => ?_)
  · (try dsimp only); exact ⟨⟨(hbX.cell (p := ⟨w.heap.size, 0, none⟩) (by simp <;> omega)).trans (by simp [go_sem]), (hbX.cell (p := ⟨w.heap.size, 1, none⟩) (by simp <;> omega)).trans (by simp [go_sem])⟩, by omega⟩
  clear hK K hHeld
  have hHeld := hHeld2
  clear hHeld2
  try simp only [Act.put, List.setIfInBounds_toArray, List.set_cons_zero, List.set_cons_succ]
  refine wpAnyH_take (i := 6) (v := ?_) (by simp only [List.getElem?_toArray, List.getElem?_cons_zero, List.getElem?_cons_succ]; rfl) (by kernel_rfl) (by kernel_rfl) (by kernel_rfl) (by intro _ _ _ h; exact h) (Or.inl ⟨by rfl, ?_⟩) (by assumption) ?_
  rotate_left
  · (intro w9 hSw; (try dsimp only at hSw); go_simp <;> with_reducible rfl)
  try simp only [Act.put, List.setIfInBounds_toArray, List.set_cons_zero, List.set_cons_succ]
  refine wpAnyH_ready (rs := [7]) (by kernel_rfl) (by simp) ?_
  refine AllReadyH.cons (by simp only [List.getElem?_toArray, List.getElem?_cons_zero, List.getElem?_cons_succ]; rfl) (fun K hK => ?_) AllReadyH.nil
  go_simp
  refine hK.out _ _ ?_ (fun hHeld2 => ?_)
  · (try dsimp only); exact ⟨⟨by rw [cell_set_ne (by simp), cell_set_ne (by simp)]; exact hHeld.1.1, by rw [cell_set_ne (by simp), cell_set_ne (by simp)]; exact hHeld.1.2⟩, by simp [World.setCell] <;> omega⟩
  clear hK K hHeld
  have hHeld := hHeld2
  clear hHeld2
  try simp only [Act.put, List.setIfInBounds_toArray, List.set_cons_zero, List.set_cons_succ]
  refine wpAnyH_done (by kernel_rfl) ?_ _
  go_wp2
  have hne : (Value.slice a' len c').ownBlock ≠ some (w.heap.size + 1) := fun e => by have := own_geB hOO _ e; omega
  refine bodyPost_ret (v := .agg #[.int .i64 m, .slice a' len c']) (by simp (maxDischargeDepth := 9) [results, Try.results30, go_sem, *]) rfl ⟨a', c', rfl, World.ownsRow.mono (own_set (own_set hOO (by simpa using hne)) (by simpa using hne)) (by omega), ?_⟩
  exact (((hb0.trans (hbX.mono (by omega))).setCell (by simp) _).setCell (by simp) _)

set_option maxRecDepth 20000 in
set_option maxHeartbeats 1000000 in
theorem cloneOr_any (g len cap : Nat) (xs : List OrR) (w : World) (h : OrG w g len xs) (hl : len ≤ 1048576) : Calls Try.prog 36 #[.slice (some ⟨g, 0, none⟩) len cap] w fun e w' => ∃ a c, e = .returned (.slice a len c) ∧ OwnOr w' w.heap.size (.slice a len c) xs ∧ Below w.heap.size w w' := by
  obtain ⟨i0, hi, hz0, hz1, hz2⟩ := info_parts Try.infoOr
  have hxl := h.1
  have HG := h.below (bel_one w (.cells #[] 80))
  have hnil : ∀ w : World, (binOp .eql 30 (.slice (some ⟨g, 0, none⟩) len cap) (.slice none 0 0)).run Try.prog w = .ok (.bool false) w := fun w => by simpa using Lib.run_eql_slice_nil w 30 80 (some ⟨g, 0, none⟩) len cap 0 0 Try.underlying30
  go_enter Try.func36, Try.ntmps36
  go_wp2_with (at_builtin; go_loud (refine wpList_append_own _ rfl _ _ 30 rfl w.heap.size 80 i0 _ 13 104 Try.underlying30 hi hz0 hz1 hz2 rfl (by decide) (.slice (some ⟨w.heap.size, 0, none⟩) 0 0) 0 [] rfl (ownLit (W := w) (B := w.heap.size) _ _ (Nat.le_refl _) rfl) ⟨g, 0, none⟩ len cap (flatOr xs) rfl (by rw [flatOr_len, hxl]) HG.cells (flatOr_one xs) (by unfold maxLen; omega) (by omega) (by simp) ?_); intro v' w2 hown hgrow _)
  rw [Nat.zero_add, List.nil_append] at hown
  obtain ⟨a', c', rfl⟩ := sliceOf hown
  have hOO : OwnOr w2 w.heap.size (.slice a' len c') xs := by unfold OwnOr; rw [hxl]; exact hown
  have hb2 : Below w.heap.size w w2 := (bel_one w _).grown hgrow (by simp) (fun k hk => by simp [Value.ownBlock] at hk; omega)
  go_ret
  exact ⟨a', c', rfl, hOO, hb2⟩

def okMk (m : Int) : Bool := inB m 0 1000
set_option maxRecDepth 20000 in
set_option maxHeartbeats 1000000 in
theorem everyIn_any (a : Option Addr) (len cap : Nat) (xs : List Int) (w : World) (h : InRs w a len xs) : Calls Try.prog 34 #[.slice a len cap, .func (.func 35) #[] #[]] w fun e w' => e = .returned (.bool (xs.all okMk)) ∧ Below w.heap.size w w' := by
  have hm := h.2.1
  unfold maxLen at hm
  go_enter Try.func34, Try.ntmps34
  go_wp2
  go_loopw [9] (fun i wr => ∃ k : Nat, k ≤ len ∧ i = .int .i64 k ∧ Hid ((xs.take k).all okMk = true) ∧ Below w.heap.size w wr) (fun i _ => len - (intOf i).toNat)
  case atStart => exact ⟨0, Nat.zero_le _, rfl, hide (by simp), Below.refl _ _⟩
  case round =>
    obtain ⟨k, hk, rfl, hA, hbw⟩ := hrel
    by_cases hlt : k < len
    · obtain ⟨hxl, _, hx⟩ := h
      obtain ⟨g, o, rfl, hr⟩ := hx.resolve_left (by omega)
      obtain ⟨x, hxk⟩ : ∃ x, xs[k]? = some x := ⟨_, List.getElem?_eq_getElem (by omega)⟩
      have hX := hide hxk
      have d0 := (hbw.cell (p := ⟨g, o + k, none⟩) (hr.lt (by omega))).trans (hr k _ hxk)
      clear hx hxk hr
      cases hB : inB x 0 1000
      · have HE : Hid (xs.all okMk = false) := hide (all_ff (unhide hX) hB)
        go_wp2_with (go_at_call 35; refine (tmarkok_any _ _).mono ?_; rintro e wf ⟨rfl, hw⟩; obtain rfl := hw.symm; clear hw)
        go_ret
        exact ⟨ret_b (unhide HE).symm, (by repeat (first | (with_reducible exact Below.refl _ _) | (with_reducible assumption) | (with_reducible refine bel_set ?_ (by first | (simp; done) | (simp; omega)) _) | (with_reducible refine bel_alloc ?_ _) | (with_reducible refine bel_drew ?_) | (with_reducible refine bel_drewN ?_ _) | (with_reducible refine bel_trans ?_ (by with_reducible assumption))))⟩
      · have HE : Hid ((xs.take (k + 1)).all okMk = true) := hide (all_tt (unhide hA) (unhide hX) hB)
        go_wp2_with (go_at_call 35; refine (tmarkok_any _ _).mono ?_; rintro e wf ⟨rfl, hw⟩; obtain rfl := hw.symm; clear hw)
        go_roundw
        case rel => exact ⟨k + 1, by omega, by go_num, HE, (by repeat (first | (with_reducible exact Below.refl _ _) | (with_reducible assumption) | (with_reducible refine bel_set ?_ (by first | (simp; done) | (simp; omega)) _) | (with_reducible refine bel_alloc ?_ _) | (with_reducible refine bel_drew ?_) | (with_reducible refine bel_drewN ?_ _) | (with_reducible refine bel_trans ?_ (by with_reducible assumption))))⟩
        case measure => simp [intOf]; omega
    · have HE : Hid (xs.all okMk = true) := hide (by have h1 := unhide hA; rwa [List.take_of_length_le (by have := h.1; omega)] at h1)
      go_wp2
      go_ret
      exact ⟨ret_b (unhide HE).symm, hbw⟩

end Go.Proofs.Ytppdfmclhklkhaa
