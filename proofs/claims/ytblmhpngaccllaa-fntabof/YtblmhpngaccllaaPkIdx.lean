/- Laid together: what the claim needs of the texts that were built one by one. -/
import Derived.Test.YtblmhpngaccllaaPkCmp
import Derived.Test.YtblmhpngaccllaaPkTabFnd
import Derived.Test.YtblmhpngaccllaaPkBase
namespace Go.Proofs.Ytblmhpngaccllaa
open Go.ChangeShapes Go.WideShapes Go.ChangeAt Go.RowKit
set_option linter.unusedVariables false

/-- Whether a row stands ahead of another one. -/
def aheadR (r x : TbR) : Bool := decide (plCmp r.ky r.st r.en x.ky x.st x.en < 0)

set_option maxRecDepth 20000 in
set_option maxHeartbeats 2000000 in
theorem isahead_any (r x : TbR) (w : World) : Calls Try.prog 29 #[.agg #[.int .i64 r.ky, .int .i64 r.st, .int .i64 r.en, .int .i64 r.n, .int .i64 r.su, .int .i64 r.le, .int .i64 r.mo], .agg #[.int .i64 x.ky, .int .i64 x.st, .int .i64 x.en, .int .i64 x.n, .int .i64 x.su, .int .i64 x.le, .int .i64 x.mo]] w fun e w' => e = .returned (.bool (aheadR r x)) ∧ Below w.heap.size w w' := by
  go_enter Try.func29, Try.ntmps29
  go_wp2
  go_region_held3 (fun W => ((W.cell? ⟨w.heap.size, 0, none⟩ = some (.int .i64 r.ky) ∧ W.cell? ⟨w.heap.size, 1, none⟩ = some (.int .i64 r.st) ∧ W.cell? ⟨w.heap.size, 2, none⟩ = some (.int .i64 r.en) ∧ W.cell? ⟨w.heap.size, 3, none⟩ = some (.int .i64 r.n) ∧ W.cell? ⟨w.heap.size, 4, none⟩ = some (.int .i64 r.su) ∧ W.cell? ⟨w.heap.size, 5, none⟩ = some (.int .i64 r.le) ∧ W.cell? ⟨w.heap.size, 6, none⟩ = some (.int .i64 r.mo) ∧ W.cell? ⟨w.heap.size + 1, 0, none⟩ = some (.int .i64 x.ky) ∧ W.cell? ⟨w.heap.size + 1, 1, none⟩ = some (.int .i64 x.st) ∧ W.cell? ⟨w.heap.size + 1, 2, none⟩ = some (.int .i64 x.en) ∧ W.cell? ⟨w.heap.size + 1, 3, none⟩ = some (.int .i64 x.n) ∧ W.cell? ⟨w.heap.size + 1, 4, none⟩ = some (.int .i64 x.su) ∧ W.cell? ⟨w.heap.size + 1, 5, none⟩ = some (.int .i64 x.le) ∧ W.cell? ⟨w.heap.size + 1, 6, none⟩ = some (.int .i64 x.mo)) ∧ w.heap.size < W.heap.size ∧ w.heap.size + 1 < W.heap.size)) ((first | ((repeat (first | (with_reducible assumption) | (with_reducible refine hd_7_7 ?_ (by with_reducible assumption)) | (with_reducible refine hd_7_7 ?_ (bel_drew (Below.refl _ _))) | (with_reducible exact hd_7_7_re (by with_reducible assumption) (sB) (sB)) | (with_reducible refine hd_7_7 ?_ (bel_one _ _)) | (with_reducible refine hd_7_7_set ?_ (sB) (sB) _))); done) | (refine ⟨⟨?_, ?_, ?_, ?_, ?_, ?_, ?_, ?_, ?_, ?_, ?_, ?_, ?_, ?_⟩, ?_, ?_⟩ <;> first | (go_keep; done) | (simp; done) | (simp; omega) | omega)))
    (first
    | (go_at_call 25; refine (rowplace_any _ _ _ _ _ _ _ _).mono ?_; rintro e w' ⟨rfl, hb⟩)
    | (go_at_call 35; refine (compare_any _ _ _ _ _ _ _).mono ?_; rintro e w' ⟨rfl, hb⟩))
  all_goals
    go_wp2
    go_ret
    exact ⟨rfl, (belA)⟩

/-- The place of the first row that a row stands ahead of, or -1. -/
def idxR (r : TbR) (xs : List TbR) : Int := match xs.findIdx? (aheadR r) with
  | some i => (i : Int)
  | none => -1

theorem idxR_hit {r : TbR} {xs : List TbR} {j : Nat} {x : TbR} (hx : xs[j]? = some x) (h0 : ∀ i, i < j → ∀ y, xs[i]? = some y → aheadR r y = false) (hb : aheadR r x = true) : idxR r xs = (j : Int) := by
  have hj := (List.getElem?_eq_some_iff.1 hx)
  have hj1 := hj.1
  have : xs.findIdx? (aheadR r) = some j := by
    rw [List.findIdx?_eq_some_iff_getElem]
    refine ⟨hj.1, by rw [hj.2]; exact hb, fun i hi => ?_⟩
    have := h0 i hi _ (List.getElem?_eq_getElem (by omega))
    simp [this]
  unfold idxR
  rw [this]

theorem idxR_none {r : TbR} {xs : List TbR} (h0 : ∀ i, i < xs.length → ∀ y, xs[i]? = some y → aheadR r y = false) : idxR r xs = -1 := by
  have : xs.findIdx? (aheadR r) = none := by
    rw [List.findIdx?_eq_none_iff]
    intro x hx
    obtain ⟨i, hi, rfl⟩ := List.getElem_of_mem hx
    exact h0 i hi _ (List.getElem?_eq_getElem hi)
  unfold idxR
  rw [this]

theorem idx_step {r : TbR} {xs : List TbR} {j : Nat} {x : TbR} (hx : xs[j]? = some x) (h0 : ∀ i, i < j → ∀ y, xs[i]? = some y → aheadR r y = false) (hb : aheadR r x = false) : ∀ i, i < j + 1 → ∀ y, xs[i]? = some y → aheadR r y = false := by
  intro i hi y hy
  by_cases e : i = j
  · subst e; rw [hx] at hy; cases hy; exact hb
  · exact h0 i (by omega) y hy

set_option maxRecDepth 20000 in
set_option maxHeartbeats 1000000 in
theorem idx_any (r : TbR) (a : Option Addr) (len cap : Nat) (xs : List TbR) (w : World) (h : TbRs w a len xs) (hl : len ≤ 1048576) : Calls Try.prog 28 #[.slice a len cap, .func (.func 29) #[.agg #[.int .i64 r.ky, .int .i64 r.st, .int .i64 r.en, .int .i64 r.n, .int .i64 r.su, .int .i64 r.le, .int .i64 r.mo]] #[]] w fun e w' => e = .returned (.int .i64 (idxR r xs)) ∧ Below w.heap.size w w' := by
  go_enter Try.func28, Try.ntmps28
  go_wp2
  go_loopw [8] (fun i wr => ∃ j : Nat, j ≤ len ∧ i = .int .i64 j ∧ Hid (∀ i, i < j → ∀ y, xs[i]? = some y → aheadR r y = false) ∧ Below w.heap.size w wr) (fun i _ => len - (intOf i).toNat)
  case atStart => exact ⟨0, Nat.zero_le _, rfl, hide (fun i hi => absurd hi (by omega)), Below.refl _ _⟩
  case round =>
    obtain ⟨j, hj, rfl, HN, hbw⟩ := hrel
    by_cases hlt : j < len
    · obtain ⟨hxl, _, hx⟩ := h
      obtain ⟨g, o, rfl, hr⟩ := hx.resolve_left (by omega)
      obtain ⟨x, hxk⟩ : ∃ x, xs[j]? = some x := ⟨_, List.getElem?_eq_getElem (by omega)⟩
      have hg : g < w.heap.size := hr.lt (by omega)
      have hX := hide hxk
      obtain ⟨d0, d1, d2, d3, d4, d5, d6⟩ := (hr j _ hxk).below hbw hg
      clear hx hxk hr
      cases hB : aheadR r x
      · have HN2 := hide (idx_step (unhide hX) (unhide HN) hB)
        go_wp2_with (go_at_call 29; refine (isahead_any r x _).mono ?_; rintro e w' ⟨rfl, hb⟩)
        go_roundw
        case rel => exact ⟨j + 1, by omega, by go_num, HN2, (belA)⟩
        case measure => simp [intOf]; omega
      · have HQ := hide (idxR_hit (unhide hX) (unhide HN) hB)
        go_wp2_with (go_at_call 29; refine (isahead_any r x _).mono ?_; rintro e w' ⟨rfl, hb⟩)
        go_ret
        exact ⟨ret_i (unhide HQ).symm, (belA)⟩
    · have HQ := hide (idxR_none (r := r) (xs := xs) (fun i hi => unhide HN i (by have := h.1; omega)))
      go_wp2
      go_ret
      exact ⟨ret_i (unhide HQ).symm, hbw⟩
end Go.Proofs.Ytblmhpngaccllaa
