/- Laid together: what the claim needs of the texts that were built one by one. -/
import Derived.Test.YtabphkmhafflbaaPkCkpO
import Derived.Test.YtabphkmhafflbaaPkJob
import Derived.Deep.Onto
import Derived.Test.YtabphkmhafflbaaPkBase
namespace Go.Proofs.Ytabphkmhafflbaa
open Go.ChangeShapes Go.WideShapes Go.ChangeAt Go.RowKit Go.Deep
set_option linter.unusedVariables false

theorem Try.infoInt1 : (Try.prog.info? 3).map (fun i => (i.zero, i.size, i.bytes)) = some (some (.int .i64 0), 1, 8) := by kernel_rfl

theorem Try.infoBoo1 : (Try.prog.info? 4).map (fun i => (i.zero, i.size, i.bytes)) = some (some (.bool false), 1, 1) := by kernel_rfl

theorem Try.infoSn1 : (Try.prog.info? 48).map (fun i => (i.zero, i.size, i.bytes)) = some (some (.agg #[.int .i64 0, .slice none 0 0, .slice none 0 0]), 3, 56) := by kernel_rfl

/-- Rows of two types do not share a block. -/
theorem own_ne {W : World} {B B' : Nat} {e e' : TypeId} {s s' n n' : Nat} {v v' : Value} {xs xs' : List Value} (h : W.ownsRow B e s v n xs) (h' : W.ownsRow B' e' s' v' n' xs') (he : e ≠ e') : v.ownBlock = none ∨ v.ownBlock ≠ v'.ownBlock := by
  rcases h with ⟨_, ⟨rfl, _⟩ | ⟨g, cap, cur, rfl, _, hb, _⟩⟩
  · exact Or.inl rfl
  · refine Or.inr fun hc => ?_
    rcases h' with ⟨_, ⟨rfl, _⟩ | ⟨g', cap', cur', rfl, _, hb', _⟩⟩
    · cases hc
    · have h1 : g = g' := Option.some.inj hc
      subst h1
      rw [hb] at hb'
      injection hb' with h2
      injection h2 with _ h3
      exact he h3

/-- A row stays where another, of another type, gets one more. -/
theorem own_step {W w1 : World} {o : Obj} {B B' : Nat} {e e' : TypeId} {s s' n n' : Nat} {v v' : Value} {xs xs' : List Value} (h : W.ownsRow B e s v n xs) (h' : W.ownsRow B' e' s' v' n' xs') (he : e ≠ e') (hg : (W.alloc o).grownBy w1 v'.ownBlock) : w1.ownsRow B e s v n xs := (h.alloc o).kept hg (own_ne h h' he)

theorem own_geV {W : World} {B : Nat} {e : TypeId} {s n : Nat} {v : Value} {xs : List Value} (h : W.ownsRow B e s v n xs) : ∀ q, v.ownBlock = some q → B ≤ q := fun q hq => (h.lt q hq).1

theorem cell_new1 (w : World) {g : Nat} (hg : g = w.heap.size) (u : Value) (ty : Nat) : ∀ j x, ([u] : List Value)[j]? = some x → (w.alloc (.cells #[u] ty)).cell? ((⟨g, 0, none⟩ : Addr).add j) = some x := by
  subst hg
  intro j x hx
  cases j with
  | zero => simp at hx; subst hx; simp [go_sem, Addr.add]
  | succ j => simp at hx

theorem cell_new3 (w : World) {g : Nat} (hg : g = w.heap.size) (u0 u1 u2 : Value) (ty : Nat) : ∀ j x, ([u0, u1, u2] : List Value)[j]? = some x → (w.alloc (.cells #[u0, u1, u2] ty)).cell? ((⟨g, 0, none⟩ : Addr).add j) = some x := by
  subst hg
  intro j x hx
  match j, hx with
  | 0, hx => simp at hx; subst hx; simp [go_sem, Addr.add]
  | 1, hx => simp at hx; subst hx; simp [go_sem, Addr.add]
  | 2, hx => simp at hx; subst hx; simp [go_sem, Addr.add]

theorem lit_at {W : World} {B e size g : Nat} (h : B ≤ W.heap.size) (hg : g = W.heap.size) : (W.alloc (.cells #[] e)).ownsRow B e size (.slice (some ⟨g, 0, none⟩) 0 0) 0 [] := by
  subst hg
  exact World.ownsRow_lit (base := B) (size := size) W #[] 0 h (by decide) (by simp)

def noSn : Int × SnV := (0, ⟨none, 0, 0, none, 0, 0⟩)

theorem rep_snoc {α : Type} (n : Nat) (a : α) : List.replicate (n + 1) a = List.replicate n a ++ [a] := List.replicate_succ'

/-- What has told nothing, in memory: three slices of the call's own. -/
def NobD (w : World) (s t : Nat) (e : Ending) (w' : World) : Prop := ∃ v1 v2 v3, e = .returned (.tuple #[v1, v2, v3]) ∧ w'.ownsRow w.heap.size 3 1 v1 s (List.replicate s (.int .i64 (-1))) ∧ w'.ownsRow w.heap.size 4 1 v2 t (List.replicate t (.bool false)) ∧ w'.ownsRow w.heap.size 48 3 v3 t (flatSV (List.replicate t noSn)) ∧ Below w.heap.size w w'

set_option maxRecDepth 20000 in
set_option maxHeartbeats 16000000 in
theorem nobody_any (s t : Nat) (k z p l e : Int) (b : Bool) (v r : Int) (hs : s ≤ 1000) (ht : t ≤ 1000) (w : World) : Calls Try.prog 19 #[.agg #[.int .i64 s, .int .i64 t, .int .i64 k, .int .i64 z, .int .i64 p, .int .i64 l, .int .i64 e, .bool b, .int .i64 v, .int .i64 r]] w fun e w' => NobD w s t e w' := by
  obtain ⟨i1, hi1, hz10, hz11, hz12⟩ := info_parts Try.infoInt1
  obtain ⟨i2, hi2, hz20, hz21, hz22⟩ := info_parts Try.infoBoo1
  obtain ⟨i3, hi3, hz30, hz31, hz32⟩ := info_parts Try.infoSn1
  go_enter Try.func19, Try.ntmps19
  go_wp2
  go_loopw [5, 8] (fun v1 iv wr => ∃ (j : Nat), iv = .int .i64 j ∧ j ≤ s ∧ wr.ownsRow (w.heap.size + 1) 3 1 v1 j (List.replicate j (.int .i64 (-1))) ∧ Hid (wr.ownsRow (w.heap.size + 1) 4 1 (.slice (some ⟨w.heap.size + 2, 0, none⟩) 0 0) 0 []) ∧ Hid (wr.ownsRow (w.heap.size + 1) 48 3 (.slice (some ⟨w.heap.size + 3, 0, none⟩) 0 0) 0 []) ∧ Below (w.heap.size + 1) (w.alloc (.cells #[.int .i64 s, .int .i64 t, .int .i64 k, .int .i64 z, .int .i64 p, .int .i64 l, .int .i64 e, .bool b, .int .i64 v, .int .i64 r] 24)) wr) (fun _ i _ => s - (intOf i).toNat)
  case atStart =>
    refine ⟨0, rfl, by omega, World.ownsRow.alloc (World.ownsRow.alloc (lit_at (by simp) (by simp)) _) _, hide (World.ownsRow.alloc (lit_at (by simp) (by simp)) _), hide (lit_at (by simp) (by simp)), ?_⟩
    exact ((((Below.refl _ _).alloc (by simp) _).alloc (by simp) _).alloc (by simp) _)
  case round =>
    obtain ⟨j, rfl, hj, hO1, HO2, HO3, hb⟩ := hrel
    have zwr : w.heap.size + 1 ≤ wr.heap.size := by have := hb.size; simpa using this
    have hge := hide (own_geV hO1)
    have c0 : wr.cell? ⟨w.heap.size, 0, none⟩ = some (.int .i64 s) := (hb.cell (p := ⟨w.heap.size, 0, none⟩) (by simp)).trans (by simp [go_sem])
    have c1 : wr.cell? ⟨w.heap.size, 1, none⟩ = some (.int .i64 t) := (hb.cell (p := ⟨w.heap.size, 1, none⟩) (by simp)).trans (by simp [go_sem])
    have HO1 := hide hO1
    clear hO1
    by_cases hlt : (j : Int) < (s : Int)
    · go_wp2_with (first | (at_builtin; go_loud (refine wpList_append_own _ rfl _ _ 26 rfl (w.heap.size + 1) 3 i1 _ 1 8 Try.underlying26 hi1 hz10 hz11 hz12 rfl (by decide) u5 _ _ rfl (World.ownsRow.alloc (unhide HO1) _) ⟨wr.heap.size, 0, none⟩ 1 1 [.int .i64 (-1)] rfl rfl (cell_new1 _ rfl _ _) (by simp [Value.oneCell']) (by unfold maxLen; omega) (by omega) (by simp; omega) ?_); intro v' w1 hown' hgrow _))
      have hb1 := (hb.alloc (by omega) _).grown hgrow (by simp; omega) (unhide hge)
      have hA1 := World.ownsRow.alloc (unhide HO1) (.cells #[.int .i64 (-1)] 3)
      have hA2 := World.ownsRow.alloc (unhide HO2) (.cells #[.int .i64 (-1)] 3)
      have hA3 := World.ownsRow.alloc (unhide HO3) (.cells #[.int .i64 (-1)] 3)
      have hB2 := hide (hA2.kept hgrow (own_ne hA2 hA1 (by decide)))
      have hB3 := hide (hA3.kept hgrow (own_ne hA3 hA1 (by decide)))
      rw [← rep_snoc] at hown'
      clear hA1 hA2 hA3
      refine ⟨⟨j + 1, by simp, by omega, hown', hB2, hB3, hb1⟩, ?_⟩
      simp [intOf]; omega
    · have hjs : j = s := by omega
      subst hjs
      go_wp2
      go_loopw [6, 7, 9] (fun v2 v3 iv wq => ∃ (i : Nat), iv = .int .i64 i ∧ i ≤ t ∧ Hid (wq.ownsRow (w.heap.size + 1) 3 1 u5 j (List.replicate j (.int .i64 (-1)))) ∧ wq.ownsRow (w.heap.size + 1) 4 1 v2 i (List.replicate i (.bool false)) ∧ wq.ownsRow (w.heap.size + 1) 48 3 v3 i (flatSV (List.replicate i noSn)) ∧ Below (w.heap.size + 1) (w.alloc (.cells #[.int .i64 j, .int .i64 t, .int .i64 k, .int .i64 z, .int .i64 p, .int .i64 l, .int .i64 e, .bool b, .int .i64 v, .int .i64 r] 24)) wq) (fun _ _ i _ => t - (intOf i).toNat)
      case atStart => exact ⟨0, rfl, by omega, HO1, unhide HO2, unhide HO3, hb⟩
      case round =>
        clear HO1 HO2 HO3 hb c0 c1 zwr hge
        obtain ⟨i, rfl, hi, HO1, hO2, hO3, hb⟩ := hrel
        have zwq : w.heap.size + 1 ≤ wr.heap.size := by have := hb.size; simpa using this
        have hge2 := hide (own_geV hO2)
        have hge3 := hide (own_geV hO3)
        have c1 : wr.cell? ⟨w.heap.size, 1, none⟩ = some (.int .i64 t) := (hb.cell (p := ⟨w.heap.size, 1, none⟩) (by simp)).trans (by simp [go_sem])
        have HO2 := hide hO2
        have HO3 := hide hO3
        clear hO2 hO3
        by_cases hlt : (i : Int) < (t : Int)
        · go_wp2_with (first | (at_builtin; go_loud (refine wpList_append_own _ rfl _ _ 27 rfl (w.heap.size + 1) 4 i2 _ 1 1 Try.underlying27 hi2 hz20 hz21 hz22 rfl (by decide) u6 _ _ rfl (World.ownsRow.alloc (unhide HO2) _) ⟨wr.heap.size, 0, none⟩ 1 1 [.bool false] rfl rfl (cell_new1 _ rfl _ _) (by simp [Value.oneCell']) (by unfold maxLen; omega) (by omega) (by simp; omega) ?_); intro v' w1 hown' hgrow _) | (at_builtin; go_loud (refine wpList_append_own _ rfl _ _ 28 rfl (w.heap.size + 1) 48 i3 _ 3 56 Try.underlying28 hi3 hz30 hz31 hz32 rfl (by decide) u7 _ _ rfl (World.ownsRow.alloc (own_step (unhide HO3) (unhide HO2) (by decide) hgrow) _) ⟨w1.heap.size, 0, none⟩ 1 1 [.int .i64 0, .slice none 0 0, .slice none 0 0] rfl rfl (cell_new3 _ rfl _ _ _ _) (by simp [Value.oneCell']) (by unfold maxLen; omega) (by omega) (by have h9 := ((hb.alloc zwq _).grown hgrow (by simp; omega) (unhide hge2)).size; simp at h9 ⊢; omega) ?_); intro v3' w3 hown3 hgrow3 _))
          have hb1 := (hb.alloc zwq _).grown hgrow (by simp; omega) (unhide hge2)
          have zw1 : w.heap.size + 1 ≤ w1.heap.size := by have := hb1.size; simpa using this
          have HB2 := hide hown'
          have HB3 := hide (own_step (unhide HO3) (unhide HO2) (by decide) hgrow)
          have HB1 := hide (own_step (unhide HO1) (unhide HO2) (by decide) hgrow)
          have hb3 := (hb1.alloc (by omega) _).grown hgrow3 (by simp; omega) (unhide hge3)
          have k1 := own_step (unhide HB1) (unhide HB3) (by decide) hgrow3
          have k2 := own_step (unhide HB2) (unhide HB3) (by decide) hgrow3
          rw [← rep_snoc] at k2
          have k3 : w3.ownsRow (w.heap.size + 1) 48 3 v3' (i + 1) (flatSV (List.replicate (i + 1) noSn)) := by
            rw [rep_snoc, flatSV_snoc]
            exact hown3
          refine ⟨⟨i + 1, by simp, by omega, hide k1, k2, k3, hb3⟩, ?_⟩
          simp [intOf]; omega
        · have hit : i = t := by omega
          subst hit
          go_wp2
          refine bodyPost_ret (v := .tuple #[u5, u6, u7]) (by simp (maxDischargeDepth := 9) [results, Try.results19, go_sem]) rfl ⟨_, _, _, rfl, (unhide HO1).mono (by omega), (unhide HO2).mono (by omega), (unhide HO3).mono (by omega), ?_⟩
          exact ((Below.refl _ w).alloc (Nat.le_refl _) _).trans (hb.mono (by omega))
end Go.Proofs.Ytabphkmhafflbaa
