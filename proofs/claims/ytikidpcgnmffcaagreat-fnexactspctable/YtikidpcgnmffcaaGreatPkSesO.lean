/- Laid together: what the claim needs of the texts that were built one by one. -/
import Derived.Test.YtikidpcgnmffcaaGreatPkSesI
import Derived.Test.YtikidpcgnmffcaaGreatPkWinsI
import Derived.Test.YtikidpcgnmffcaaGreatPkBase
namespace Go.Proofs.YtikidpcgnmffcaaGreat
open Go.ChangeShapes Go.WideShapes Go.ChangeAt Go.RowKit Go.Shelf
set_option linter.unusedVariables false
set_option linter.unusedSimpArgs false
attribute [local go_sem] Oper.semAt_some

def actSo (w : World) (gf : Nat) (lb : Array Value) (x : LpB) (q : Nat) : Act := { tmps := #[(.func (.func gf) #[] lb), undef, .slice none 0 0, .pointer (some ⟨w.heap.size, 0, none⟩), .pointer (some ⟨q, 0, none⟩), (.func (.func gf) #[] lb), .agg #[.int .i64 x.1.kd, .int .i64 x.1.tm, .int .i64 x.1.ke, .int .i64 x.1.va, .int .i64 x.1.nn, .int .i64 x.1.st, .int .i64 x.1.en], undef, undef, undef, undef, undef, undef, undef, undef, undef, undef, undef, undef, undef, undef], defers := [] }

/-- What stands between two rounds. -/
def SoI (w : World) (pre : List LpB) (W : World) : Prop := ∃ v, Boxed W w.heap.size 71 v ∧ OwnTb W w.heap.size v (tabP 3 (pre.map (·.1))) ∧ pre.length ≤ 10000 ∧ Below w.heap.size w W

theorem soI_own (w : World) (B : Nat) (hB : w.heap.size < B) : OwnFrom B (SoI w) := fun s W W' row h hg hr => by
  obtain ⟨v, h1, h2, h3, h4⟩ := h
  have hne : ∀ k, k < B → some k ≠ row := fun k hk e => by have := (hr k e.symm).1; omega
  refine ⟨v, h1.kept hg (hne _ hB), World.ownsRow.kept h2 hg ?_, h3, h4.grown hg h4.size (fun k e => by have := (hr k e).1; omega)⟩
  rcases h2.2 with ⟨rfl, _⟩ | ⟨g, cap, cur, rfl, _, hgb, _⟩
  · exact .inl rfl
  · refine .inr (fun e9 => ?_)
    obtain ⟨_, o, ho, hc⟩ := hr g (by simpa [Value.ownBlock] using e9.symm)
    rw [hgb] at ho
    cases ho
    cases hc

set_option maxRecDepth 100000 in
set_option maxHeartbeats 8000000 in
theorem sessionsof_any (gf : Nat) (lb : Array Value) (eg : ∀ args w, (callFunc gf args).run Tryz.prog w = .ok (.enter gf args) w) (PR : List LpB) (hPl : PR.length ≤ 10000) (w : World)
    (hseq : SeqStopsK Fence.wide 29 Tryz.prog gf lb (fun x : LpB => #[.agg #[.int .i64 x.1.kd, .int .i64 x.1.tm, .int .i64 x.1.ke, .int .i64 x.1.va, .int .i64 x.1.nn, .int .i64 x.1.st, .int .i64 x.1.en]]) (KpW w.heap.size) (fun ys => ys = PR) (fun _ => True) 10000 w) :
    Calls Tryz.prog 20 #[(.func (.func gf) #[] lb)] w fun e' w' => ∃ v', e' = .returned v' ∧ OwnTb w' w.heap.size v' (tabP 3 (PR.map (·.1))) ∧ Below w.heap.size w w' := by
  refine (callsIn_wide (n := 30)).1 ?_
  refine callsIn_of_wp_marks Tryz.func20 rfl trivial ?_ rfl
  simp only [Tryz.ntmps20, List.size_toArray, List.length_cons, List.length_nil, Nat.reduceAdd, Nat.reduceSub, Array.replicate_succ, Array.replicate_zero, List.push_toArray, List.append_toArray, List.nil_append, List.cons_append]
  have hB0 : Below w.heap.size w (w.alloc (.cells #[.slice none 0 0] 71)) := bel_one _ _
  have hI0 : SoI w [] (w.alloc (.cells #[.slice none 0 0] 71)) := ⟨_, Boxed.new w 71 (.slice none 0 0), World.ownsRow_nil _ _ _ _, Nat.zero_le _, hB0⟩
  gi_wp2
  refine wpIn_rangeFunc_ownH rfl (by omega) (gf := gf) (lb := lb) rfl trivial eg hseq KpW.trans (KpW.put (by simp)) hB0 (fun _ => rfl)
    (SoI w) (fun _ _ _ => False) (soI_own w _ (by simp)) (fun _ _ _ _ _ hs _ _ => hs) hI0
    (fun x a' W => ∃ q, a' = actSo w gf lb x q ∧ BxL W q x.1)
    (fun x a' _ W W' row hs hg hr => by
      obtain ⟨q, e1, hq⟩ := hs
      refine ⟨q, e1, (hg.block q (Array.getElem?_eq_some_iff.1 hq).1 (fun e9 => ?_)).trans hq⟩
      obtain ⟨_, o, ho, hc⟩ := hr q e9.symm
      rw [hq] at ho
      cases ho
      cases hc) ?assign ?body ?done ?stop
  case assign =>
    rintro lb0 pre x W K ⟨rv, hv, hrow, hpN, hB⟩ hK
    have HK := hK (actSo w gf lb x W.heap.size) (W.alloc (.cells #[.int .i64 x.1.kd, .int .i64 x.1.tm, .int .i64 x.1.ke, .int .i64 x.1.va, .int .i64 x.1.nn, .int .i64 x.1.st, .int .i64 x.1.en] 44)) ((KeepsOthers.of_grownBy (grown_of (bel_one W _)) (fun _ _ e => by cases e)).from _) (KpW.of_bel (bel_one _ _) hB.size) ⟨rv, hv.alloc _, World.ownsRow.alloc hrow _, hpN, bel_alloc hB _⟩ ⟨_, rfl, BxL.new W x.1⟩
    clear hK
    unfold actSo at HK
    gi_wp2
    exact HK
  case body =>
    rintro lb0 pre x a' W hlb _ ⟨rv, hv, hrow, hpN, hB⟩ ⟨q, rfl, hq⟩ hpl
    obtain ⟨RS, hRS⟩ : ∃ RS, tabP 3 (pre.map (·.1)) = RS := ⟨_, rfl⟩
    rw [hRS] at hrow
    have hRl : RS.length ≤ 10000 := by rw [← hRS]; refine Nat.le_trans (tabP_len _ _) ?_; simpa using hpN
    obtain ⟨ar, cr, rfl, hT, _, _⟩ := holdTb hrow (by omega)
    obtain ⟨x0, x1, x2, x3, x4, x5, x6⟩ := hq.cells
    have hlq : q < W.drew.heap.size := (Array.getElem?_eq_some_iff.1 hq).1
    obtain ⟨na, nb, nc, nd, hy9⟩ : ∃ na nb nc nd, addF ag0 x.1.va = (na, nb, nc, nd) := ⟨_, _, _, _, rfl⟩
    have HY : Hid (addF (0, 0, 0, 0) x.1.va = (na, nb, nc, nd)) := hide hy9
    have HST : Hid (stepP 3 RS x.1 = (sesPut x.1.ke x.1.st x.1.en (na, nb, nc, nd) RS)) := hide (by unfold stepP; rw [if_pos rfl, hy9])
    have HRS := hide hRS
    have HT := hide hT
    have zBx : w.heap.size < W.drew.heap.size := hv.lt
    have cBx : W.drew.cell? ⟨w.heap.size, 0, none⟩ = some (.slice ar RS.length cr) := hv.cell
    have HBx := hide hv
    clear hRS hT hrow hv hy9 x0 x1 x4 hseq hI0 hB0
    unfold actSo
    gi_wp2
    refine wpIn_region_last (by kernel_rfl) (by kernel_rfl) (by kernel_rfl) (fun L a' W' => ∃ V : Nat → Value, a' = ({ tmps := #[(.func (.func gf) #[] lb), undef, .slice none 0 0, .pointer (some ⟨w.heap.size, 0, none⟩), .pointer (some ⟨q, 0, none⟩), (.func (.func gf) #[] lb), .agg #[.int .i64 x.1.kd, .int .i64 x.1.tm, .int .i64 x.1.ke, .int .i64 x.1.va, .int .i64 x.1.nn, .int .i64 x.1.st, .int .i64 x.1.en], V 0, V 1, V 2, V 3, V 4, V 5, V 6, V 7, V 8, V 9, V 10, V 11, V 12, undef], defers := [] } : Act) ∧ ((L 0 = true → V 0 = .slice ar RS.length cr) ∧ (L 1 = true → V 1 = .pointer (some ⟨q, 0, none⟩)) ∧ (L 2 = true → V 2 = .pointer (some ⟨q, 2, none⟩)) ∧ (L 3 = true → V 3 = .int .i64 x.1.ke) ∧ (L 4 = true → V 4 = .pointer (some ⟨q, 5, none⟩)) ∧ (L 5 = true → V 5 = .agg #[.int .i64 x.1.st, .int .i64 x.1.en]) ∧ (L 6 = true → V 6 = .agg #[.int .i64 0, .int .i64 0, .int .i64 0, .int .i64 0]) ∧ (L 7 = true → V 7 = .pointer (some ⟨q, 0, none⟩)) ∧ (L 8 = true → V 8 = .pointer (some ⟨q, 3, none⟩)) ∧ (L 9 = true → V 9 = .int .i64 x.1.va) ∧ (L 10 = true → V 10 = .agg #[.int .i64 na, .int .i64 nb, .int .i64 nc, .int .i64 nd]) ∧ (L 11 = true → V 11 = .agg #[.int .i64 x.1.ke, .int .i64 x.1.st, .int .i64 x.1.en, .int .i64 na, .int .i64 nb, .int .i64 nc, .int .i64 nd])) ∧ (L 12 = true → OwnTb W' w.heap.size (V 12) (sesPut x.1.ke x.1.st x.1.en (na, nb, nc, nd) RS)) ∧ Below W.drew.heap.size W.drew W') ?_ ?_
    · exact ⟨fun _ => undef, rfl, ⟨(fun h9 => (by cases h9)), (fun h9 => (by cases h9)), (fun h9 => (by cases h9)), (fun h9 => (by cases h9)), (fun h9 => (by cases h9)), (fun h9 => (by cases h9)), (fun h9 => (by cases h9)), (fun h9 => (by cases h9)), (fun h9 => (by cases h9)), (fun h9 => (by cases h9)), (fun h9 => (by cases h9)), (fun h9 => (by cases h9))⟩, (fun h9 => (by cases h9)), Below.refl _ _⟩
    refine ⟨?_, ?_, ?_, ?_, ?_, ?_, ?_, ?_, ?_, ?_, ?_, ?_, ?_, ?_⟩
    · intro L a' W' hI hLj hE K' hK
      obtain ⟨V, rfl, ⟨hv0, hv1, hv2, hv3, hv4, hv5, hv6, hv7, hv8, hv9, hv10, hv11⟩, hw12, hbW⟩ := hI
      have k0 : W'.cell? ⟨w.heap.size, 0, none⟩ = some (.slice ar RS.length cr) := (hbW.cell (p := ⟨w.heap.size, 0, none⟩) zBx).trans cBx
      have k2 : W'.cell? ⟨q, 2, none⟩ = some (.int .i64 x.1.ke) := (hbW.cell (p := ⟨q, 2, none⟩) hlq).trans x2
      have k3 : W'.cell? ⟨q, 3, none⟩ = some (.int .i64 x.1.va) := (hbW.cell (p := ⟨q, 3, none⟩) hlq).trans x3
      have k5 : W'.cell? ⟨q, 5, none⟩ = some (.int .i64 x.1.st) := (hbW.cell (p := ⟨q, 5, none⟩) hlq).trans x5
      have k6 : W'.cell? ⟨q, 6, none⟩ = some (.int .i64 x.1.en) := (hbW.cell (p := ⟨q, 6, none⟩) hlq).trans x6
      go_simp
      refine hK.out _ _ ⟨fun m => if m = 0 then .slice ar RS.length cr else V m, rfl, ⟨fun _ => rfl, fun h9 => hv1 (by simpa [more] using h9), fun h9 => hv2 (by simpa [more] using h9), fun h9 => hv3 (by simpa [more] using h9), fun h9 => hv4 (by simpa [more] using h9), fun h9 => hv5 (by simpa [more] using h9), fun h9 => hv6 (by simpa [more] using h9), fun h9 => hv7 (by simpa [more] using h9), fun h9 => hv8 (by simpa [more] using h9), fun h9 => hv9 (by simpa [more] using h9), fun h9 => hv10 (by simpa [more] using h9), fun h9 => hv11 (by simpa [more] using h9)⟩, fun h9 => hw12 (by simpa [more] using h9), hbW⟩
    · intro L a' W' hI hLj hE K' hK
      obtain ⟨V, rfl, ⟨hv0, hv1, hv2, hv3, hv4, hv5, hv6, hv7, hv8, hv9, hv10, hv11⟩, hw12, hbW⟩ := hI
      have k0 : W'.cell? ⟨w.heap.size, 0, none⟩ = some (.slice ar RS.length cr) := (hbW.cell (p := ⟨w.heap.size, 0, none⟩) zBx).trans cBx
      have k2 : W'.cell? ⟨q, 2, none⟩ = some (.int .i64 x.1.ke) := (hbW.cell (p := ⟨q, 2, none⟩) hlq).trans x2
      have k3 : W'.cell? ⟨q, 3, none⟩ = some (.int .i64 x.1.va) := (hbW.cell (p := ⟨q, 3, none⟩) hlq).trans x3
      have k5 : W'.cell? ⟨q, 5, none⟩ = some (.int .i64 x.1.st) := (hbW.cell (p := ⟨q, 5, none⟩) hlq).trans x5
      have k6 : W'.cell? ⟨q, 6, none⟩ = some (.int .i64 x.1.en) := (hbW.cell (p := ⟨q, 6, none⟩) hlq).trans x6
      go_simp
      refine hK.out _ _ ⟨fun m => if m = 1 then .pointer (some ⟨q, 0, none⟩) else V m, rfl, ⟨fun h9 => hv0 (by simpa [more] using h9), fun _ => rfl, fun h9 => hv2 (by simpa [more] using h9), fun h9 => hv3 (by simpa [more] using h9), fun h9 => hv4 (by simpa [more] using h9), fun h9 => hv5 (by simpa [more] using h9), fun h9 => hv6 (by simpa [more] using h9), fun h9 => hv7 (by simpa [more] using h9), fun h9 => hv8 (by simpa [more] using h9), fun h9 => hv9 (by simpa [more] using h9), fun h9 => hv10 (by simpa [more] using h9), fun h9 => hv11 (by simpa [more] using h9)⟩, fun h9 => hw12 (by simpa [more] using h9), hbW⟩
    · intro L a' W' hI hLj hE K' hK
      obtain ⟨V, rfl, ⟨hv0, hv1, hv2, hv3, hv4, hv5, hv6, hv7, hv8, hv9, hv10, hv11⟩, hw12, hbW⟩ := hI
      have ev1 := hv1 (hE ⟨1, .data⟩ (by simp) rfl)
      have k0 : W'.cell? ⟨w.heap.size, 0, none⟩ = some (.slice ar RS.length cr) := (hbW.cell (p := ⟨w.heap.size, 0, none⟩) zBx).trans cBx
      have k2 : W'.cell? ⟨q, 2, none⟩ = some (.int .i64 x.1.ke) := (hbW.cell (p := ⟨q, 2, none⟩) hlq).trans x2
      have k3 : W'.cell? ⟨q, 3, none⟩ = some (.int .i64 x.1.va) := (hbW.cell (p := ⟨q, 3, none⟩) hlq).trans x3
      have k5 : W'.cell? ⟨q, 5, none⟩ = some (.int .i64 x.1.st) := (hbW.cell (p := ⟨q, 5, none⟩) hlq).trans x5
      have k6 : W'.cell? ⟨q, 6, none⟩ = some (.int .i64 x.1.en) := (hbW.cell (p := ⟨q, 6, none⟩) hlq).trans x6
      rw [ev1]
      go_simp
      refine hK.out _ _ ⟨fun m => if m = 2 then .pointer (some ⟨q, 2, none⟩) else V m, (by simp [ev1]), ⟨fun h9 => hv0 (by simpa [more] using h9), fun h9 => hv1 (by simpa [more] using h9), fun _ => rfl, fun h9 => hv3 (by simpa [more] using h9), fun h9 => hv4 (by simpa [more] using h9), fun h9 => hv5 (by simpa [more] using h9), fun h9 => hv6 (by simpa [more] using h9), fun h9 => hv7 (by simpa [more] using h9), fun h9 => hv8 (by simpa [more] using h9), fun h9 => hv9 (by simpa [more] using h9), fun h9 => hv10 (by simpa [more] using h9), fun h9 => hv11 (by simpa [more] using h9)⟩, fun h9 => hw12 (by simpa [more] using h9), hbW⟩
    · intro L a' W' hI hLj hE K' hK
      obtain ⟨V, rfl, ⟨hv0, hv1, hv2, hv3, hv4, hv5, hv6, hv7, hv8, hv9, hv10, hv11⟩, hw12, hbW⟩ := hI
      have ev2 := hv2 (hE ⟨2, .data⟩ (by simp) rfl)
      have k0 : W'.cell? ⟨w.heap.size, 0, none⟩ = some (.slice ar RS.length cr) := (hbW.cell (p := ⟨w.heap.size, 0, none⟩) zBx).trans cBx
      have k2 : W'.cell? ⟨q, 2, none⟩ = some (.int .i64 x.1.ke) := (hbW.cell (p := ⟨q, 2, none⟩) hlq).trans x2
      have k3 : W'.cell? ⟨q, 3, none⟩ = some (.int .i64 x.1.va) := (hbW.cell (p := ⟨q, 3, none⟩) hlq).trans x3
      have k5 : W'.cell? ⟨q, 5, none⟩ = some (.int .i64 x.1.st) := (hbW.cell (p := ⟨q, 5, none⟩) hlq).trans x5
      have k6 : W'.cell? ⟨q, 6, none⟩ = some (.int .i64 x.1.en) := (hbW.cell (p := ⟨q, 6, none⟩) hlq).trans x6
      rw [ev2]
      go_simp
      refine hK.out _ _ ⟨fun m => if m = 3 then .int .i64 x.1.ke else V m, (by simp [ev2]), ⟨fun h9 => hv0 (by simpa [more] using h9), fun h9 => hv1 (by simpa [more] using h9), fun h9 => hv2 (by simpa [more] using h9), fun _ => rfl, fun h9 => hv4 (by simpa [more] using h9), fun h9 => hv5 (by simpa [more] using h9), fun h9 => hv6 (by simpa [more] using h9), fun h9 => hv7 (by simpa [more] using h9), fun h9 => hv8 (by simpa [more] using h9), fun h9 => hv9 (by simpa [more] using h9), fun h9 => hv10 (by simpa [more] using h9), fun h9 => hv11 (by simpa [more] using h9)⟩, fun h9 => hw12 (by simpa [more] using h9), hbW⟩
    · intro L a' W' hI hLj hE K' hK
      obtain ⟨V, rfl, ⟨hv0, hv1, hv2, hv3, hv4, hv5, hv6, hv7, hv8, hv9, hv10, hv11⟩, hw12, hbW⟩ := hI
      have k0 : W'.cell? ⟨w.heap.size, 0, none⟩ = some (.slice ar RS.length cr) := (hbW.cell (p := ⟨w.heap.size, 0, none⟩) zBx).trans cBx
      have k2 : W'.cell? ⟨q, 2, none⟩ = some (.int .i64 x.1.ke) := (hbW.cell (p := ⟨q, 2, none⟩) hlq).trans x2
      have k3 : W'.cell? ⟨q, 3, none⟩ = some (.int .i64 x.1.va) := (hbW.cell (p := ⟨q, 3, none⟩) hlq).trans x3
      have k5 : W'.cell? ⟨q, 5, none⟩ = some (.int .i64 x.1.st) := (hbW.cell (p := ⟨q, 5, none⟩) hlq).trans x5
      have k6 : W'.cell? ⟨q, 6, none⟩ = some (.int .i64 x.1.en) := (hbW.cell (p := ⟨q, 6, none⟩) hlq).trans x6
      go_simp
      refine hK.out _ _ ⟨fun m => if m = 4 then .pointer (some ⟨q, 5, none⟩) else V m, rfl, ⟨fun h9 => hv0 (by simpa [more] using h9), fun h9 => hv1 (by simpa [more] using h9), fun h9 => hv2 (by simpa [more] using h9), fun h9 => hv3 (by simpa [more] using h9), fun _ => rfl, fun h9 => hv5 (by simpa [more] using h9), fun h9 => hv6 (by simpa [more] using h9), fun h9 => hv7 (by simpa [more] using h9), fun h9 => hv8 (by simpa [more] using h9), fun h9 => hv9 (by simpa [more] using h9), fun h9 => hv10 (by simpa [more] using h9), fun h9 => hv11 (by simpa [more] using h9)⟩, fun h9 => hw12 (by simpa [more] using h9), hbW⟩
    · intro L a' W' hI hLj hE K' hK
      obtain ⟨V, rfl, ⟨hv0, hv1, hv2, hv3, hv4, hv5, hv6, hv7, hv8, hv9, hv10, hv11⟩, hw12, hbW⟩ := hI
      have ev4 := hv4 (hE ⟨4, .data⟩ (by simp) rfl)
      have k0 : W'.cell? ⟨w.heap.size, 0, none⟩ = some (.slice ar RS.length cr) := (hbW.cell (p := ⟨w.heap.size, 0, none⟩) zBx).trans cBx
      have k2 : W'.cell? ⟨q, 2, none⟩ = some (.int .i64 x.1.ke) := (hbW.cell (p := ⟨q, 2, none⟩) hlq).trans x2
      have k3 : W'.cell? ⟨q, 3, none⟩ = some (.int .i64 x.1.va) := (hbW.cell (p := ⟨q, 3, none⟩) hlq).trans x3
      have k5 : W'.cell? ⟨q, 5, none⟩ = some (.int .i64 x.1.st) := (hbW.cell (p := ⟨q, 5, none⟩) hlq).trans x5
      have k6 : W'.cell? ⟨q, 6, none⟩ = some (.int .i64 x.1.en) := (hbW.cell (p := ⟨q, 6, none⟩) hlq).trans x6
      rw [ev4]
      go_simp
      refine hK.out _ _ ⟨fun m => if m = 5 then .agg #[.int .i64 x.1.st, .int .i64 x.1.en] else V m, (by simp [ev4]), ⟨fun h9 => hv0 (by simpa [more] using h9), fun h9 => hv1 (by simpa [more] using h9), fun h9 => hv2 (by simpa [more] using h9), fun h9 => hv3 (by simpa [more] using h9), fun h9 => hv4 (by simpa [more] using h9), fun _ => rfl, fun h9 => hv6 (by simpa [more] using h9), fun h9 => hv7 (by simpa [more] using h9), fun h9 => hv8 (by simpa [more] using h9), fun h9 => hv9 (by simpa [more] using h9), fun h9 => hv10 (by simpa [more] using h9), fun h9 => hv11 (by simpa [more] using h9)⟩, fun h9 => hw12 (by simpa [more] using h9), hbW⟩
    · intro L a' W' hI hLj hE K' hK
      obtain ⟨V, rfl, ⟨hv0, hv1, hv2, hv3, hv4, hv5, hv6, hv7, hv8, hv9, hv10, hv11⟩, hw12, hbW⟩ := hI
      have k0 : W'.cell? ⟨w.heap.size, 0, none⟩ = some (.slice ar RS.length cr) := (hbW.cell (p := ⟨w.heap.size, 0, none⟩) zBx).trans cBx
      have k2 : W'.cell? ⟨q, 2, none⟩ = some (.int .i64 x.1.ke) := (hbW.cell (p := ⟨q, 2, none⟩) hlq).trans x2
      have k3 : W'.cell? ⟨q, 3, none⟩ = some (.int .i64 x.1.va) := (hbW.cell (p := ⟨q, 3, none⟩) hlq).trans x3
      have k5 : W'.cell? ⟨q, 5, none⟩ = some (.int .i64 x.1.st) := (hbW.cell (p := ⟨q, 5, none⟩) hlq).trans x5
      have k6 : W'.cell? ⟨q, 6, none⟩ = some (.int .i64 x.1.en) := (hbW.cell (p := ⟨q, 6, none⟩) hlq).trans x6
      go_simp
      refine hK.out _ _ ⟨fun m => if m = 6 then .agg #[.int .i64 0, .int .i64 0, .int .i64 0, .int .i64 0] else V m, rfl, ⟨fun h9 => hv0 (by simpa [more] using h9), fun h9 => hv1 (by simpa [more] using h9), fun h9 => hv2 (by simpa [more] using h9), fun h9 => hv3 (by simpa [more] using h9), fun h9 => hv4 (by simpa [more] using h9), fun h9 => hv5 (by simpa [more] using h9), fun _ => rfl, fun h9 => hv7 (by simpa [more] using h9), fun h9 => hv8 (by simpa [more] using h9), fun h9 => hv9 (by simpa [more] using h9), fun h9 => hv10 (by simpa [more] using h9), fun h9 => hv11 (by simpa [more] using h9)⟩, fun h9 => hw12 (by simpa [more] using h9), hbW⟩
    · intro L a' W' hI hLj hE K' hK
      obtain ⟨V, rfl, ⟨hv0, hv1, hv2, hv3, hv4, hv5, hv6, hv7, hv8, hv9, hv10, hv11⟩, hw12, hbW⟩ := hI
      have k0 : W'.cell? ⟨w.heap.size, 0, none⟩ = some (.slice ar RS.length cr) := (hbW.cell (p := ⟨w.heap.size, 0, none⟩) zBx).trans cBx
      have k2 : W'.cell? ⟨q, 2, none⟩ = some (.int .i64 x.1.ke) := (hbW.cell (p := ⟨q, 2, none⟩) hlq).trans x2
      have k3 : W'.cell? ⟨q, 3, none⟩ = some (.int .i64 x.1.va) := (hbW.cell (p := ⟨q, 3, none⟩) hlq).trans x3
      have k5 : W'.cell? ⟨q, 5, none⟩ = some (.int .i64 x.1.st) := (hbW.cell (p := ⟨q, 5, none⟩) hlq).trans x5
      have k6 : W'.cell? ⟨q, 6, none⟩ = some (.int .i64 x.1.en) := (hbW.cell (p := ⟨q, 6, none⟩) hlq).trans x6
      go_simp
      refine hK.out _ _ ⟨fun m => if m = 7 then .pointer (some ⟨q, 0, none⟩) else V m, rfl, ⟨fun h9 => hv0 (by simpa [more] using h9), fun h9 => hv1 (by simpa [more] using h9), fun h9 => hv2 (by simpa [more] using h9), fun h9 => hv3 (by simpa [more] using h9), fun h9 => hv4 (by simpa [more] using h9), fun h9 => hv5 (by simpa [more] using h9), fun h9 => hv6 (by simpa [more] using h9), fun _ => rfl, fun h9 => hv8 (by simpa [more] using h9), fun h9 => hv9 (by simpa [more] using h9), fun h9 => hv10 (by simpa [more] using h9), fun h9 => hv11 (by simpa [more] using h9)⟩, fun h9 => hw12 (by simpa [more] using h9), hbW⟩
    · intro L a' W' hI hLj hE K' hK
      obtain ⟨V, rfl, ⟨hv0, hv1, hv2, hv3, hv4, hv5, hv6, hv7, hv8, hv9, hv10, hv11⟩, hw12, hbW⟩ := hI
      have ev7 := hv7 (hE ⟨7, .data⟩ (by simp) rfl)
      have k0 : W'.cell? ⟨w.heap.size, 0, none⟩ = some (.slice ar RS.length cr) := (hbW.cell (p := ⟨w.heap.size, 0, none⟩) zBx).trans cBx
      have k2 : W'.cell? ⟨q, 2, none⟩ = some (.int .i64 x.1.ke) := (hbW.cell (p := ⟨q, 2, none⟩) hlq).trans x2
      have k3 : W'.cell? ⟨q, 3, none⟩ = some (.int .i64 x.1.va) := (hbW.cell (p := ⟨q, 3, none⟩) hlq).trans x3
      have k5 : W'.cell? ⟨q, 5, none⟩ = some (.int .i64 x.1.st) := (hbW.cell (p := ⟨q, 5, none⟩) hlq).trans x5
      have k6 : W'.cell? ⟨q, 6, none⟩ = some (.int .i64 x.1.en) := (hbW.cell (p := ⟨q, 6, none⟩) hlq).trans x6
      rw [ev7]
      go_simp
      refine hK.out _ _ ⟨fun m => if m = 8 then .pointer (some ⟨q, 3, none⟩) else V m, (by simp [ev7]), ⟨fun h9 => hv0 (by simpa [more] using h9), fun h9 => hv1 (by simpa [more] using h9), fun h9 => hv2 (by simpa [more] using h9), fun h9 => hv3 (by simpa [more] using h9), fun h9 => hv4 (by simpa [more] using h9), fun h9 => hv5 (by simpa [more] using h9), fun h9 => hv6 (by simpa [more] using h9), fun h9 => hv7 (by simpa [more] using h9), fun _ => rfl, fun h9 => hv9 (by simpa [more] using h9), fun h9 => hv10 (by simpa [more] using h9), fun h9 => hv11 (by simpa [more] using h9)⟩, fun h9 => hw12 (by simpa [more] using h9), hbW⟩
    · intro L a' W' hI hLj hE K' hK
      obtain ⟨V, rfl, ⟨hv0, hv1, hv2, hv3, hv4, hv5, hv6, hv7, hv8, hv9, hv10, hv11⟩, hw12, hbW⟩ := hI
      have ev8 := hv8 (hE ⟨8, .data⟩ (by simp) rfl)
      have k0 : W'.cell? ⟨w.heap.size, 0, none⟩ = some (.slice ar RS.length cr) := (hbW.cell (p := ⟨w.heap.size, 0, none⟩) zBx).trans cBx
      have k2 : W'.cell? ⟨q, 2, none⟩ = some (.int .i64 x.1.ke) := (hbW.cell (p := ⟨q, 2, none⟩) hlq).trans x2
      have k3 : W'.cell? ⟨q, 3, none⟩ = some (.int .i64 x.1.va) := (hbW.cell (p := ⟨q, 3, none⟩) hlq).trans x3
      have k5 : W'.cell? ⟨q, 5, none⟩ = some (.int .i64 x.1.st) := (hbW.cell (p := ⟨q, 5, none⟩) hlq).trans x5
      have k6 : W'.cell? ⟨q, 6, none⟩ = some (.int .i64 x.1.en) := (hbW.cell (p := ⟨q, 6, none⟩) hlq).trans x6
      rw [ev8]
      go_simp
      refine hK.out _ _ ⟨fun m => if m = 9 then .int .i64 x.1.va else V m, (by simp [ev8]), ⟨fun h9 => hv0 (by simpa [more] using h9), fun h9 => hv1 (by simpa [more] using h9), fun h9 => hv2 (by simpa [more] using h9), fun h9 => hv3 (by simpa [more] using h9), fun h9 => hv4 (by simpa [more] using h9), fun h9 => hv5 (by simpa [more] using h9), fun h9 => hv6 (by simpa [more] using h9), fun h9 => hv7 (by simpa [more] using h9), fun h9 => hv8 (by simpa [more] using h9), fun _ => rfl, fun h9 => hv10 (by simpa [more] using h9), fun h9 => hv11 (by simpa [more] using h9)⟩, fun h9 => hw12 (by simpa [more] using h9), hbW⟩
    · intro L a' W' hI hLj hE K' hK
      obtain ⟨V, rfl, ⟨hv0, hv1, hv2, hv3, hv4, hv5, hv6, hv7, hv8, hv9, hv10, hv11⟩, hw12, hbW⟩ := hI
      have ev6 := hv6 (hE ⟨6, .data⟩ (by simp) rfl)
      have ev9 := hv9 (hE ⟨9, .data⟩ (by simp) rfl)
      have k0 : W'.cell? ⟨w.heap.size, 0, none⟩ = some (.slice ar RS.length cr) := (hbW.cell (p := ⟨w.heap.size, 0, none⟩) zBx).trans cBx
      have k2 : W'.cell? ⟨q, 2, none⟩ = some (.int .i64 x.1.ke) := (hbW.cell (p := ⟨q, 2, none⟩) hlq).trans x2
      have k3 : W'.cell? ⟨q, 3, none⟩ = some (.int .i64 x.1.va) := (hbW.cell (p := ⟨q, 3, none⟩) hlq).trans x3
      have k5 : W'.cell? ⟨q, 5, none⟩ = some (.int .i64 x.1.st) := (hbW.cell (p := ⟨q, 5, none⟩) hlq).trans x5
      have k6 : W'.cell? ⟨q, 6, none⟩ = some (.int .i64 x.1.en) := (hbW.cell (p := ⟨q, 6, none⟩) hlq).trans x6
      rw [ev6]
      rw [ev9]
      go_simp
      (first | (gi_at_call 34) | (refine ⟨trivial, ?_⟩; gi_at_call 34) | (refine ⟨trivial, fun _ => (by omega), ?_⟩; gi_at_call 34))
      (refine (callsIn_wide.2 (impladd_is _ HY)).mono ?_; rintro e9 Wf ⟨rfl, hbf⟩)
      (try gi_wp2_with fail)
      refine hK.out _ _ ⟨fun m => if m = 10 then .agg #[.int .i64 na, .int .i64 nb, .int .i64 nc, .int .i64 nd] else V m, (by simp [ev6, ev9]), ⟨fun h9 => hv0 (by simpa [more] using h9), fun h9 => hv1 (by simpa [more] using h9), fun h9 => hv2 (by simpa [more] using h9), fun h9 => hv3 (by simpa [more] using h9), fun h9 => hv4 (by simpa [more] using h9), fun h9 => hv5 (by simpa [more] using h9), fun h9 => hv6 (by simpa [more] using h9), fun h9 => hv7 (by simpa [more] using h9), fun h9 => hv8 (by simpa [more] using h9), fun h9 => hv9 (by simpa [more] using h9), fun _ => rfl, fun h9 => hv11 (by simpa [more] using h9)⟩, fun h9 => ownTb_bel (hw12 (by simpa [more] using h9)) hbf, hbW.trans (hbf.mono hbW.size)⟩
    · intro L a' W' hI hLj hE K' hK
      obtain ⟨V, rfl, ⟨hv0, hv1, hv2, hv3, hv4, hv5, hv6, hv7, hv8, hv9, hv10, hv11⟩, hw12, hbW⟩ := hI
      have ev3 := hv3 (hE ⟨3, .data⟩ (by simp) rfl)
      have ev5 := hv5 (hE ⟨5, .data⟩ (by simp) rfl)
      have ev10 := hv10 (hE ⟨10, .data⟩ (by simp) rfl)
      have k0 : W'.cell? ⟨w.heap.size, 0, none⟩ = some (.slice ar RS.length cr) := (hbW.cell (p := ⟨w.heap.size, 0, none⟩) zBx).trans cBx
      have k2 : W'.cell? ⟨q, 2, none⟩ = some (.int .i64 x.1.ke) := (hbW.cell (p := ⟨q, 2, none⟩) hlq).trans x2
      have k3 : W'.cell? ⟨q, 3, none⟩ = some (.int .i64 x.1.va) := (hbW.cell (p := ⟨q, 3, none⟩) hlq).trans x3
      have k5 : W'.cell? ⟨q, 5, none⟩ = some (.int .i64 x.1.st) := (hbW.cell (p := ⟨q, 5, none⟩) hlq).trans x5
      have k6 : W'.cell? ⟨q, 6, none⟩ = some (.int .i64 x.1.en) := (hbW.cell (p := ⟨q, 6, none⟩) hlq).trans x6
      rw [ev3]
      rw [ev5]
      rw [ev10]
      go_simp
      refine hK.out _ _ ⟨fun m => if m = 11 then .agg #[.int .i64 x.1.ke, .int .i64 x.1.st, .int .i64 x.1.en, .int .i64 na, .int .i64 nb, .int .i64 nc, .int .i64 nd] else V m, (by simp [ev3, ev5, ev10]), ⟨fun h9 => hv0 (by simpa [more] using h9), fun h9 => hv1 (by simpa [more] using h9), fun h9 => hv2 (by simpa [more] using h9), fun h9 => hv3 (by simpa [more] using h9), fun h9 => hv4 (by simpa [more] using h9), fun h9 => hv5 (by simpa [more] using h9), fun h9 => hv6 (by simpa [more] using h9), fun h9 => hv7 (by simpa [more] using h9), fun h9 => hv8 (by simpa [more] using h9), fun h9 => hv9 (by simpa [more] using h9), fun h9 => hv10 (by simpa [more] using h9), fun _ => rfl⟩, fun h9 => hw12 (by simpa [more] using h9), hbW⟩
    · intro L a' W' hI hLj hE K' hK
      obtain ⟨V, rfl, ⟨hv0, hv1, hv2, hv3, hv4, hv5, hv6, hv7, hv8, hv9, hv10, hv11⟩, hw12, hbW⟩ := hI
      have ev0 := hv0 (hE ⟨0, .data⟩ (by simp) rfl)
      have ev11 := hv11 (hE ⟨11, .data⟩ (by simp) rfl)
      have k0 : W'.cell? ⟨w.heap.size, 0, none⟩ = some (.slice ar RS.length cr) := (hbW.cell (p := ⟨w.heap.size, 0, none⟩) zBx).trans cBx
      have k2 : W'.cell? ⟨q, 2, none⟩ = some (.int .i64 x.1.ke) := (hbW.cell (p := ⟨q, 2, none⟩) hlq).trans x2
      have k3 : W'.cell? ⟨q, 3, none⟩ = some (.int .i64 x.1.va) := (hbW.cell (p := ⟨q, 3, none⟩) hlq).trans x3
      have k5 : W'.cell? ⟨q, 5, none⟩ = some (.int .i64 x.1.st) := (hbW.cell (p := ⟨q, 5, none⟩) hlq).trans x5
      have k6 : W'.cell? ⟨q, 6, none⟩ = some (.int .i64 x.1.en) := (hbW.cell (p := ⟨q, 6, none⟩) hlq).trans x6
      rw [ev0]
      rw [ev11]
      go_simp
      (first | (gi_at_call 33) | (refine ⟨trivial, ?_⟩; gi_at_call 33) | (refine ⟨trivial, fun _ => (by omega), ?_⟩; gi_at_call 33))
      (refine (callsIn_wide.2 (seswith_any x.1.ke x.1.st x.1.en na nb nc nd ar RS.length cr RS _ (((unhide HT).below (bel_drew (Below.refl _ _))).below hbW) (by omega))).mono ?_; rintro e9 Wf ⟨v9, rfl, hO9, hbf⟩)
      (try gi_wp2_with fail)
      refine hK.out _ _ ⟨fun m => if m = 12 then v9 else V m, (by simp [ev0, ev11]), ⟨fun h9 => hv0 (by simpa [more] using h9), fun h9 => hv1 (by simpa [more] using h9), fun h9 => hv2 (by simpa [more] using h9), fun h9 => hv3 (by simpa [more] using h9), fun h9 => hv4 (by simpa [more] using h9), fun h9 => hv5 (by simpa [more] using h9), fun h9 => hv6 (by simpa [more] using h9), fun h9 => hv7 (by simpa [more] using h9), fun h9 => hv8 (by simpa [more] using h9), fun h9 => hv9 (by simpa [more] using h9), fun h9 => hv10 (by simpa [more] using h9), fun h9 => hv11 (by simpa [more] using h9)⟩, fun _ => World.ownsRow.mono hO9 (Nat.le_trans hB.size hbW.size), hbW.trans (hbf.mono hbW.size)⟩
    · intro L a' W' hI hA K' hK
      obtain ⟨V, rfl, ⟨hv0, hv1, hv2, hv3, hv4, hv5, hv6, hv7, hv8, hv9, hv10, hv11⟩, hw12, hbW⟩ := hI
      have hO12 := hw12 (hA 12 (by decide))
      obtain ⟨v9, hv9⟩ : ∃ v9, V 12 = v9 := ⟨_, rfl⟩
      rw [hv9] at hO12 ⊢
      obtain ⟨ar9, n9, cr9, e9⟩ : ∃ a n c, v9 = .slice a n c := by
        rcases hO12.2 with ⟨h, _⟩ | ⟨g, cap, cur, h, _⟩
        · exact ⟨_, _, _, h⟩
        · exact ⟨_, _, _, h⟩
      subst e9
      have hBx' : Boxed W' w.heap.size 71 (.slice ar RS.length cr) := (hbW.block w.heap.size zBx).trans (unhide HBx)
      have k0 := hBx'.cell
      have f0 := hBx'.frozen
      have hbWW : Below W.heap.size W W' := bel_trans (bel_drew (Below.refl _ _)) hbW
      have zW : w.heap.size ≤ W.heap.size := hB.size
      have hnb : (Value.slice ar9 n9 cr9).ownBlock ≠ some w.heap.size := fun e9 => hBx'.not_row (by decide) hO12 e9.symm
      have hb2 : Below w.heap.size W (W'.setCell ⟨w.heap.size, 0, none⟩ (.slice ar9 n9 cr9)) := (hbWW.mono zW).setCell (Nat.le_refl _) _
      go_simp
      refine hK.out _ _ ?_
      refine ⟨⟨Nat.le_trans hbWW.size (by simp [World.setCell]), fun k o hk h0 ho => ?_⟩, ⟨hb2, fun bl cs ty hty hbl => ?_⟩, ⟨_, hBx'.set _, ?_, by rw [List.length_append]; simp; omega, hB.trans hb2⟩⟩
      · have hlt := (Array.getElem?_eq_some_iff.1 h0).1
        exact (Below.heap_setCell _ _ _ _ (fun e => by simp at e hk; omega)).trans ((hbWW.block k hlt).trans h0)
      · have hlt := (Array.getElem?_eq_some_iff.1 hbl).1
        have h8 := (hbWW.block bl hlt).trans hbl
        refine (Below.heap_setCell _ _ _ _ (fun e => ?_)).trans h8
        simp at e
        subst e
        have h7 := hBx'
        unfold Boxed at h7
        rw [h8] at h7
        simp only [Option.some.injEq, Obj.cells.injEq] at h7
        rcases hty with rfl | rfl
        · exact absurd h7.2.1 (by decide)
        · exact absurd h7.2.1 (by decide)
      · rw [List.map_append]
        simp only [List.map_cons, List.map_nil]
        rw [tabP_app, unhide HRS, unhide HST]
        exact ownTb_set hO12 hnb
  case done =>
    rintro D ys W hD hys ⟨rv, hv, hrow, hpN, hB⟩ hK
    obtain rfl := hys.symm
    have hcv := hv.cell
    have HR := hide hrow
    clear hrow
    gi_wp2
    refine ⟨by simp, .inl ⟨_, _, rfl, run_takeDeferred hK, ?_⟩⟩
    exact ⟨_, results_tmp rfl _ _ _, rv, rfl, ownsRow_putObj (unhide HR) _ hK rfl, hB.trans (belowK_b (w := w) (Nat.le_refl _) W D _ _ (by simp at hD; omega) hK rfl rfl)⟩
  case stop =>
    rintro D c pre W _ _ hx _
    exact hx.elim
end Go.Proofs.YtikidpcgnmffcaaGreat
