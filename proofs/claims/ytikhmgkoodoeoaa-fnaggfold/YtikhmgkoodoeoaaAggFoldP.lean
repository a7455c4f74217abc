/- Proved here: the law on what is known of values in whichever order returns true at every code. -/
import Derived.Test.YtikhmgkoodoeoaaAggFoldM
import Derived.Test.YtikhmgkoodoeoaaRecsImpl
import Derived.Test.YtikhmgkoodoeoaaFrOk
import Derived.Deep.RegionHeld3
namespace Go.Proofs.Ytikhmgkoodoeoaa
open Go.ChangeShapes Go.WideShapes Go.ChangeAt Go.RowKit
set_option linter.unusedVariables false

set_option maxRecDepth 20000 in
set_option maxHeartbeats 1000000 in
theorem frits_any (a1 a2 : Option Addr) (len cap1 cap2 : Nat) (xs : List It) (w : World) (h1 : Its w a1 len xs) (h2 : Its w a2 len xs) : Calls Try.prog 11 #[.slice a1 len cap1, .slice a2 len cap2] w fun e w' => e = .returned (.bool true) ∧ Below w.heap.size w w' := by
  have hm := h1.2.1
  unfold maxLen at hm
  go_enter Try.func11, Try.ntmps11
  go_wp2
  go_loopw [5] (fun i wr => ∃ k : Nat, k ≤ len ∧ i = .int .i64 k ∧ Below w.heap.size w wr) (fun i _ => len - (intOf i).toNat)
  case atStart => exact ⟨0, Nat.zero_le _, rfl, Below.refl _ _⟩
  case round =>
    obtain ⟨k, hk, rfl, hbw⟩ := hrel
    by_cases hlt : k < len
    · obtain ⟨hl1, _, hx1⟩ := h1
      obtain ⟨hl2, _, hx2⟩ := h2
      obtain ⟨g1, o1, rfl, hr1⟩ := hx1.resolve_left (by omega)
      obtain ⟨g2, o2, rfl, hr2⟩ := hx2.resolve_left (by omega)
      obtain ⟨x, hxk⟩ : ∃ x, xs[k]? = some x := ⟨_, List.getElem?_eq_getElem (by omega)⟩
      have hg1 : g1 < w.heap.size := hr1.lt (by omega)
      have hg2 : g2 < w.heap.size := hr2.lt (by omega)
      have hltI : (k : Int) < (len : Int) := by omega
      obtain ⟨c0, c1, c2, c3, c4⟩ := (hr1 k _ hxk).below hbw hg1
      obtain ⟨d0, d1, d2, d3, d4⟩ := (hr2 k _ hxk).below hbw hg2
      clear hx1 hx2 hxk hr1 hr2
      go_wp2_with fail
      go_quiet (fail)
      go_wp2
      go_roundw
      case rel => exact ⟨k + 1, by omega, by go_num, (by repeat (first | (with_reducible exact Below.refl _ _) | (with_reducible assumption) | (with_reducible refine bel_set ?_ (by first | (simp; done) | (simp; omega)) _) | (with_reducible refine bel_alloc ?_ _) | (with_reducible refine bel_drew ?_) | (with_reducible refine bel_drewN ?_ _) | (with_reducible refine bel_trans ?_ (by with_reducible assumption))))⟩
      case measure => simp [intOf]; omega
    · go_wp2
      go_ret
      exact ⟨rfl, hbw⟩

/-- A log and a number that are drawn of a code. -/
def RecsB (w : World) (e : Ending) (w' : World) : Prop := ∃ (a1 : Option Addr) (cap1 : Nat) (xs : List It) (least : Int), e = .returned (.tuple #[.slice a1 xs.length cap1, .int .i64 least]) ∧ Its w' a1 xs.length xs ∧ xs.length ≤ 41 ∧ BdL xs ∧ (-9 ≤ least ∧ least ≤ 9) ∧ Below w.heap.size w w'

set_option maxRecDepth 20000 in
theorem drawrecsB_any (a : Option Addr) (len cap : Nat) (w : World) (hlc : len ≤ cap) (hlm : len ≤ 1048576) (hb : BytesAt w a len) (hl : ∀ g o, a = some ⟨g, o, none⟩ → 0 < len → g < w.heap.size) (hn : a = none → cap = 0) : Calls Try.prog 9 #[.slice a len cap] w fun e w' => RecsB w e w' := by
  go_enter Try.func9, Try.ntmps9
  go_wp2_with fail
  refine (open_any a len cap _ hlc hlm hb hl hn).mono ?_
  rintro e w1 ⟨R, len', cap', rfl, h1, h2, hb1, hr⟩
  clear hb hl hn
  go_wp2_with fail
  refine (anyB_any R a len' cap' 0 8 w1 (by omega) (by omega) (by omega) h2 hr).mono ?_
  rintro e w2 ⟨v, xs, rfl, hO, hBd, hl, k, p', hp', r2⟩
  have h3 : R < w2.heap.size := by have h9 := k.low.size; omega
  go_wp2_with fail
  refine (pick_any R a len' cap' p' 19 w2 (by omega) (by omega) r2).mono ?_
  rintro e w3 ⟨x, rfl, bx1, bx2, k3, q3⟩
  obtain ⟨a1, cap1, rfl, hI⟩ := own_its (ownK hO h2 k3) (by unfold maxLen; omega)
  go_wp2
  refine bodyPost_ret (v := .tuple #[.slice a1 xs.length cap1, .int .i64 (x - 9)]) (by simp (maxDischargeDepth := 9) [results, Try.results9, go_sem, *]) rfl ⟨a1, cap1, xs, x - 9, rfl, hI, hl, hBd, ⟨by omega, by omega⟩, hb1.trans ((k.low.trans k3.low).mono h1)⟩
theorem vs_sm {xs : List It} {least : Int} (h : BdL xs) (hl : xs.length ≤ 41) : Sm ((recs least xs).map It.v) := by
  refine ⟨?_, fun v hv => ?_⟩
  · have := recs_le least xs; simp; omega
  · obtain ⟨x, hx, rfl⟩ := List.mem_map.1 hv
    exact (h x (List.mem_filter.1 hx).1).2
theorem its_v {W : World} {g o : Nat} {xs : List It} (h : ItsAt W g o xs) {k : Nat} {v : Int} (hv : (xs.map It.v)[k]? = some v) : W.cell? ⟨g, o + k * 5 + 3, none⟩ = some (.int .i64 v) := by
  rw [List.getElem?_map, Option.map_eq_some_iff] at hv
  obtain ⟨x, hx, rfl⟩ := hv
  exact (h k x hx).2.2.2.1
theorem impladdG (A A' : Ag) (v : Int) (h : A' = A.add v) (w : World) : Calls Try.prog 13 #[.agg #[.int .i64 A.n, .int .i64 A.s, .int .i64 A.l, .int .i64 A.m], .int .i64 v] w fun e w' => e = .returned (.agg #[.int .i64 A'.n, .int .i64 A'.s, .int .i64 A'.l, .int .i64 A'.m]) ∧ Below w.heap.size w w' := by
  subst h
  exact impladd_any _ _ _ _ _ _
theorem implbothG (A B A' : Ag) (h : A' = A.both B) (w : World) : Calls Try.prog 14 #[.agg #[.int .i64 A.n, .int .i64 A.s, .int .i64 A.l, .int .i64 A.m], .agg #[.int .i64 B.n, .int .i64 B.s, .int .i64 B.l, .int .i64 B.m]] w fun e w' => e = .returned (.agg #[.int .i64 A'.n, .int .i64 A'.s, .int .i64 A'.l, .int .i64 A'.m]) ∧ Below w.heap.size w w' := by
  subst h
  exact implboth_any _ _ _ _ _ _ _ _ _
set_option linter.unusedSimpArgs false in
set_option maxRecDepth 20000 in
set_option maxHeartbeats 8000000 in
theorem lawAggFold (a : Option Addr) (len cap : Nat) (w : World) (hlc : len ≤ cap) (hmx : len ≤ maxLen) (hb : BytesAt w a len) (hl : ∀ g o, a = some ⟨g, o, none⟩ → 0 < len → g < w.heap.size) (hn : a = none → cap = 0) : Calls Try.prog 4 #[.slice a len cap] w fun e w' => e = .returned (.bool true) ∧ Below w.heap.size w w' := by
  unfold maxLen at hmx
  by_cases hlen : (len : Int) ≤ 1048576
  rotate_left
  · go_enter Try.func4, Try.ntmps4
    go_wp2
    go_ret
    exact ⟨rfl, Below.refl _ _⟩
  have hd := hide (drawrecsB_any a len cap w hlc (by omega) hb hl hn)
  clear hb hl hn
  go_enter Try.func4, Try.ntmps4
  go_wp2_with fail
  refine (unhide hd).mono ?_
  rintro e w1 ⟨a1, cap1, xs, least, rfl, hI, hxl, hBd, ⟨hl1, hl2⟩, hb1⟩
  clear hd
  go_wp2_with fail
  refine (implrecs_any _ _ _ least xs _ hI (by omega)).mono ?_
  rintro e w2 ⟨v2, rfl, hO2, hb2⟩
  have hrl := recs_le least xs
  obtain ⟨a2, cap2, rfl, hX⟩ := own_its hO2 (by unfold maxLen; omega)
  clear hO2
  replace hI := hI.below hb2
  go_wp2_with fail
  refine (specrecs_any _ _ _ least xs _ hI (by omega)).mono ?_
  rintro e w3 ⟨v3, rfl, hO3, hb3⟩
  obtain ⟨a3, cap3, rfl, hY⟩ := own_its hO3 (by unfold maxLen; omega)
  clear hO3 hI
  replace hX := hX.below hb3
  go_wp2_with fail
  refine (frits_any _ _ _ _ _ (recs least xs) _ hX hY).mono ?_
  rintro e w4 ⟨rfl, hb4⟩
  replace hX := hX.below hb4
  clear hY
  have hb0 : Below w.heap.size w w4 := (by repeat (first | (with_reducible exact Below.refl _ _) | (with_reducible assumption) | (with_reducible refine bel_set ?_ (by first | (simp; done) | (simp; omega)) _) | (with_reducible refine bel_alloc ?_ _) | (with_reducible refine bel_drew ?_) | (with_reducible refine bel_drewN ?_ _) | (with_reducible refine bel_trans ?_ (by with_reducible assumption))))
  have hsm := hide (vs_sm (least := least) hBd hxl)
  clear hBd
  generalize hrs : recs least xs = rs at hX hsm hrl
  have hrl2 : rs.length ≤ 41 := by omega
  clear hrl hrs
  obtain ⟨i0, him, hil⟩ : ∃ i0 : Nat, (len : Int) % ((rs.length : Int) + 1) = (i0 : Int) ∧ i0 ≤ rs.length := ⟨len % (rs.length + 1), by simp, by have := Nat.mod_lt len (y := rs.length + 1) (by omega); omega⟩
  go_wp2
  rw [him]
  clear him
  go_loopw [10] (fun i wr => ∃ (k : Nat) (A B C : Ag), k ≤ rs.length ∧ i = .int .i64 k ∧ AgAt wr w4.heap.size A ∧ AgAt wr (w4.heap.size + 1) B ∧ AgAt wr (w4.heap.size + 1 + 1) C ∧ AgFr wr w4.heap.size ∧ AgFr wr (w4.heap.size + 1) ∧ AgFr wr (w4.heap.size + 1 + 1) ∧ Hid (IsAg A ((rs.map It.v).take k)) ∧ Hid (IsAg B ((rs.map It.v).reverse.take k)) ∧ Hid (IsAg C ((rs.map It.v).take (min k i0))) ∧ Below w4.heap.size w4 wr ∧ w4.heap.size + 1 + 1 < wr.heap.size) (fun i _ => rs.length - (intOf i).toNat)
  case atStart =>
    refine ⟨0, ⟨0, 0, 0, 0⟩, ⟨0, 0, 0, 0⟩, ⟨0, 0, 0, 0⟩, Nat.zero_le _, rfl, ?_, ?_, ?_, ?_, ?_, ?_, hide (by simpa using IsAg.nil), hide (by simpa using IsAg.nil), hide (by simpa using IsAg.nil), (by repeat (first | (with_reducible exact Below.refl _ _) | (with_reducible assumption) | (with_reducible refine bel_set ?_ (by first | (simp; done) | (simp; omega)) _) | (with_reducible refine bel_alloc ?_ _) | (with_reducible refine bel_drew ?_) | (with_reducible refine bel_drewN ?_ _) | (with_reducible refine bel_trans ?_ (by with_reducible assumption)))), by simp⟩
    all_goals (refine ⟨?_, ?_, ?_, ?_⟩ <;> simp [go_sem])
  case round =>
    obtain ⟨k, A, B, C, hk, rfl, ATA, ATB, ATC, FRA, FRB, FRC, hIA, hIB, hIC, hbwr, hzwr⟩ := hrel
    by_cases hlt : k < rs.length
    · obtain ⟨hl9, hm9, hx⟩ := hX
      obtain ⟨g, o, rfl, hr⟩ := hx.resolve_left (by omega)
      have hg : g < w4.heap.size := hr.lt (by omega)
      obtain ⟨v, hv⟩ : ∃ v, (rs.map It.v)[k]? = some v := ⟨_, List.getElem?_eq_getElem (by simpa using hlt)⟩
      obtain ⟨j, hj0⟩ : ∃ j, j = rs.length - 1 - k := ⟨_, rfl⟩
      obtain ⟨u, hu⟩ : ∃ u, (rs.map It.v)[j]? = some u := ⟨_, List.getElem?_eq_getElem (by simp; omega)⟩
      have hjI : (rs.length : Int) - 1 - (k : Int) = (j : Int) := by omega
      have hjl : j < rs.length := by omega
      have hj := hide hj0
      clear hj0
      have cv0 := hide (its_v hr hv)
      have cu0 := hide (its_v hr hu)
      have HV := hide hv
      have HU := hide hu
      clear hx hr hv hu
      have cv : wr.cell? ⟨g, o + k * 5 + 3, none⟩ = some (.int .i64 v) := (hbwr.cell (p := ⟨g, o + k * 5 + 3, none⟩) hg).trans (unhide cv0)
      go_wp2_with fail
      obtain ⟨A2, hA2⟩ : ∃ A2, Hid (A2 = A.add v) := ⟨_, hide rfl⟩
      have hp := ATA
      have p0 : wr.cell? ⟨w4.heap.size, 0, none⟩ = some (.int .i64 A.n) := hp.1
      have p1 : wr.cell? ⟨w4.heap.size, 1, none⟩ = some (.int .i64 A.s) := hp.2.1
      have p2 : wr.cell? ⟨w4.heap.size, 2, none⟩ = some (.int .i64 A.l) := hp.2.2.1
      have p3 : wr.cell? ⟨w4.heap.size, 3, none⟩ = some (.int .i64 A.m) := hp.2.2.2
      refine wp_region_held_drew (S := (fun W => W.cell? ⟨g, o + k * 5 + 3, none⟩ = some (.int .i64 v) ∧ w4.heap.size + 1 + 1 < W.heap.size)) (by kernel_rfl) ?_ (fun hHeld => ?_)
      · (try dsimp only); exact ⟨cv, by first | omega | (simp; omega)⟩
      refine wpAnyH_take (i := 1) (v := ?_) (by simp only [List.getElem?_toArray, List.getElem?_cons_zero, List.getElem?_cons_succ]; rfl) (by kernel_rfl) (by kernel_rfl) (by kernel_rfl) (by intro _ _ _ h; exact h) (Or.inl ⟨by rfl, ?_⟩) (by assumption) ?_
      rotate_left
      · (intro w9 hSw; (try dsimp only at hSw); go_simp <;> with_reducible rfl)
      try simp only [Act.put, List.setIfInBounds_toArray, List.set_cons_zero, List.set_cons_succ]
      refine wpAnyH_take (i := 2) (v := ?_) (by simp only [List.getElem?_toArray, List.getElem?_cons_zero, List.getElem?_cons_succ]; rfl) (by kernel_rfl) (by kernel_rfl) (by kernel_rfl) (by intro _ _ _ h; exact h) (Or.inl ⟨by rfl, ?_⟩) (by assumption) ?_
      rotate_left
      · (intro w9 hSw; (try dsimp only at hSw); go_simp <;> with_reducible rfl)
      try simp only [Act.put, List.setIfInBounds_toArray, List.set_cons_zero, List.set_cons_succ]
      refine wpAnyH_take (i := 3) (v := ?_) (by simp only [List.getElem?_toArray, List.getElem?_cons_zero, List.getElem?_cons_succ]; rfl) (by kernel_rfl) (by kernel_rfl) (by kernel_rfl) (by intro _ _ _ h; exact h) (Or.inl ⟨by rfl, ?_⟩) (by assumption) ?_
      rotate_left
      · (intro w9 hSw; (try dsimp only at hSw); go_simp <;> with_reducible rfl)
      try simp only [Act.put, List.setIfInBounds_toArray, List.set_cons_zero, List.set_cons_succ]
      refine wpAnyH_take (i := 4) (v := ?_) (by simp only [List.getElem?_toArray, List.getElem?_cons_zero, List.getElem?_cons_succ]; rfl) (by kernel_rfl) (by kernel_rfl) (by kernel_rfl) (by intro _ _ _ h; exact h) (Or.inl ⟨by rfl, ?_⟩) (by assumption) ?_
      rotate_left
      · (intro w9 hSw; (try dsimp only at hSw); go_simp <;> with_reducible rfl)
      try simp only [Act.put, List.setIfInBounds_toArray, List.set_cons_zero, List.set_cons_succ]
      refine wpAnyH_take (i := 5) (v := ?_) (by simp only [List.getElem?_toArray, List.getElem?_cons_zero, List.getElem?_cons_succ]; rfl) (by kernel_rfl) (by kernel_rfl) (by kernel_rfl) (by intro _ _ _ h; exact h) (Or.inl ⟨by rfl, ?_⟩) (by assumption) ?_
      rotate_left
      · (intro w9 hSw; (try dsimp only at hSw); go_simp <;> with_reducible rfl)
      try simp only [Act.put, List.setIfInBounds_toArray, List.set_cons_zero, List.set_cons_succ]
      refine wpAnyH_ready (rs := [0]) (by kernel_rfl) (by simp) ?_
      refine AllReadyH.cons (by simp only [List.getElem?_toArray, List.getElem?_cons_zero, List.getElem?_cons_succ]; rfl) (fun K hK => ?_) AllReadyH.nil
      go_simp
      refine hK.out _ _ ?_ (fun hHeld2 => ?_)
      · (try dsimp only); exact hHeld
      clear hK K hHeld
      have hHeld := hHeld2
      clear hHeld2
      try simp only [Act.put, List.setIfInBounds_toArray, List.set_cons_zero, List.set_cons_succ]
      refine wpAnyH_ready (rs := [6]) (by kernel_rfl) (by simp) ?_
      refine AllReadyH.cons (by simp only [List.getElem?_toArray, List.getElem?_cons_zero, List.getElem?_cons_succ]; rfl) (fun K hK => ?_) AllReadyH.nil
      go_simp
      (go_at_call 13; (with_reducible refine (impladdG A A2 v (unhide hA2) _).mono ?_); rintro e wAa ⟨rfl, hbwAa⟩; have hbq : Below wr.heap.size wr wAa := (by repeat (first | (with_reducible exact Below.refl _ _) | (with_reducible assumption) | (with_reducible refine bel_set ?_ (by first | (simp; done) | (simp; omega)) _) | (with_reducible refine bel_alloc ?_ _) | (with_reducible refine bel_drew ?_) | (with_reducible refine bel_drewN ?_ _) | (with_reducible refine bel_trans ?_ (by with_reducible assumption)))); have hq := ATA.bel hbq (by omega); have hr := FRA.bel hbq (by omega); have cvwAa : wAa.cell? ⟨g, o + k * 5 + 3, none⟩ = some (.int .i64 v) := ((hbq.cell (p := ⟨g, o + k * 5 + 3, none⟩) (by simp; omega)).trans cv); have hzq := hbq.size)
      (try go_wp2_with fail)
      refine hK.out _ _ ?_ (fun hHeld2 => ?_)
      · (try dsimp only); exact ⟨cvwAa, by omega⟩
      clear hK K hHeld
      have hHeld := hHeld2
      clear hHeld2
      try simp only [Act.put, List.setIfInBounds_toArray, List.set_cons_zero, List.set_cons_succ]
      have q0 : wAa.cell? ⟨w4.heap.size, 0, none⟩ = some (.int .i64 A.n) := hq.1
      have q1 : wAa.cell? ⟨w4.heap.size, 1, none⟩ = some (.int .i64 A.s) := hq.2.1
      have q2 : wAa.cell? ⟨w4.heap.size, 2, none⟩ = some (.int .i64 A.l) := hq.2.2.1
      have q3 : wAa.cell? ⟨w4.heap.size, 3, none⟩ = some (.int .i64 A.m) := hq.2.2.2
      have r0 : wAa.frozen? ⟨w4.heap.size, 0, none⟩ = false := hr.1
      have r1 : wAa.frozen? ⟨w4.heap.size, 1, none⟩ = false := hr.2.1
      have r2 : wAa.frozen? ⟨w4.heap.size, 2, none⟩ = false := hr.2.2.1
      have r3 : wAa.frozen? ⟨w4.heap.size, 3, none⟩ = false := hr.2.2.2
      refine wpAnyH_ready (rs := [7]) (by kernel_rfl) (by simp) ?_
      refine AllReadyH.cons (by simp only [List.getElem?_toArray, List.getElem?_cons_zero, List.getElem?_cons_succ]; rfl) (fun K hK => ?_) AllReadyH.nil
      go_simp
      refine hK.out _ _ ?_ (fun hHeld2 => ?_)
      · (try dsimp only); exact ⟨by rw [cell_set_ne (by simp; omega), cell_set_ne (by simp; omega), cell_set_ne (by simp; omega), cell_set_ne (by simp; omega)]; exact cvwAa, by simp; omega⟩
      clear hK K hHeld
      have hHeld := hHeld2
      clear hHeld2
      try simp only [Act.put, List.setIfInBounds_toArray, List.set_cons_zero, List.set_cons_succ]
      refine wpAnyH_done (by kernel_rfl) ?_ _
      have e9 : setAg wAa w4.heap.size A2 = ((((wAa.setCell ⟨w4.heap.size, 0, none⟩ (.int .i64 A2.n)).setCell ⟨w4.heap.size, 1, none⟩ (.int .i64 A2.s)).setCell ⟨w4.heap.size, 2, none⟩ (.int .i64 A2.l)).setCell ⟨w4.heap.size, 3, none⟩ (.int .i64 A2.m)) := rfl
      rw [← e9]
      clear e9
      have ATA2 : AgAt (setAg wAa w4.heap.size A2) w4.heap.size A2 := setAg_this hq
      have FRA2 : AgFr (setAg wAa w4.heap.size A2) w4.heap.size := setAg_fr hr
      replace ATB : AgAt (setAg wAa w4.heap.size A2) (w4.heap.size + 1) B := setAg_ne (ATB.bel hbq (by omega)) (by omega)
      replace FRB : AgFr (setAg wAa w4.heap.size A2) (w4.heap.size + 1) := setAg_fr (FRB.bel hbq (by omega))
      replace ATC : AgAt (setAg wAa w4.heap.size A2) (w4.heap.size + 1 + 1) C := setAg_ne (ATC.bel hbq (by omega)) (by omega)
      replace FRC : AgFr (setAg wAa w4.heap.size A2) (w4.heap.size + 1 + 1) := setAg_fr (FRC.bel hbq (by omega))
      have hbwA : Below w4.heap.size w4 (setAg wAa w4.heap.size A2) := setAg_below (hbwr.trans (hbq.mono (by omega))) (by omega)
      have hzwA : w4.heap.size + 1 + 1 < (setAg wAa w4.heap.size A2).heap.size := by rw [setAg_size]; omega
      generalize setAg wAa w4.heap.size A2 = wA at *
      clear hHeld hp hq hr p0 p1 p2 p3 q0 q1 q2 q3 r0 r1 r2 r3 cv cvwAa ATA FRA
      have cv : wA.cell? ⟨g, o + j * 5 + 3, none⟩ = some (.int .i64 u) := (hbwA.cell (p := ⟨g, o + j * 5 + 3, none⟩) hg).trans (unhide cu0)
      have hw1 : IntKind.i64.wrap ((rs.length : Int) - 1) = (rs.length : Int) - 1 := IntWalk.i64_in _ (by omega)
      have hw2 : IntKind.i64.wrap ((rs.length : Int) - 1 - (k : Int)) = (j : Int) := by rw [hjI]; exact IntWalk.i64_in _ (by omega)
      have hw3 : IntKind.i64.wrap (j : Int) = (j : Int) := IntWalk.i64_in _ (by omega)
      go_wp2_with fail
      obtain ⟨B2, hB2⟩ : ∃ B2, Hid (B2 = B.add u) := ⟨_, hide rfl⟩
      have hp := ATB
      have p0 : wA.cell? ⟨(w4.heap.size + 1), 0, none⟩ = some (.int .i64 B.n) := hp.1
      have p1 : wA.cell? ⟨(w4.heap.size + 1), 1, none⟩ = some (.int .i64 B.s) := hp.2.1
      have p2 : wA.cell? ⟨(w4.heap.size + 1), 2, none⟩ = some (.int .i64 B.l) := hp.2.2.1
      have p3 : wA.cell? ⟨(w4.heap.size + 1), 3, none⟩ = some (.int .i64 B.m) := hp.2.2.2
      refine wp_region_held_drew (S := (fun W => W.cell? ⟨g, o + j * 5 + 3, none⟩ = some (.int .i64 u) ∧ w4.heap.size + 1 + 1 < W.heap.size)) (by kernel_rfl) ?_ (fun hHeld => ?_)
      · (try dsimp only); exact ⟨cv, by first | omega | (simp; omega)⟩
      refine wpAnyH_take (i := 1) (v := ?_) (by simp only [List.getElem?_toArray, List.getElem?_cons_zero, List.getElem?_cons_succ]; rfl) (by kernel_rfl) (by kernel_rfl) (by kernel_rfl) (by intro _ _ _ h; exact h) (Or.inl ⟨by rfl, ?_⟩) (by assumption) ?_
      rotate_left
      · (intro w9 hSw; (try dsimp only at hSw); go_simp <;> with_reducible rfl)
      try simp only [Act.put, List.setIfInBounds_toArray, List.set_cons_zero, List.set_cons_succ]
      refine wpAnyH_take (i := 2) (v := ?_) (by simp only [List.getElem?_toArray, List.getElem?_cons_zero, List.getElem?_cons_succ]; rfl) (by kernel_rfl) (by kernel_rfl) (by kernel_rfl) (by intro _ _ _ h; exact h) (Or.inl ⟨by rfl, ?_⟩) (by assumption) ?_
      rotate_left
      · (intro w9 hSw; (try dsimp only at hSw); go_simp <;> with_reducible rfl)
      try simp only [Act.put, List.setIfInBounds_toArray, List.set_cons_zero, List.set_cons_succ]
      refine wpAnyH_take (i := 3) (v := ?_) (by simp only [List.getElem?_toArray, List.getElem?_cons_zero, List.getElem?_cons_succ]; rfl) (by kernel_rfl) (by kernel_rfl) (by kernel_rfl) (by intro _ _ _ h; exact h) (Or.inl ⟨by rfl, ?_⟩) (by assumption) ?_
      rotate_left
      · (intro w9 hSw; (try dsimp only at hSw); go_simp <;> with_reducible rfl)
      try simp only [Act.put, List.setIfInBounds_toArray, List.set_cons_zero, List.set_cons_succ]
      refine wpAnyH_take (i := 4) (v := ?_) (by simp only [List.getElem?_toArray, List.getElem?_cons_zero, List.getElem?_cons_succ]; rfl) (by kernel_rfl) (by kernel_rfl) (by kernel_rfl) (by intro _ _ _ h; exact h) (Or.inl ⟨by rfl, ?_⟩) (by assumption) ?_
      rotate_left
      · (intro w9 hSw; (try dsimp only at hSw); go_simp <;> with_reducible rfl)
      try simp only [Act.put, List.setIfInBounds_toArray, List.set_cons_zero, List.set_cons_succ]
      refine wpAnyH_take (i := 5) (v := ?_) (by simp only [List.getElem?_toArray, List.getElem?_cons_zero, List.getElem?_cons_succ]; rfl) (by kernel_rfl) (by kernel_rfl) (by kernel_rfl) (by intro _ _ _ h; exact h) (Or.inl ⟨by rfl, ?_⟩) (by assumption) ?_
      rotate_left
      · (intro w9 hSw; (try dsimp only at hSw); go_simp <;> with_reducible rfl)
      try simp only [Act.put, List.setIfInBounds_toArray, List.set_cons_zero, List.set_cons_succ]
      refine wpAnyH_take (i := 6) (v := ?_) (by simp only [List.getElem?_toArray, List.getElem?_cons_zero, List.getElem?_cons_succ]; rfl) (by kernel_rfl) (by kernel_rfl) (by kernel_rfl) (by intro _ _ _ h; exact h) (Or.inl ⟨by rfl, ?_⟩) (by assumption) ?_
      rotate_left
      · (intro w9 hSw; (try dsimp only at hSw); go_simp <;> with_reducible rfl)
      try simp only [Act.put, List.setIfInBounds_toArray, List.set_cons_zero, List.set_cons_succ]
      refine wpAnyH_take (i := 7) (v := ?_) (by simp only [List.getElem?_toArray, List.getElem?_cons_zero, List.getElem?_cons_succ]; rfl) (by kernel_rfl) (by kernel_rfl) (by kernel_rfl) (by intro _ _ _ h; exact h) (Or.inl ⟨by rfl, ?_⟩) (by assumption) ?_
      rotate_left
      · (intro w9 hSw; (try dsimp only at hSw); go_simp <;> with_reducible rfl)
      try simp only [Act.put, List.setIfInBounds_toArray, List.set_cons_zero, List.set_cons_succ]
      refine wpAnyH_take (i := 8) (v := ?_) (by simp only [List.getElem?_toArray, List.getElem?_cons_zero, List.getElem?_cons_succ]; rfl) (by kernel_rfl) (by kernel_rfl) (by kernel_rfl) (by intro _ _ _ h; exact h) (Or.inl ⟨by rfl, ?_⟩) (by assumption) ?_
      rotate_left
      · (intro w9 hSw; (try dsimp only at hSw); go_simp <;> with_reducible rfl)
      try simp only [Act.put, List.setIfInBounds_toArray, List.set_cons_zero, List.set_cons_succ]
      refine wpAnyH_take (i := 9) (v := ?_) (by simp only [List.getElem?_toArray, List.getElem?_cons_zero, List.getElem?_cons_succ]; rfl) (by kernel_rfl) (by kernel_rfl) (by kernel_rfl) (by intro _ _ _ h; exact h) (Or.inl ⟨by rfl, ?_⟩) (by assumption) ?_
      rotate_left
      · (intro w9 hSw; (try dsimp only at hSw); go_simp <;> with_reducible rfl)
      try simp only [Act.put, List.setIfInBounds_toArray, List.set_cons_zero, List.set_cons_succ]
      refine wpAnyH_ready (rs := [0]) (by kernel_rfl) (by simp) ?_
      refine AllReadyH.cons (by simp only [List.getElem?_toArray, List.getElem?_cons_zero, List.getElem?_cons_succ]; rfl) (fun K hK => ?_) AllReadyH.nil
      go_simp
      refine hK.out _ _ ?_ (fun hHeld2 => ?_)
      · (try dsimp only); exact hHeld
      clear hK K hHeld
      have hHeld := hHeld2
      clear hHeld2
      try simp only [Act.put, List.setIfInBounds_toArray, List.set_cons_zero, List.set_cons_succ]
      refine wpAnyH_ready (rs := [10]) (by kernel_rfl) (by simp) ?_
      refine AllReadyH.cons (by simp only [List.getElem?_toArray, List.getElem?_cons_zero, List.getElem?_cons_succ]; rfl) (fun K hK => ?_) AllReadyH.nil
      go_simp
      (go_at_call 13; (with_reducible refine (impladdG B B2 u (unhide hB2) _).mono ?_); rintro e wBa ⟨rfl, hbwBa⟩; have hbq : Below wA.heap.size wA wBa := (by repeat (first | (with_reducible exact Below.refl _ _) | (with_reducible assumption) | (with_reducible refine bel_set ?_ (by first | (simp; done) | (simp; omega)) _) | (with_reducible refine bel_alloc ?_ _) | (with_reducible refine bel_drew ?_) | (with_reducible refine bel_drewN ?_ _) | (with_reducible refine bel_trans ?_ (by with_reducible assumption)))); have hq := ATB.bel hbq (by omega); have hr := FRB.bel hbq (by omega); have cvwBa : wBa.cell? ⟨g, o + j * 5 + 3, none⟩ = some (.int .i64 u) := ((hbq.cell (p := ⟨g, o + j * 5 + 3, none⟩) (by simp; omega)).trans cv); have hzq := hbq.size)
      (try go_wp2_with fail)
      refine hK.out _ _ ?_ (fun hHeld2 => ?_)
      · (try dsimp only); exact ⟨cvwBa, by omega⟩
      clear hK K hHeld
      have hHeld := hHeld2
      clear hHeld2
      try simp only [Act.put, List.setIfInBounds_toArray, List.set_cons_zero, List.set_cons_succ]
      have q0 : wBa.cell? ⟨(w4.heap.size + 1), 0, none⟩ = some (.int .i64 B.n) := hq.1
      have q1 : wBa.cell? ⟨(w4.heap.size + 1), 1, none⟩ = some (.int .i64 B.s) := hq.2.1
      have q2 : wBa.cell? ⟨(w4.heap.size + 1), 2, none⟩ = some (.int .i64 B.l) := hq.2.2.1
      have q3 : wBa.cell? ⟨(w4.heap.size + 1), 3, none⟩ = some (.int .i64 B.m) := hq.2.2.2
      have r0 : wBa.frozen? ⟨(w4.heap.size + 1), 0, none⟩ = false := hr.1
      have r1 : wBa.frozen? ⟨(w4.heap.size + 1), 1, none⟩ = false := hr.2.1
      have r2 : wBa.frozen? ⟨(w4.heap.size + 1), 2, none⟩ = false := hr.2.2.1
      have r3 : wBa.frozen? ⟨(w4.heap.size + 1), 3, none⟩ = false := hr.2.2.2
      refine wpAnyH_ready (rs := [11]) (by kernel_rfl) (by simp) ?_
      refine AllReadyH.cons (by simp only [List.getElem?_toArray, List.getElem?_cons_zero, List.getElem?_cons_succ]; rfl) (fun K hK => ?_) AllReadyH.nil
      go_simp
      refine hK.out _ _ ?_ (fun hHeld2 => ?_)
      · (try dsimp only); exact ⟨by rw [cell_set_ne (by simp; omega), cell_set_ne (by simp; omega), cell_set_ne (by simp; omega), cell_set_ne (by simp; omega)]; exact cvwBa, by simp; omega⟩
      clear hK K hHeld
      have hHeld := hHeld2
      clear hHeld2
      try simp only [Act.put, List.setIfInBounds_toArray, List.set_cons_zero, List.set_cons_succ]
      refine wpAnyH_done (by kernel_rfl) ?_ _
      have e9 : setAg wBa (w4.heap.size + 1) B2 = ((((wBa.setCell ⟨(w4.heap.size + 1), 0, none⟩ (.int .i64 B2.n)).setCell ⟨(w4.heap.size + 1), 1, none⟩ (.int .i64 B2.s)).setCell ⟨(w4.heap.size + 1), 2, none⟩ (.int .i64 B2.l)).setCell ⟨(w4.heap.size + 1), 3, none⟩ (.int .i64 B2.m)) := rfl
      rw [← e9]
      clear e9
      have ATB2 : AgAt (setAg wBa (w4.heap.size + 1) B2) (w4.heap.size + 1) B2 := setAg_this hq
      have FRB2 : AgFr (setAg wBa (w4.heap.size + 1) B2) (w4.heap.size + 1) := setAg_fr hr
      replace ATA2 : AgAt (setAg wBa (w4.heap.size + 1) B2) w4.heap.size A2 := setAg_ne (ATA2.bel hbq (by omega)) (by omega)
      replace FRA2 : AgFr (setAg wBa (w4.heap.size + 1) B2) w4.heap.size := setAg_fr (FRA2.bel hbq (by omega))
      replace ATC : AgAt (setAg wBa (w4.heap.size + 1) B2) (w4.heap.size + 1 + 1) C := setAg_ne (ATC.bel hbq (by omega)) (by omega)
      replace FRC : AgFr (setAg wBa (w4.heap.size + 1) B2) (w4.heap.size + 1 + 1) := setAg_fr (FRC.bel hbq (by omega))
      have hbwB : Below w4.heap.size w4 (setAg wBa (w4.heap.size + 1) B2) := setAg_below (hbwA.trans (hbq.mono (by omega))) (by omega)
      have hzwB : w4.heap.size + 1 + 1 < (setAg wBa (w4.heap.size + 1) B2).heap.size := by rw [setAg_size]; omega
      generalize setAg wBa (w4.heap.size + 1) B2 = wB at *
      clear hHeld hp hq hr p0 p1 p2 p3 q0 q1 q2 q3 r0 r1 r2 r3 cv cvwBa ATB FRB
      have hIA2 : Hid (IsAg A2 ((rs.map It.v).take (k + 1))) := hide (by rw [unhide hA2]; exact (unhide hIA).step (unhide HV) (unhide hsm))
      have hIB2 : Hid (IsAg B2 ((rs.map It.v).reverse.take (k + 1))) := hide (by rw [unhide hB2]; exact (unhide hIB).step (rev_at (by simpa using hlt) (by rw [List.length_map, ← unhide hj]; exact unhide HU)) (unhide hsm).rev)
      clear hw1 hw2 hw3 hIA hIB hA2 hB2
      by_cases hki : k < i0
      · have hkiI : (k : Int) < (i0 : Int) := by omega
        have cv : wB.cell? ⟨g, o + k * 5 + 3, none⟩ = some (.int .i64 v) := (hbwB.cell (p := ⟨g, o + k * 5 + 3, none⟩) hg).trans (unhide cv0)
        go_wp2_with fail
        obtain ⟨C2, hC2⟩ : ∃ C2, Hid (C2 = C.add v) := ⟨_, hide rfl⟩
        have hp := ATC
        have p0 : wB.cell? ⟨(w4.heap.size + 1 + 1), 0, none⟩ = some (.int .i64 C.n) := hp.1
        have p1 : wB.cell? ⟨(w4.heap.size + 1 + 1), 1, none⟩ = some (.int .i64 C.s) := hp.2.1
        have p2 : wB.cell? ⟨(w4.heap.size + 1 + 1), 2, none⟩ = some (.int .i64 C.l) := hp.2.2.1
        have p3 : wB.cell? ⟨(w4.heap.size + 1 + 1), 3, none⟩ = some (.int .i64 C.m) := hp.2.2.2
        refine wp_region_held_drew (S := (fun W => W.cell? ⟨g, o + k * 5 + 3, none⟩ = some (.int .i64 v) ∧ w4.heap.size + 1 + 1 < W.heap.size)) (by kernel_rfl) ?_ (fun hHeld => ?_)
        · (try dsimp only); exact ⟨cv, by first | omega | (simp; omega)⟩
        refine wpAnyH_take (i := 1) (v := ?_) (by simp only [List.getElem?_toArray, List.getElem?_cons_zero, List.getElem?_cons_succ]; rfl) (by kernel_rfl) (by kernel_rfl) (by kernel_rfl) (by intro _ _ _ h; exact h) (Or.inl ⟨by rfl, ?_⟩) (by assumption) ?_
        rotate_left
        · (intro w9 hSw; (try dsimp only at hSw); go_simp <;> with_reducible rfl)
        try simp only [Act.put, List.setIfInBounds_toArray, List.set_cons_zero, List.set_cons_succ]
        refine wpAnyH_take (i := 2) (v := ?_) (by simp only [List.getElem?_toArray, List.getElem?_cons_zero, List.getElem?_cons_succ]; rfl) (by kernel_rfl) (by kernel_rfl) (by kernel_rfl) (by intro _ _ _ h; exact h) (Or.inl ⟨by rfl, ?_⟩) (by assumption) ?_
        rotate_left
        · (intro w9 hSw; (try dsimp only at hSw); go_simp <;> with_reducible rfl)
        try simp only [Act.put, List.setIfInBounds_toArray, List.set_cons_zero, List.set_cons_succ]
        refine wpAnyH_take (i := 3) (v := ?_) (by simp only [List.getElem?_toArray, List.getElem?_cons_zero, List.getElem?_cons_succ]; rfl) (by kernel_rfl) (by kernel_rfl) (by kernel_rfl) (by intro _ _ _ h; exact h) (Or.inl ⟨by rfl, ?_⟩) (by assumption) ?_
        rotate_left
        · (intro w9 hSw; (try dsimp only at hSw); go_simp <;> with_reducible rfl)
        try simp only [Act.put, List.setIfInBounds_toArray, List.set_cons_zero, List.set_cons_succ]
        refine wpAnyH_take (i := 4) (v := ?_) (by simp only [List.getElem?_toArray, List.getElem?_cons_zero, List.getElem?_cons_succ]; rfl) (by kernel_rfl) (by kernel_rfl) (by kernel_rfl) (by intro _ _ _ h; exact h) (Or.inl ⟨by rfl, ?_⟩) (by assumption) ?_
        rotate_left
        · (intro w9 hSw; (try dsimp only at hSw); go_simp <;> with_reducible rfl)
        try simp only [Act.put, List.setIfInBounds_toArray, List.set_cons_zero, List.set_cons_succ]
        refine wpAnyH_take (i := 5) (v := ?_) (by simp only [List.getElem?_toArray, List.getElem?_cons_zero, List.getElem?_cons_succ]; rfl) (by kernel_rfl) (by kernel_rfl) (by kernel_rfl) (by intro _ _ _ h; exact h) (Or.inl ⟨by rfl, ?_⟩) (by assumption) ?_
        rotate_left
        · (intro w9 hSw; (try dsimp only at hSw); go_simp <;> with_reducible rfl)
        try simp only [Act.put, List.setIfInBounds_toArray, List.set_cons_zero, List.set_cons_succ]
        refine wpAnyH_ready (rs := [0]) (by kernel_rfl) (by simp) ?_
        refine AllReadyH.cons (by simp only [List.getElem?_toArray, List.getElem?_cons_zero, List.getElem?_cons_succ]; rfl) (fun K hK => ?_) AllReadyH.nil
        go_simp
        refine hK.out _ _ ?_ (fun hHeld2 => ?_)
        · (try dsimp only); exact hHeld
        clear hK K hHeld
        have hHeld := hHeld2
        clear hHeld2
        try simp only [Act.put, List.setIfInBounds_toArray, List.set_cons_zero, List.set_cons_succ]
        refine wpAnyH_ready (rs := [6]) (by kernel_rfl) (by simp) ?_
        refine AllReadyH.cons (by simp only [List.getElem?_toArray, List.getElem?_cons_zero, List.getElem?_cons_succ]; rfl) (fun K hK => ?_) AllReadyH.nil
        go_simp
        (go_at_call 13; (with_reducible refine (impladdG C C2 v (unhide hC2) _).mono ?_); rintro e wCa ⟨rfl, hbwCa⟩; have hbq : Below wB.heap.size wB wCa := (by repeat (first | (with_reducible exact Below.refl _ _) | (with_reducible assumption) | (with_reducible refine bel_set ?_ (by first | (simp; done) | (simp; omega)) _) | (with_reducible refine bel_alloc ?_ _) | (with_reducible refine bel_drew ?_) | (with_reducible refine bel_drewN ?_ _) | (with_reducible refine bel_trans ?_ (by with_reducible assumption)))); have hq := ATC.bel hbq (by omega); have hr := FRC.bel hbq (by omega); have cvwCa : wCa.cell? ⟨g, o + k * 5 + 3, none⟩ = some (.int .i64 v) := ((hbq.cell (p := ⟨g, o + k * 5 + 3, none⟩) (by simp; omega)).trans cv); have hzq := hbq.size)
        (try go_wp2_with fail)
        refine hK.out _ _ ?_ (fun hHeld2 => ?_)
        · (try dsimp only); exact ⟨cvwCa, by omega⟩
        clear hK K hHeld
        have hHeld := hHeld2
        clear hHeld2
        try simp only [Act.put, List.setIfInBounds_toArray, List.set_cons_zero, List.set_cons_succ]
        have q0 : wCa.cell? ⟨(w4.heap.size + 1 + 1), 0, none⟩ = some (.int .i64 C.n) := hq.1
        have q1 : wCa.cell? ⟨(w4.heap.size + 1 + 1), 1, none⟩ = some (.int .i64 C.s) := hq.2.1
        have q2 : wCa.cell? ⟨(w4.heap.size + 1 + 1), 2, none⟩ = some (.int .i64 C.l) := hq.2.2.1
        have q3 : wCa.cell? ⟨(w4.heap.size + 1 + 1), 3, none⟩ = some (.int .i64 C.m) := hq.2.2.2
        have r0 : wCa.frozen? ⟨(w4.heap.size + 1 + 1), 0, none⟩ = false := hr.1
        have r1 : wCa.frozen? ⟨(w4.heap.size + 1 + 1), 1, none⟩ = false := hr.2.1
        have r2 : wCa.frozen? ⟨(w4.heap.size + 1 + 1), 2, none⟩ = false := hr.2.2.1
        have r3 : wCa.frozen? ⟨(w4.heap.size + 1 + 1), 3, none⟩ = false := hr.2.2.2
        refine wpAnyH_ready (rs := [7]) (by kernel_rfl) (by simp) ?_
        refine AllReadyH.cons (by simp only [List.getElem?_toArray, List.getElem?_cons_zero, List.getElem?_cons_succ]; rfl) (fun K hK => ?_) AllReadyH.nil
        go_simp
        refine hK.out _ _ ?_ (fun hHeld2 => ?_)
        · (try dsimp only); exact ⟨by rw [cell_set_ne (by simp; omega), cell_set_ne (by simp; omega), cell_set_ne (by simp; omega), cell_set_ne (by simp; omega)]; exact cvwCa, by simp; omega⟩
        clear hK K hHeld
        have hHeld := hHeld2
        clear hHeld2
        try simp only [Act.put, List.setIfInBounds_toArray, List.set_cons_zero, List.set_cons_succ]
        refine wpAnyH_done (by kernel_rfl) ?_ _
        have e9 : setAg wCa (w4.heap.size + 1 + 1) C2 = ((((wCa.setCell ⟨(w4.heap.size + 1 + 1), 0, none⟩ (.int .i64 C2.n)).setCell ⟨(w4.heap.size + 1 + 1), 1, none⟩ (.int .i64 C2.s)).setCell ⟨(w4.heap.size + 1 + 1), 2, none⟩ (.int .i64 C2.l)).setCell ⟨(w4.heap.size + 1 + 1), 3, none⟩ (.int .i64 C2.m)) := rfl
        rw [← e9]
        clear e9
        have ATC2 : AgAt (setAg wCa (w4.heap.size + 1 + 1) C2) (w4.heap.size + 1 + 1) C2 := setAg_this hq
        have FRC2 : AgFr (setAg wCa (w4.heap.size + 1 + 1) C2) (w4.heap.size + 1 + 1) := setAg_fr hr
        replace ATA2 : AgAt (setAg wCa (w4.heap.size + 1 + 1) C2) w4.heap.size A2 := setAg_ne (ATA2.bel hbq (by omega)) (by omega)
        replace FRA2 : AgFr (setAg wCa (w4.heap.size + 1 + 1) C2) w4.heap.size := setAg_fr (FRA2.bel hbq (by omega))
        replace ATB2 : AgAt (setAg wCa (w4.heap.size + 1 + 1) C2) (w4.heap.size + 1) B2 := setAg_ne (ATB2.bel hbq (by omega)) (by omega)
        replace FRB2 : AgFr (setAg wCa (w4.heap.size + 1 + 1) C2) (w4.heap.size + 1) := setAg_fr (FRB2.bel hbq (by omega))
        have hbwC : Below w4.heap.size w4 (setAg wCa (w4.heap.size + 1 + 1) C2) := setAg_below (hbwB.trans (hbq.mono (by omega))) (by omega)
        have hzwC : w4.heap.size + 1 + 1 < (setAg wCa (w4.heap.size + 1 + 1) C2).heap.size := by rw [setAg_size]; omega
        generalize setAg wCa (w4.heap.size + 1 + 1) C2 = wC at *
        clear hHeld hp hq hr p0 p1 p2 p3 q0 q1 q2 q3 r0 r1 r2 r3 cv cvwCa ATC FRC
        have hIC2 : Hid (IsAg C2 ((rs.map It.v).take (min (k + 1) i0))) := hide (by rw [unhide hC2, show min (k + 1) i0 = k + 1 by omega]; refine IsAg.step ?_ (unhide HV) (unhide hsm); have h9 := unhide hIC; rwa [show min k i0 = k by omega] at h9)
        go_wp2
        go_roundw
        case rel => exact ⟨k + 1, A2, B2, C2, by omega, by go_num, ATA2, ATB2, ATC2, FRA2, FRB2, FRC2, hIA2, hIB2, hIC2, hbwC, hzwC⟩
        case measure => simp [intOf]; omega
      · have hkiI : ¬ (k : Int) < (i0 : Int) := by omega
        have hIC2 : Hid (IsAg C ((rs.map It.v).take (min (k + 1) i0))) := hide (by have h9 := unhide hIC; rwa [show min k i0 = min (k + 1) i0 by omega] at h9)
        go_wp2
        go_roundw
        case rel => exact ⟨k + 1, A2, B2, C, by omega, by go_num, ATA2, ATB2, ATC, FRA2, FRB2, FRC, hIA2, hIB2, hIC2, hbwB, hzwB⟩
        case measure => simp [intOf]; omega
    · obtain rfl : k = rs.length := by omega
      have hA := hide (show IsAg A (rs.map It.v) by have h9 := unhide hIA; rwa [List.take_of_length_le (by simp)] at h9)
      have hB := hide (show IsAg B (rs.map It.v).reverse by have h9 := unhide hIB; rwa [List.take_of_length_le (by simp)] at h9)
      have hC := hide (show IsAg C ((rs.map It.v).take i0) by have h9 := unhide hIC; rwa [show min rs.length i0 = i0 by omega] at h9)
      obtain rfl : B = A := ((unhide hA).rev (unhide hB)).symm
      clear hIA hIB hIC hB FRA FRB FRC
      obtain ⟨wz, hwz⟩ : ∃ wz, wz = wr := ⟨_, rfl⟩
      subst hwz
      have hbwz := hbwr
      have hzwz := hzwr
      clear hbwr hzwr
      go_wp2
      go_loopw [12] (fun i w5 => ∃ (m : Nat) (D : Ag), i0 ≤ m ∧ m ≤ rs.length ∧ i = .int .i64 m ∧ AgAt w5 w4.heap.size B ∧ AgAt w5 (w4.heap.size + 1) B ∧ AgAt w5 (w4.heap.size + 1 + 1) C ∧ AgAt w5 wz.heap.size D ∧ AgFr w5 wz.heap.size ∧ Hid (IsAg D (((rs.map It.v).drop i0).take (m - i0))) ∧ Below w4.heap.size w4 w5 ∧ wz.heap.size < w5.heap.size) (fun i _ => rs.length - (intOf i).toNat)
      case atStart =>
        have hbx : Below wz.heap.size wz (wz.alloc (.cells #[.int .i64 0, .int .i64 0, .int .i64 0, .int .i64 0] 32)) := bel_one _ _
        refine ⟨i0, ⟨0, 0, 0, 0⟩, Nat.le_refl _, hil, by go_num, ATA.bel hbx (by omega), ATB.bel hbx (by omega), ATC.bel hbx (by omega), ?_, ?_, hide (by simpa using IsAg.nil), hbwz.trans (hbx.mono (by omega)), by simp⟩
        all_goals (refine ⟨?_, ?_, ?_, ?_⟩ <;> simp [go_sem])
      case round =>
        obtain ⟨m, D, hm1, hm2, rfl, AT0, AT1, AT2, ATD, FRD, hID, hbwr, hzwr⟩ := hrel
        by_cases hlt2 : m < rs.length
        · obtain ⟨hl9, hm9, hx⟩ := hX
          obtain ⟨g, o, rfl, hr⟩ := hx.resolve_left (by omega)
          have hg : g < w4.heap.size := hr.lt (by omega)
          obtain ⟨v, hv⟩ : ∃ v, (rs.map It.v)[m]? = some v := ⟨_, List.getElem?_eq_getElem (by simpa using hlt2)⟩
          have HV := hide hv
          have cv : wr.cell? ⟨g, o + m * 5 + 3, none⟩ = some (.int .i64 v) := (hbwr.cell (p := ⟨g, o + m * 5 + 3, none⟩) hg).trans (its_v hr hv)
          clear hx hr hv
          go_wp2_with fail
          obtain ⟨D2, hD2⟩ : ∃ D2, Hid (D2 = D.add v) := ⟨_, hide rfl⟩
          have hp := ATD
          have p0 : wr.cell? ⟨wz.heap.size, 0, none⟩ = some (.int .i64 D.n) := hp.1
          have p1 : wr.cell? ⟨wz.heap.size, 1, none⟩ = some (.int .i64 D.s) := hp.2.1
          have p2 : wr.cell? ⟨wz.heap.size, 2, none⟩ = some (.int .i64 D.l) := hp.2.2.1
          have p3 : wr.cell? ⟨wz.heap.size, 3, none⟩ = some (.int .i64 D.m) := hp.2.2.2
          refine wp_region_held_drew (S := (fun W => W.cell? ⟨g, o + m * 5 + 3, none⟩ = some (.int .i64 v) ∧ wz.heap.size < W.heap.size)) (by kernel_rfl) ?_ (fun hHeld => ?_)
          · (try dsimp only); exact ⟨cv, by first | omega | (simp; omega)⟩
          refine wpAnyH_take (i := 1) (v := ?_) (by simp only [List.getElem?_toArray, List.getElem?_cons_zero, List.getElem?_cons_succ]; rfl) (by kernel_rfl) (by kernel_rfl) (by kernel_rfl) (by intro _ _ _ h; exact h) (Or.inl ⟨by rfl, ?_⟩) (by assumption) ?_
          rotate_left
          · (intro w9 hSw; (try dsimp only at hSw); go_simp <;> with_reducible rfl)
          try simp only [Act.put, List.setIfInBounds_toArray, List.set_cons_zero, List.set_cons_succ]
          refine wpAnyH_take (i := 2) (v := ?_) (by simp only [List.getElem?_toArray, List.getElem?_cons_zero, List.getElem?_cons_succ]; rfl) (by kernel_rfl) (by kernel_rfl) (by kernel_rfl) (by intro _ _ _ h; exact h) (Or.inl ⟨by rfl, ?_⟩) (by assumption) ?_
          rotate_left
          · (intro w9 hSw; (try dsimp only at hSw); go_simp <;> with_reducible rfl)
          try simp only [Act.put, List.setIfInBounds_toArray, List.set_cons_zero, List.set_cons_succ]
          refine wpAnyH_take (i := 3) (v := ?_) (by simp only [List.getElem?_toArray, List.getElem?_cons_zero, List.getElem?_cons_succ]; rfl) (by kernel_rfl) (by kernel_rfl) (by kernel_rfl) (by intro _ _ _ h; exact h) (Or.inl ⟨by rfl, ?_⟩) (by assumption) ?_
          rotate_left
          · (intro w9 hSw; (try dsimp only at hSw); go_simp <;> with_reducible rfl)
          try simp only [Act.put, List.setIfInBounds_toArray, List.set_cons_zero, List.set_cons_succ]
          refine wpAnyH_take (i := 4) (v := ?_) (by simp only [List.getElem?_toArray, List.getElem?_cons_zero, List.getElem?_cons_succ]; rfl) (by kernel_rfl) (by kernel_rfl) (by kernel_rfl) (by intro _ _ _ h; exact h) (Or.inl ⟨by rfl, ?_⟩) (by assumption) ?_
          rotate_left
          · (intro w9 hSw; (try dsimp only at hSw); go_simp <;> with_reducible rfl)
          try simp only [Act.put, List.setIfInBounds_toArray, List.set_cons_zero, List.set_cons_succ]
          refine wpAnyH_take (i := 5) (v := ?_) (by simp only [List.getElem?_toArray, List.getElem?_cons_zero, List.getElem?_cons_succ]; rfl) (by kernel_rfl) (by kernel_rfl) (by kernel_rfl) (by intro _ _ _ h; exact h) (Or.inl ⟨by rfl, ?_⟩) (by assumption) ?_
          rotate_left
          · (intro w9 hSw; (try dsimp only at hSw); go_simp <;> with_reducible rfl)
          try simp only [Act.put, List.setIfInBounds_toArray, List.set_cons_zero, List.set_cons_succ]
          refine wpAnyH_ready (rs := [0]) (by kernel_rfl) (by simp) ?_
          refine AllReadyH.cons (by simp only [List.getElem?_toArray, List.getElem?_cons_zero, List.getElem?_cons_succ]; rfl) (fun K hK => ?_) AllReadyH.nil
          go_simp
          refine hK.out _ _ ?_ (fun hHeld2 => ?_)
          · (try dsimp only); exact hHeld
          clear hK K hHeld
          have hHeld := hHeld2
          clear hHeld2
          try simp only [Act.put, List.setIfInBounds_toArray, List.set_cons_zero, List.set_cons_succ]
          refine wpAnyH_ready (rs := [6]) (by kernel_rfl) (by simp) ?_
          refine AllReadyH.cons (by simp only [List.getElem?_toArray, List.getElem?_cons_zero, List.getElem?_cons_succ]; rfl) (fun K hK => ?_) AllReadyH.nil
          go_simp
          (go_at_call 13; (with_reducible refine (impladdG D D2 v (unhide hD2) _).mono ?_); rintro e w6a ⟨rfl, hbw6a⟩; have hbq : Below wr.heap.size wr w6a := (by repeat (first | (with_reducible exact Below.refl _ _) | (with_reducible assumption) | (with_reducible refine bel_set ?_ (by first | (simp; done) | (simp; omega)) _) | (with_reducible refine bel_alloc ?_ _) | (with_reducible refine bel_drew ?_) | (with_reducible refine bel_drewN ?_ _) | (with_reducible refine bel_trans ?_ (by with_reducible assumption)))); have hq := ATD.bel hbq (by omega); have hr := FRD.bel hbq (by omega); have cvw6a : w6a.cell? ⟨g, o + m * 5 + 3, none⟩ = some (.int .i64 v) := ((hbq.cell (p := ⟨g, o + m * 5 + 3, none⟩) (by simp; omega)).trans cv); have hzq := hbq.size)
          (try go_wp2_with fail)
          refine hK.out _ _ ?_ (fun hHeld2 => ?_)
          · (try dsimp only); exact ⟨cvw6a, by omega⟩
          clear hK K hHeld
          have hHeld := hHeld2
          clear hHeld2
          try simp only [Act.put, List.setIfInBounds_toArray, List.set_cons_zero, List.set_cons_succ]
          have q0 : w6a.cell? ⟨wz.heap.size, 0, none⟩ = some (.int .i64 D.n) := hq.1
          have q1 : w6a.cell? ⟨wz.heap.size, 1, none⟩ = some (.int .i64 D.s) := hq.2.1
          have q2 : w6a.cell? ⟨wz.heap.size, 2, none⟩ = some (.int .i64 D.l) := hq.2.2.1
          have q3 : w6a.cell? ⟨wz.heap.size, 3, none⟩ = some (.int .i64 D.m) := hq.2.2.2
          have r0 : w6a.frozen? ⟨wz.heap.size, 0, none⟩ = false := hr.1
          have r1 : w6a.frozen? ⟨wz.heap.size, 1, none⟩ = false := hr.2.1
          have r2 : w6a.frozen? ⟨wz.heap.size, 2, none⟩ = false := hr.2.2.1
          have r3 : w6a.frozen? ⟨wz.heap.size, 3, none⟩ = false := hr.2.2.2
          refine wpAnyH_ready (rs := [7]) (by kernel_rfl) (by simp) ?_
          refine AllReadyH.cons (by simp only [List.getElem?_toArray, List.getElem?_cons_zero, List.getElem?_cons_succ]; rfl) (fun K hK => ?_) AllReadyH.nil
          go_simp
          refine hK.out _ _ ?_ (fun hHeld2 => ?_)
          · (try dsimp only); exact ⟨by rw [cell_set_ne (by simp; omega), cell_set_ne (by simp; omega), cell_set_ne (by simp; omega), cell_set_ne (by simp; omega)]; exact cvw6a, by simp; omega⟩
          clear hK K hHeld
          have hHeld := hHeld2
          clear hHeld2
          try simp only [Act.put, List.setIfInBounds_toArray, List.set_cons_zero, List.set_cons_succ]
          refine wpAnyH_done (by kernel_rfl) ?_ _
          have e9 : setAg w6a wz.heap.size D2 = ((((w6a.setCell ⟨wz.heap.size, 0, none⟩ (.int .i64 D2.n)).setCell ⟨wz.heap.size, 1, none⟩ (.int .i64 D2.s)).setCell ⟨wz.heap.size, 2, none⟩ (.int .i64 D2.l)).setCell ⟨wz.heap.size, 3, none⟩ (.int .i64 D2.m)) := rfl
          rw [← e9]
          clear e9
          have ATD2 : AgAt (setAg w6a wz.heap.size D2) wz.heap.size D2 := setAg_this hq
          have FRD2 : AgFr (setAg w6a wz.heap.size D2) wz.heap.size := setAg_fr hr
          have hbw6 : Below w4.heap.size w4 (setAg w6a wz.heap.size D2) := setAg_below (hbwr.trans (hbq.mono (by omega))) (by omega)
          have hzw6 : wz.heap.size < (setAg w6a wz.heap.size D2).heap.size := by rw [setAg_size]; omega
          have AT0' := setAg_ne (b := wz.heap.size) (a' := D2) (AT0.bel hbq (by omega)) (by omega)
          have AT1' := setAg_ne (b := wz.heap.size) (a' := D2) (AT1.bel hbq (by omega)) (by omega)
          have AT2' := setAg_ne (b := wz.heap.size) (a' := D2) (AT2.bel hbq (by omega)) (by omega)
          generalize setAg w6a wz.heap.size D2 = w6 at *
          clear hHeld hp hq hr p0 p1 p2 p3 q0 q1 q2 q3 r0 r1 r2 r3 cv cvw6a ATD FRD
          have hID2 : Hid (IsAg D2 (((rs.map It.v).drop i0).take (m + 1 - i0))) := hide (by rw [unhide hD2, show m + 1 - i0 = m - i0 + 1 by omega]; refine IsAg.step (unhide hID) ?_ ((unhide hsm).drop _); rw [List.getElem?_drop, show i0 + (m - i0) = m by omega]; exact unhide HV)
          go_wp2
          go_roundw
          case rel => exact ⟨m + 1, D2, by omega, by omega, by go_num, AT0', AT1', AT2', ATD2, FRD2, hID2, hbw6, hzw6⟩
          case measure => simp [intOf]; omega
        · obtain rfl : m = rs.length := by omega
          have hD := show IsAg D ((rs.map It.v).drop i0) by have h9 := unhide hID; rwa [List.take_of_length_le (by simp)] at h9
          have hJ := (unhide hC).join hD (by rw [List.take_append_drop]; exact unhide hsm)
          rw [List.take_append_drop] at hJ
          have hE := hide ((unhide hA).same hJ rfl rfl (fun v => Iff.rfl))
          have hN := hide (unhide hA).n
          have hO := hide ((unhide hA).snoc (v := 1) (show Sm ((rs.map It.v) ++ [1]) from ⟨by simp; omega, fun v hv => by rcases List.mem_append.1 hv with h9 | h9; exact (unhide hsm).2 v h9; simp at h9; omega⟩)).n
          clear hD hJ hID hA hC FRD hsm
          obtain ⟨E, hE2⟩ : ∃ E, Hid (E = B.add 1) := ⟨_, hide rfl⟩
          have hN' : (B.n == (rs.length : Int)) = true := by rw [unhide hN]; simp
          have hO' : (E.n == (rs.length : Int) + 1) = true := by rw [unhide hE2, unhide hO]; simp
          have hw1 : IntKind.i64.wrap ((rs.length : Int) + 1) = (rs.length : Int) + 1 := IntWalk.i64_in _ (by omega)
          go_wp2_with fail
          refine wp_region_held_drew (S := (fun W => AgAt W w4.heap.size B ∧ AgAt W (w4.heap.size + 1) B ∧ AgAt W (w4.heap.size + 1 + 1) C ∧ AgAt W wz.heap.size D ∧ wz.heap.size < W.heap.size)) (by kernel_rfl) ?_ (fun hHeld => ?_)
          · (try dsimp only); exact ⟨AT0, AT1, AT2, ATD, by first | omega | (simp; omega)⟩
          refine wpAnyH_take (i := 0) (v := ?_) (by simp only [List.getElem?_toArray, List.getElem?_cons_zero, List.getElem?_cons_succ]; rfl) (by kernel_rfl) (by kernel_rfl) (by kernel_rfl) (by intro _ _ _ h; exact h) (Or.inl ⟨by rfl, ?_⟩) (by assumption) ?_
          rotate_left
          · (intro w9 hSw; (try simp only [AgAt] at hSw); go_simp <;> with_reducible rfl)
          try simp only [Act.put, List.setIfInBounds_toArray, List.set_cons_zero, List.set_cons_succ]
          refine wpAnyH_take (i := 1) (v := ?_) (by simp only [List.getElem?_toArray, List.getElem?_cons_zero, List.getElem?_cons_succ]; rfl) (by kernel_rfl) (by kernel_rfl) (by kernel_rfl) (by intro _ _ _ h; exact h) (Or.inl ⟨by rfl, ?_⟩) (by assumption) ?_
          rotate_left
          · (intro w9 hSw; (try simp only [AgAt] at hSw); go_simp <;> with_reducible rfl)
          try simp only [Act.put, List.setIfInBounds_toArray, List.set_cons_zero, List.set_cons_succ]
          refine wpAnyH_take (i := 2) (v := ?_) (by simp only [List.getElem?_toArray, List.getElem?_cons_zero, List.getElem?_cons_succ]; rfl) (by kernel_rfl) (by kernel_rfl) (by kernel_rfl) (by intro _ _ _ h; exact h) (Or.inl ⟨by rfl, ?_⟩) (by assumption) ?_
          rotate_left
          · (intro w9 hSw; (try simp only [AgAt] at hSw); go_simp <;> with_reducible rfl)
          try simp only [Act.put, List.setIfInBounds_toArray, List.set_cons_zero, List.set_cons_succ]
          refine wpAnyH_take (i := 3) (v := ?_) (by simp only [List.getElem?_toArray, List.getElem?_cons_zero, List.getElem?_cons_succ]; rfl) (by kernel_rfl) (by kernel_rfl) (by kernel_rfl) (by intro _ _ _ h; exact h) (Or.inl ⟨by rfl, ?_⟩) (by assumption) ?_
          rotate_left
          · (intro w9 hSw; (try simp only [AgAt] at hSw); go_simp <;> with_reducible rfl)
          try simp only [Act.put, List.setIfInBounds_toArray, List.set_cons_zero, List.set_cons_succ]
          refine wpAnyH_take (i := 4) (v := ?_) (by simp only [List.getElem?_toArray, List.getElem?_cons_zero, List.getElem?_cons_succ]; rfl) (by kernel_rfl) (by kernel_rfl) (by kernel_rfl) (by intro _ _ _ h; exact h) (Or.inl ⟨by rfl, ?_⟩) (by assumption) ?_
          rotate_left
          · (intro w9 hSw; (try simp only [AgAt] at hSw); go_simp <;> with_reducible rfl)
          try simp only [Act.put, List.setIfInBounds_toArray, List.set_cons_zero, List.set_cons_succ]
          refine wpAnyH_take (i := 5) (v := ?_) (by simp only [List.getElem?_toArray, List.getElem?_cons_zero, List.getElem?_cons_succ]; rfl) (by kernel_rfl) (by kernel_rfl) (by kernel_rfl) (by intro _ _ _ h; exact h) (Or.inl ⟨by rfl, ?_⟩) (by assumption) ?_
          rotate_left
          · (intro w9 hSw; (try simp only [AgAt] at hSw); go_simp <;> with_reducible rfl)
          try simp only [Act.put, List.setIfInBounds_toArray, List.set_cons_zero, List.set_cons_succ]
          refine wpAnyH_take (i := 6) (v := ?_) (by simp only [List.getElem?_toArray, List.getElem?_cons_zero, List.getElem?_cons_succ]; rfl) (by kernel_rfl) (by kernel_rfl) (by kernel_rfl) (by intro _ _ _ h; exact h) (Or.inl ⟨by rfl, ?_⟩) (by assumption) ?_
          rotate_left
          · (intro w9 hSw; (try simp only [AgAt] at hSw); go_simp <;> with_reducible rfl)
          try simp only [Act.put, List.setIfInBounds_toArray, List.set_cons_zero, List.set_cons_succ]
          refine wpAnyH_ready (rs := [7]) (by kernel_rfl) (by simp) ?_
          refine AllReadyH.cons (by simp only [List.getElem?_toArray, List.getElem?_cons_zero, List.getElem?_cons_succ]; rfl) (fun K hK => ?_) AllReadyH.nil
          go_simp
          (go_at_call 14; (with_reducible refine (implbothG C D B (unhide hE) _).mono ?_); rintro e y1 ⟨rfl, hby1⟩; have hq1 : Below wr.heap.size wr y1 := (by repeat (first | (with_reducible exact Below.refl _ _) | (with_reducible assumption) | (with_reducible refine bel_set ?_ (by first | (simp; done) | (simp; omega)) _) | (with_reducible refine bel_alloc ?_ _) | (with_reducible refine bel_drew ?_) | (with_reducible refine bel_drewN ?_ _) | (with_reducible refine bel_trans ?_ (by with_reducible assumption)))); have hz1 := hq1.size)
          (try go_wp2_with fail)
          refine hK.out _ _ ?_ (fun hHeld2 => ?_)
          · (try dsimp only); exact ⟨AT0.bel hq1 (by omega), AT1.bel hq1 (by omega), AT2.bel hq1 (by omega), ATD.bel hq1 (by omega), by have h9 := hq1.size; omega⟩
          clear hK K hHeld
          have hHeld := hHeld2
          clear hHeld2
          try simp only [Act.put, List.setIfInBounds_toArray, List.set_cons_zero, List.set_cons_succ]
          refine wpAnyH_take (i := 8) (v := ?_) (by simp only [List.getElem?_toArray, List.getElem?_cons_zero, List.getElem?_cons_succ]; rfl) (by kernel_rfl) (by kernel_rfl) (by kernel_rfl) (by intro _ _ _ h; exact h) (Or.inl ⟨by rfl, ?_⟩) (by assumption) ?_
          rotate_left
          · (intro w9 hSw; (try simp only [AgAt] at hSw); go_simp <;> with_reducible rfl)
          try simp only [Act.put, List.setIfInBounds_toArray, List.set_cons_zero, List.set_cons_succ]
          refine wpAnyH_take (i := 9) (v := ?_) (by simp only [List.getElem?_toArray, List.getElem?_cons_zero, List.getElem?_cons_succ]; rfl) (by kernel_rfl) (by kernel_rfl) (by kernel_rfl) (by intro _ _ _ h; exact h) (Or.inl ⟨by rfl, ?_⟩) (by assumption) ?_
          rotate_left
          · (intro w9 hSw; (try simp only [AgAt] at hSw); go_simp <;> with_reducible rfl)
          try simp only [Act.put, List.setIfInBounds_toArray, List.set_cons_zero, List.set_cons_succ]
          refine wpAnyH_take (i := 10) (v := ?_) (by simp only [List.getElem?_toArray, List.getElem?_cons_zero, List.getElem?_cons_succ]; rfl) (by kernel_rfl) (by kernel_rfl) (by kernel_rfl) (by intro _ _ _ h; exact h) (Or.inl ⟨by rfl, ?_⟩) (by assumption) ?_
          rotate_left
          · (intro w9 hSw; (try simp only [AgAt] at hSw); go_simp <;> with_reducible rfl)
          try simp only [Act.put, List.setIfInBounds_toArray, List.set_cons_zero, List.set_cons_succ]
          refine wpAnyH_take (i := 11) (v := ?_) (by simp only [List.getElem?_toArray, List.getElem?_cons_zero, List.getElem?_cons_succ]; rfl) (by kernel_rfl) (by kernel_rfl) (by kernel_rfl) (by intro _ _ _ h; exact h) (Or.inl ⟨by rfl, ?_⟩) (by assumption) ?_
          rotate_left
          · (intro w9 hSw; (try simp only [AgAt] at hSw); go_simp <;> with_reducible rfl)
          try simp only [Act.put, List.setIfInBounds_toArray, List.set_cons_zero, List.set_cons_succ]
          refine wpAnyH_take (i := 12) (v := ?_) (by simp only [List.getElem?_toArray, List.getElem?_cons_zero, List.getElem?_cons_succ]; rfl) (by kernel_rfl) (by kernel_rfl) (by kernel_rfl) (by intro _ _ _ h; exact h) (Or.inl ⟨by rfl, ?_⟩) (by assumption) ?_
          rotate_left
          · (intro w9 hSw; (try simp only [AgAt] at hSw); go_simp <;> with_reducible rfl)
          try simp only [Act.put, List.setIfInBounds_toArray, List.set_cons_zero, List.set_cons_succ]
          refine wpAnyH_take (i := 13) (v := ?_) (by simp only [List.getElem?_toArray, List.getElem?_cons_zero, List.getElem?_cons_succ]; rfl) (by kernel_rfl) (by kernel_rfl) (by kernel_rfl) (by intro _ _ _ h; exact h) (Or.inl ⟨by rfl, ?_⟩) (by assumption) ?_
          rotate_left
          · (intro w9 hSw; (try simp only [AgAt] at hSw); go_simp <;> with_reducible rfl)
          try simp only [Act.put, List.setIfInBounds_toArray, List.set_cons_zero, List.set_cons_succ]
          refine wpAnyH_take (i := 14) (v := ?_) (by simp only [List.getElem?_toArray, List.getElem?_cons_zero, List.getElem?_cons_succ]; rfl) (by kernel_rfl) (by kernel_rfl) (by kernel_rfl) (by intro _ _ _ h; exact h) (Or.inl ⟨by rfl, ?_⟩) (by assumption) ?_
          rotate_left
          · (intro w9 hSw; (try simp only [AgAt] at hSw); go_simp <;> with_reducible rfl)
          try simp only [Act.put, List.setIfInBounds_toArray, List.set_cons_zero, List.set_cons_succ]
          refine wpAnyH_take (i := 15) (v := ?_) (by simp only [List.getElem?_toArray, List.getElem?_cons_zero, List.getElem?_cons_succ]; rfl) (by kernel_rfl) (by kernel_rfl) (by kernel_rfl) (by intro _ _ _ h; exact h) (Or.inl ⟨by rfl, ?_⟩) (by assumption) ?_
          rotate_left
          · (intro w9 hSw; (try simp only [AgAt] at hSw); go_simp <;> with_reducible rfl)
          try simp only [Act.put, List.setIfInBounds_toArray, List.set_cons_zero, List.set_cons_succ]
          refine wpAnyH_take (i := 16) (v := ?_) (by simp only [List.getElem?_toArray, List.getElem?_cons_zero, List.getElem?_cons_succ]; rfl) (by kernel_rfl) (by kernel_rfl) (by kernel_rfl) (by intro _ _ _ h; exact h) (Or.inl ⟨by rfl, ?_⟩) (by assumption) ?_
          rotate_left
          · (intro w9 hSw; (try simp only [AgAt] at hSw); go_simp <;> with_reducible rfl)
          try simp only [Act.put, List.setIfInBounds_toArray, List.set_cons_zero, List.set_cons_succ]
          refine wpAnyH_take (i := 17) (v := ?_) (by simp only [List.getElem?_toArray, List.getElem?_cons_zero, List.getElem?_cons_succ]; rfl) (by kernel_rfl) (by kernel_rfl) (by kernel_rfl) (by intro _ _ _ h; exact h) (Or.inl ⟨by rfl, ?_⟩) (by assumption) ?_
          rotate_left
          · (intro w9 hSw; (try simp only [AgAt] at hSw); go_simp <;> with_reducible rfl)
          try simp only [Act.put, List.setIfInBounds_toArray, List.set_cons_zero, List.set_cons_succ]
          refine wpAnyH_take (i := 18) (v := ?_) (by simp only [List.getElem?_toArray, List.getElem?_cons_zero, List.getElem?_cons_succ]; rfl) (by kernel_rfl) (by kernel_rfl) (by kernel_rfl) (by intro _ _ _ h; exact h) (Or.inl ⟨by rfl, ?_⟩) (by assumption) ?_
          rotate_left
          · (intro w9 hSw; (try simp only [AgAt] at hSw); go_simp <;> with_reducible rfl)
          try simp only [Act.put, List.setIfInBounds_toArray, List.set_cons_zero, List.set_cons_succ]
          refine wpAnyH_take (i := 21) (v := ?_) (by simp only [List.getElem?_toArray, List.getElem?_cons_zero, List.getElem?_cons_succ]; rfl) (by kernel_rfl) (by kernel_rfl) (by kernel_rfl) (by intro _ _ _ h; exact h) (Or.inl ⟨by rfl, ?_⟩) (by assumption) ?_
          rotate_left
          · (intro w9 hSw; (try simp only [AgAt] at hSw); go_simp <;> with_reducible rfl)
          try simp only [Act.put, List.setIfInBounds_toArray, List.set_cons_zero, List.set_cons_succ]
          refine wpAnyH_take (i := 22) (v := ?_) (by simp only [List.getElem?_toArray, List.getElem?_cons_zero, List.getElem?_cons_succ]; rfl) (by kernel_rfl) (by kernel_rfl) (by kernel_rfl) (by intro _ _ _ h; exact h) (Or.inl ⟨by rfl, ?_⟩) (by assumption) ?_
          rotate_left
          · (intro w9 hSw; (try simp only [AgAt] at hSw); go_simp <;> with_reducible rfl)
          try simp only [Act.put, List.setIfInBounds_toArray, List.set_cons_zero, List.set_cons_succ]
          refine wpAnyH_take (i := 23) (v := ?_) (by simp only [List.getElem?_toArray, List.getElem?_cons_zero, List.getElem?_cons_succ]; rfl) (by kernel_rfl) (by kernel_rfl) (by kernel_rfl) (by intro _ _ _ h; exact h) (Or.inl ⟨by rfl, ?_⟩) (by assumption) ?_
          rotate_left
          · (intro w9 hSw; (try simp only [AgAt] at hSw); go_simp <;> with_reducible rfl)
          try simp only [Act.put, List.setIfInBounds_toArray, List.set_cons_zero, List.set_cons_succ]
          refine wpAnyH_ready (rs := [19]) (by kernel_rfl) (by simp) ?_
          refine AllReadyH.cons (by simp only [List.getElem?_toArray, List.getElem?_cons_zero, List.getElem?_cons_succ]; rfl) (fun K hK => ?_) AllReadyH.nil
          go_simp
          (go_at_call 13; (with_reducible refine (impladdG B E 1 (unhide hE2) _).mono ?_); rintro e y2 ⟨rfl, hq2⟩; have hz2 := hq2.size)
          (try go_wp2_with fail)
          refine hK.out _ _ ?_ (fun hHeld2 => ?_)
          · (try dsimp only); exact ⟨hHeld.1.bel hq2 (by omega), hHeld.2.1.bel hq2 (by omega), hHeld.2.2.1.bel hq2 (by omega), hHeld.2.2.2.1.bel hq2 (by omega), by have h9 := hq2.size; omega⟩
          clear hK K hHeld
          have hHeld := hHeld2
          clear hHeld2
          try simp only [Act.put, List.setIfInBounds_toArray, List.set_cons_zero, List.set_cons_succ]
          refine wpAnyH_ready (rs := [20]) (by kernel_rfl) (by simp) ?_
          refine AllReadyH.cons (by simp only [List.getElem?_toArray, List.getElem?_cons_zero, List.getElem?_cons_succ]; rfl) (fun K hK => ?_) AllReadyH.nil
          go_simp
          (go_at_call 15; (with_reducible refine (impltell_any _ _ _ _ 1 _).mono ?_); rw [show tellI E.n E.s E.l E.m 1 = E.n from rfl]; rintro e y3 ⟨rfl, hq3⟩; have hz3 := hq3.size; have hq1d : Below wr.heap.size wr y3 := bel_trans (bel_trans hq1 hq2) hq3)
          (try go_wp2_with fail)
          refine hK.out _ _ ?_ (fun hHeld2 => ?_)
          · (try dsimp only); exact ⟨hHeld.1.bel hq3 (by omega), hHeld.2.1.bel hq3 (by omega), hHeld.2.2.1.bel hq3 (by omega), hHeld.2.2.2.1.bel hq3 (by omega), by have h9 := hq3.size; omega⟩
          clear hK K hHeld
          have hHeld := hHeld2
          clear hHeld2
          try simp only [Act.put, List.setIfInBounds_toArray, List.set_cons_zero, List.set_cons_succ]
          refine wpAnyH_take (i := 24) (v := ?_) (by simp only [List.getElem?_toArray, List.getElem?_cons_zero, List.getElem?_cons_succ]; rfl) (by kernel_rfl) (by kernel_rfl) (by kernel_rfl) (by intro _ _ _ h; exact h) (Or.inl ⟨by rfl, ?_⟩) (by assumption) ?_
          rotate_left
          · (intro w9 hSw; (try simp only [AgAt] at hSw); go_simp <;> with_reducible rfl)
          try simp only [Act.put, List.setIfInBounds_toArray, List.set_cons_zero, List.set_cons_succ]
          refine wpAnyH_take (i := 25) (v := ?_) (by simp only [List.getElem?_toArray, List.getElem?_cons_zero, List.getElem?_cons_succ]; rfl) (by kernel_rfl) (by kernel_rfl) (by kernel_rfl) (by intro _ _ _ h; exact h) (Or.inl ⟨by rfl, ?_⟩) (by assumption) ?_
          rotate_left
          · (intro w9 hSw; (try simp only [AgAt] at hSw); go_simp <;> with_reducible rfl)
          try simp only [Act.put, List.setIfInBounds_toArray, List.set_cons_zero, List.set_cons_succ]
          refine wpAnyH_take (i := 26) (v := ?_) (by simp only [List.getElem?_toArray, List.getElem?_cons_zero, List.getElem?_cons_succ]; rfl) (by kernel_rfl) (by kernel_rfl) (by kernel_rfl) (by intro _ _ _ h; exact h) (Or.inl ⟨by rfl, ?_⟩) (by assumption) ?_
          rotate_left
          · (intro w9 hSw; (try simp only [AgAt] at hSw); go_simp <;> with_reducible rfl)
          try simp only [Act.put, List.setIfInBounds_toArray, List.set_cons_zero, List.set_cons_succ]
          refine wpAnyH_done (by kernel_rfl) ?_ _
          go_wp2
          go_ret
          exact ⟨rfl, hb0.trans ((hbwr.trans (hq1d.mono (by omega))).mono (by have h9 := hb0.size; omega))⟩
end Go.Proofs.Ytikhmgkoodoeoaa
