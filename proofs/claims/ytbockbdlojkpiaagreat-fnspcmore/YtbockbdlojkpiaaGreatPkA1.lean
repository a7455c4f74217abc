/- Laid together: texts that were built one by one. -/
import Derived.Test.YtbockbdlojkpiaaGreatPkA0
import Derived.Test.YtbockbdlojkpiaaGreatTabOutS
import Derived.Maps.AppendAt
import Derived.Test.YtbockbdlojkpiaaGreatGenA
import Derived.Test.YtbockbdlojkpiaaGreatEqWA
import Derived.Deep.Slices
import Derived.Lib.SmallJoins
import Derived.OwnWalk
import Derived.WalkSpells
import Derived.Deep.RegionHeld3
import Derived.Test.YtbockbdlojkpiaaGreatTabFnd
import Derived.Test.YtbockbdlojkpiaaGreatBoth
import Derived.Test.YtbockbdlojkpiaaGreatHd77
import Derived.Test.YtbockbdlojkpiaaGreatWin2
/- Proved here: a row put in its place, in the specification. -/
namespace Go.Proofs.YtbockbdlojkpiaaGreat
open Go.ChangeShapes Go.WideShapes Go.ChangeAt Go.RowKit
set_option linter.unusedVariables false

/-- Rows that stay while another row grows. -/
def RestAt (W : World) (al : Option Addr) (v : Value) (zs : List TbR) : Prop := ∀ g o, 0 < zs.length → al = some ⟨g, o, none⟩ → TbRsAt W g o zs ∧ g < W.heap.size ∧ ∀ q, v.ownBlock = some q → q ≠ g

theorem put_carry {W0 wl w1 : World} {B g o : Nat} {u v' : Value} {zs : List TbR} {ob : Obj} (hq : Below B W0 wl) (hge : ∀ k, u.ownBlock = some k → B ≤ k) (hB : B ≤ wl.heap.size) (hr : TbRsAt wl g o zs) (hg : g < wl.heap.size) (hne : ∀ q, u.ownBlock = some q → q ≠ g) (hgrow : (wl.alloc ob).grownBy w1 u.ownBlock) (hblk : v'.ownBlock = u.ownBlock ∨ v'.ownBlock = some (wl.alloc ob).heap.size) : Below B W0 w1 ∧ TbRsAt w1 g o zs ∧ g < w1.heap.size ∧ (∀ q, v'.ownBlock = some q → q ≠ g) := by
  have hsz : wl.heap.size + 1 ≤ w1.heap.size := by have := hgrow.size; simpa using this
  refine ⟨(hq.alloc hB _).grown hgrow (by simp; omega) hge, fun i x hx => ((hr i x hx).below (bel_alloc (Below.refl _ _) _) hg).grown hgrow (fun e => hne g e.symm rfl), by omega, fun q hq' => ?_⟩
  rcases hblk with e | e
  · exact hne q (by rw [← e]; exact hq')
  · rw [e] at hq'
    simp at hq'
    omega

theorem put_size {W0 wl : World} {B : Nat} (h : Below B W0 wl) (hB : B ≤ W0.heap.size) : B ≤ wl.heap.size := Nat.le_trans hB h.size

theorem put_none {W0 wl w1 : World} {B : Nat} {u : Value} {ob : Obj} (hq : Below B W0 wl) (hge : ∀ k, u.ownBlock = some k → B ≤ k) (hB : B ≤ wl.heap.size) (hgrow : (wl.alloc ob).grownBy w1 u.ownBlock) : Below B W0 w1 := (hq.alloc hB _).grown hgrow (by simp; omega) hge

theorem rest_mk {W : World} {g o : Nat} {v : Value} {zs : List TbR} (h1 : TbRsAt W g o zs) (h2 : g < W.heap.size) (h3 : ∀ q, v.ownBlock = some q → q ≠ g) : RestAt W (some ⟨g, o, none⟩) v zs := fun g' o' _ e => by cases e; exact ⟨h1, h2, h3⟩

set_option maxRecDepth 20000 in
set_option maxHeartbeats 2000000 in
theorem specput_any (r : TbR) (a : Option Addr) (len cap : Nat) (xs : List TbR) (w : World) (h : TbRs w a len xs) (hl : len ≤ 1048576) : Calls Tryz.prog 27 #[.slice a len cap, .agg #[.int .i64 r.ky, .int .i64 r.st, .int .i64 r.en, .int .i64 r.n, .int .i64 r.su, .int .i64 r.le, .int .i64 r.mo]] w fun e w' => ∃ v, e = .returned v ∧ OwnTb w' w.heap.size v (insR r (kpTb r.ky r.st r.en xs)) ∧ Below w.heap.size w w' := by
  have hkl := Nat.le_trans (kpTb_le r.ky r.st r.en xs) (Nat.le_of_eq h.1)
  obtain ⟨i0, hi, hz0, hz1, hz2⟩ := info_parts Tryz.infoTb
  go_enter Tryz.func27, Tryz.ntmps27
  go_wp2_with fail
  refine (specTabOut_any a len cap xs r.ky r.st r.en _ (h.below (bel_one _ _)) (by omega)).mono ?_
  rintro e' wa ⟨va, rfl, hOa, hba⟩
  generalize hZ : kpTb r.ky r.st r.en xs = zs at hkl hOa
  have HZ := hide hZ
  clear hZ
  have hbA : Below (w.heap.size + 1) (w.alloc (.cells #[.int .i64 r.ky, .int .i64 r.st, .int .i64 r.en, .int .i64 r.n, .int .i64 r.su, .int .i64 r.le, .int .i64 r.mo] 39)) wa := by simpa using hba
  obtain ⟨al, capl, rfl, HL0, _, gel⟩ := holdTb hOa (by omega)
  have hsh : 0 < zs.length → ∃ g o, al = some ⟨g, o, none⟩ := fun hp => by
    obtain ⟨_, _, hx⟩ := HL0
    obtain ⟨g, o, e, _⟩ := hx.resolve_left (by omega)
    exact ⟨g, o, e⟩
  have hsa : w.heap.size + 1 ≤ wa.heap.size := by have := hbA.size; simpa using this
  have HR0 : RestAt (wa.alloc (.cells #[] 39)) al (.slice (some ⟨wa.heap.size, 0, none⟩) 0 0) zs := fun g o hp e => by
    subst e
    obtain ⟨_, _, hx⟩ := HL0
    obtain ⟨g', o', e, hr⟩ := hx.resolve_left (by omega)
    cases e
    have hg := hr.lt hp
    exact ⟨hr.below (bel_one _ _) (fun _ => hg), by simp; omega, fun q hq => by simp [Value.ownBlock] at hq; omega⟩
  clear HL0 gel hOa
  go_wp2
  go_loopw [6, 7, 8] (fun v' dv iv wr => ∃ (d : Bool) (k : Nat) (ys : List TbR), k ≤ zs.length ∧ dv = .bool d ∧ iv = .int .i64 k ∧ OwnTb wr (w.heap.size + 1) v' ys ∧ Hid (PutAt r zs k ys d) ∧ Hid (RestAt wr al v' zs) ∧ Below (w.heap.size + 1) (w.alloc (.cells #[.int .i64 r.ky, .int .i64 r.st, .int .i64 r.en, .int .i64 r.n, .int .i64 r.su, .int .i64 r.le, .int .i64 r.mo] 39)) wr) (fun _ _ iv _ => zs.length - (intOf iv).toNat)
  case atStart => exact ⟨false, 0, [], Nat.zero_le _, rfl, rfl, ownLit (W := wa) (B := w.heap.size + 1) _ _ (by first | omega | simp) (by first | omega | simp), hide (putAt_start _ _), hide HR0, hbA.alloc hsa _⟩
  case round =>
    obtain ⟨d, k, ys, hk, rfl, rfl, hO, HP, HR, hbw⟩ := hrel
    have hb0 : Below w.heap.size w wr := bel_trans (bel_one _ _) (by simpa using hbw)
    have hwr : w.heap.size + 1 ≤ wr.heap.size := by have := hbw.size; simpa using this
    have hyl := putAt_len (unhide HP)
    have HO := hide hO
    have hge := hide (ownTb_ge hO)
    clear hO
    by_cases hlt : k < zs.length
    · obtain ⟨g, o, rfl⟩ := hsh (by omega)
      obtain ⟨hr, hg, hne⟩ := unhide HR g o (by omega) rfl
      have HRr := hide hr
      have HNE := hide hne
      obtain ⟨x, hxk⟩ : ∃ x, zs[k]? = some x := ⟨_, List.getElem?_eq_getElem hlt⟩
      have hX := hide hxk
      have HS : ((wr.cell? ⟨w.heap.size, 0, none⟩ = some (.int .i64 r.ky) ∧ wr.cell? ⟨w.heap.size, 1, none⟩ = some (.int .i64 r.st) ∧ wr.cell? ⟨w.heap.size, 2, none⟩ = some (.int .i64 r.en) ∧ wr.cell? ⟨w.heap.size, 3, none⟩ = some (.int .i64 r.n) ∧ wr.cell? ⟨w.heap.size, 4, none⟩ = some (.int .i64 r.su) ∧ wr.cell? ⟨w.heap.size, 5, none⟩ = some (.int .i64 r.le) ∧ wr.cell? ⟨w.heap.size, 6, none⟩ = some (.int .i64 r.mo) ∧ wr.cell? ⟨g, o + k * 7, none⟩ = some (.int .i64 x.ky) ∧ wr.cell? ⟨g, o + k * 7 + 1, none⟩ = some (.int .i64 x.st) ∧ wr.cell? ⟨g, o + k * 7 + 2, none⟩ = some (.int .i64 x.en) ∧ wr.cell? ⟨g, o + k * 7 + 3, none⟩ = some (.int .i64 x.n) ∧ wr.cell? ⟨g, o + k * 7 + 4, none⟩ = some (.int .i64 x.su) ∧ wr.cell? ⟨g, o + k * 7 + 5, none⟩ = some (.int .i64 x.le) ∧ wr.cell? ⟨g, o + k * 7 + 6, none⟩ = some (.int .i64 x.mo)) ∧ w.heap.size < wr.heap.size ∧ g < wr.heap.size) := by
        obtain ⟨d0, d1, d2, d3, d4, d5, d6⟩ := hr k _ hxk
        exact ⟨⟨(hbw.cell (p := ⟨w.heap.size, 0, none⟩) (by simp)).trans (by simp [go_sem]), (hbw.cell (p := ⟨w.heap.size, 1, none⟩) (by simp)).trans (by simp [go_sem]), (hbw.cell (p := ⟨w.heap.size, 2, none⟩) (by simp)).trans (by simp [go_sem]), (hbw.cell (p := ⟨w.heap.size, 3, none⟩) (by simp)).trans (by simp [go_sem]), (hbw.cell (p := ⟨w.heap.size, 4, none⟩) (by simp)).trans (by simp [go_sem]), (hbw.cell (p := ⟨w.heap.size, 5, none⟩) (by simp)).trans (by simp [go_sem]), (hbw.cell (p := ⟨w.heap.size, 6, none⟩) (by simp)).trans (by simp [go_sem]), d0, d1, d2, d3, d4, d5, d6⟩, by omega, hg⟩
      clear hr hne hxk HR
      cases d
      · cases hA : aheadR r x
        · go_wp2
          go_region_held3 (fun W => ((W.cell? ⟨w.heap.size, 0, none⟩ = some (.int .i64 r.ky) ∧ W.cell? ⟨w.heap.size, 1, none⟩ = some (.int .i64 r.st) ∧ W.cell? ⟨w.heap.size, 2, none⟩ = some (.int .i64 r.en) ∧ W.cell? ⟨w.heap.size, 3, none⟩ = some (.int .i64 r.n) ∧ W.cell? ⟨w.heap.size, 4, none⟩ = some (.int .i64 r.su) ∧ W.cell? ⟨w.heap.size, 5, none⟩ = some (.int .i64 r.le) ∧ W.cell? ⟨w.heap.size, 6, none⟩ = some (.int .i64 r.mo) ∧ W.cell? ⟨g, o + k * 7, none⟩ = some (.int .i64 x.ky) ∧ W.cell? ⟨g, o + k * 7 + 1, none⟩ = some (.int .i64 x.st) ∧ W.cell? ⟨g, o + k * 7 + 2, none⟩ = some (.int .i64 x.en) ∧ W.cell? ⟨g, o + k * 7 + 3, none⟩ = some (.int .i64 x.n) ∧ W.cell? ⟨g, o + k * 7 + 4, none⟩ = some (.int .i64 x.su) ∧ W.cell? ⟨g, o + k * 7 + 5, none⟩ = some (.int .i64 x.le) ∧ W.cell? ⟨g, o + k * 7 + 6, none⟩ = some (.int .i64 x.mo)) ∧ w.heap.size < W.heap.size ∧ g < W.heap.size)) ((first | ((repeat (first | (with_reducible assumption) | (with_reducible refine hd_7_7 ?_ (by with_reducible assumption)) | (with_reducible refine hd_7_7 ?_ (bel_drew (Below.refl _ _))) | (with_reducible exact hd_7_7_re (by with_reducible assumption) (by first | omega | (simp; done) | (simp; omega)) (by first | omega | (simp; done) | (simp; omega))) | (with_reducible refine hd_7_7 ?_ (bel_one _ _)) | (with_reducible refine hd_7_7_set ?_ (by first | omega | (simp; done) | (simp; omega)) (by first | omega | (simp; done) | (simp; omega)) _))); done) | (refine ⟨⟨?_, ?_, ?_, ?_, ?_, ?_, ?_, ?_, ?_, ?_, ?_, ?_, ?_, ?_⟩, ?_, ?_⟩ <;> first | (go_keep; done) | (simp; done) | (simp; omega) | omega)))
            (first
            | (go_at_call 54; refine (l5ahead_any r x _).mono ?_; rintro e wl ⟨rfl, hbl⟩; rw [hA]))
          all_goals
            have hbl' : Below wr.heap.size wr wl := (by repeat (first | (with_reducible exact Below.refl _ _) | (with_reducible assumption) | (with_reducible refine bel_set ?_ (by first | (simp; done) | (simp; omega)) _) | (with_reducible refine bel_alloc ?_ _) | (with_reducible refine bel_drew ?_) | (with_reducible refine bel_drewN ?_ _) | (with_reducible refine bel_trans ?_ (by with_reducible assumption))))
            have hq1 : Below (w.heap.size + 1) (w.alloc (.cells #[.int .i64 r.ky, .int .i64 r.st, .int .i64 r.en, .int .i64 r.n, .int .i64 r.su, .int .i64 r.le, .int .i64 r.mo] 39)) wl := hbw.trans (hbl'.mono hwr)
            have HO1 := hide (ownBel (unhide HO) hbl')
            have HR1 := hide ((unhide HRr).below hbl' (fun _ => hg))
            have hgl : g < wl.heap.size := Nat.lt_of_lt_of_le hg hbl'.size
            have hws : w.heap.size + 1 ≤ wl.heap.size := Nat.le_trans hwr hbl'.size
            obtain ⟨⟨C0, C1, C2, C3, C4, C5, C6, D0, D1, D2, D3, D4, D5, D6⟩, _, _⟩ := hd_7_7 HS hbl'
            clear HS
            go_wp2_with (at_builtin; go_loud (refine wpList_append_own_at _ rfl _ _ 28 rfl (w.heap.size + 1) 39 i0 _ 7 56 Tryz.underlying28 hi hz0 hz1 hz2 rfl (by decide) u6 _ _ rfl (World.ownsRow.alloc (unhide HO1) _) ⟨wl.heap.size, 0, none⟩ 1 1 [.int .i64 x.ky, .int .i64 x.st, .int .i64 x.en, .int .i64 x.n, .int .i64 x.su, .int .i64 x.le, .int .i64 x.mo] rfl rfl (cells_newTb wl x.ky x.st x.en x.n x.su x.le x.mo _) (by simp [Value.oneCell']) (by unfold maxLen; omega) (by omega) (by simp; omega) ?_); intro v' w1 hown' hgrow _ hblk)
            obtain ⟨hb1, hr1, hg1, hne1⟩ := put_carry hq1 (unhide hge) hws (unhide HR1) hgl (unhide HNE) hgrow hblk
            go_roundw
            case rel => exact ⟨false, k + 1, ys ++ [x], by omega, rfl, by go_num, ownTb_snoc hown', hide (putAt_on (unhide hX) hA (unhide HP)), hide (rest_mk hr1 hg1 hne1), hb1⟩
            case measure => simp [intOf]; omega
        · go_wp2
          go_region_held3 (fun W => ((W.cell? ⟨w.heap.size, 0, none⟩ = some (.int .i64 r.ky) ∧ W.cell? ⟨w.heap.size, 1, none⟩ = some (.int .i64 r.st) ∧ W.cell? ⟨w.heap.size, 2, none⟩ = some (.int .i64 r.en) ∧ W.cell? ⟨w.heap.size, 3, none⟩ = some (.int .i64 r.n) ∧ W.cell? ⟨w.heap.size, 4, none⟩ = some (.int .i64 r.su) ∧ W.cell? ⟨w.heap.size, 5, none⟩ = some (.int .i64 r.le) ∧ W.cell? ⟨w.heap.size, 6, none⟩ = some (.int .i64 r.mo) ∧ W.cell? ⟨g, o + k * 7, none⟩ = some (.int .i64 x.ky) ∧ W.cell? ⟨g, o + k * 7 + 1, none⟩ = some (.int .i64 x.st) ∧ W.cell? ⟨g, o + k * 7 + 2, none⟩ = some (.int .i64 x.en) ∧ W.cell? ⟨g, o + k * 7 + 3, none⟩ = some (.int .i64 x.n) ∧ W.cell? ⟨g, o + k * 7 + 4, none⟩ = some (.int .i64 x.su) ∧ W.cell? ⟨g, o + k * 7 + 5, none⟩ = some (.int .i64 x.le) ∧ W.cell? ⟨g, o + k * 7 + 6, none⟩ = some (.int .i64 x.mo)) ∧ w.heap.size < W.heap.size ∧ g < W.heap.size)) ((first | ((repeat (first | (with_reducible assumption) | (with_reducible refine hd_7_7 ?_ (by with_reducible assumption)) | (with_reducible refine hd_7_7 ?_ (bel_drew (Below.refl _ _))) | (with_reducible exact hd_7_7_re (by with_reducible assumption) (by first | omega | (simp; done) | (simp; omega)) (by first | omega | (simp; done) | (simp; omega))) | (with_reducible refine hd_7_7 ?_ (bel_one _ _)) | (with_reducible refine hd_7_7_set ?_ (by first | omega | (simp; done) | (simp; omega)) (by first | omega | (simp; done) | (simp; omega)) _))); done) | (refine ⟨⟨?_, ?_, ?_, ?_, ?_, ?_, ?_, ?_, ?_, ?_, ?_, ?_, ?_, ?_⟩, ?_, ?_⟩ <;> first | (go_keep; done) | (simp; done) | (simp; omega) | omega)))
            (first
            | (go_at_call 54; refine (l5ahead_any r x _).mono ?_; rintro e wl ⟨rfl, hbl⟩; rw [hA]))
          all_goals
            have hbl' : Below wr.heap.size wr wl := (by repeat (first | (with_reducible exact Below.refl _ _) | (with_reducible assumption) | (with_reducible refine bel_set ?_ (by first | (simp; done) | (simp; omega)) _) | (with_reducible refine bel_alloc ?_ _) | (with_reducible refine bel_drew ?_) | (with_reducible refine bel_drewN ?_ _) | (with_reducible refine bel_trans ?_ (by with_reducible assumption))))
            have hq1 : Below (w.heap.size + 1) (w.alloc (.cells #[.int .i64 r.ky, .int .i64 r.st, .int .i64 r.en, .int .i64 r.n, .int .i64 r.su, .int .i64 r.le, .int .i64 r.mo] 39)) wl := hbw.trans (hbl'.mono hwr)
            have HO1 := hide (ownBel (unhide HO) hbl')
            have HR1 := hide ((unhide HRr).below hbl' (fun _ => hg))
            have hgl : g < wl.heap.size := Nat.lt_of_lt_of_le hg hbl'.size
            have hws : w.heap.size + 1 ≤ wl.heap.size := Nat.le_trans hwr hbl'.size
            obtain ⟨⟨C0, C1, C2, C3, C4, C5, C6, D0, D1, D2, D3, D4, D5, D6⟩, _, _⟩ := hd_7_7 HS hbl'
            clear HS
            have hylv : (ys ++ [r]).length ≤ k + 2 := by rw [List.length_append]; simp; omega
            go_wp2_with (first
              | (at_builtin; go_loud (refine wpList_append_own_at _ rfl _ _ 28 rfl (w.heap.size + 1) 39 i0 _ 7 56 Tryz.underlying28 hi hz0 hz1 hz2 rfl (by decide) u6 _ _ rfl (World.ownsRow.alloc (unhide HO1) _) ⟨wl.heap.size, 0, none⟩ 1 1 [.int .i64 r.ky, .int .i64 r.st, .int .i64 r.en, .int .i64 r.n, .int .i64 r.su, .int .i64 r.le, .int .i64 r.mo] rfl rfl (cells_newTb wl r.ky r.st r.en r.n r.su r.le r.mo _) (by simp [Value.oneCell']) (by unfold maxLen; omega) (by omega) (by simp; omega) ?_); intro vv ww hownv hgrowv _ hblkv; obtain ⟨hbv, hrv, hgv, hnev⟩ := put_carry hq1 (unhide hge) hws (unhide HR1) hgl (unhide HNE) hgrowv hblkv; have hwv : w.heap.size + 1 ≤ ww.heap.size := put_size hbv (by simp); have HOv : Hid (OwnTb ww (w.heap.size + 1) vv (ys ++ [r])) := hide (ownTb_snoc hownv); have hgev := hide (ownTb_ge (unhide HOv)); have HRv := hide hrv; have HNEv := hide hnev; obtain ⟨E0, E1, E2, E3, E4, E5, E6⟩ := hrv k _ (unhide hX); clear hownv hgrowv hblkv hrv hnev)
              | (at_builtin; go_loud (refine wpList_append_own_at _ rfl _ _ 28 rfl (w.heap.size + 1) 39 i0 _ 7 56 Tryz.underlying28 hi hz0 hz1 hz2 rfl (by decide) vv _ _ rfl (World.ownsRow.alloc (unhide HOv) _) ⟨ww.heap.size, 0, none⟩ 1 1 [.int .i64 x.ky, .int .i64 x.st, .int .i64 x.en, .int .i64 x.n, .int .i64 x.su, .int .i64 x.le, .int .i64 x.mo] rfl rfl (cells_newTb ww x.ky x.st x.en x.n x.su x.le x.mo _) (by simp [Value.oneCell']) (by unfold maxLen; omega) (by omega) (by simp; omega) ?_); intro v' w1 hown' hgrow _ hblk))
            obtain ⟨hb1, hr1, hg1, hne1⟩ := put_carry hbv (unhide hgev) hwv (unhide HRv) hgv (unhide HNEv) hgrow hblk
            go_roundw
            case rel => exact ⟨true, k + 1, (ys ++ [r]) ++ [x], by omega, rfl, by go_num, ownTb_snoc hown', hide (putAt_now (unhide hX) hA (unhide HP)), hide (rest_mk hr1 hg1 hne1), hb1⟩
            case measure => simp [intOf]; omega
      · go_wp2
        go_quiet (fail)
        have hbl' : Below wr.heap.size wr (wr.drewN nq) := bel_drewN (Below.refl _ wr) nq
        generalize wr.drewN nq = wl at hbl' ⊢
        have hq1 : Below (w.heap.size + 1) (w.alloc (.cells #[.int .i64 r.ky, .int .i64 r.st, .int .i64 r.en, .int .i64 r.n, .int .i64 r.su, .int .i64 r.le, .int .i64 r.mo] 39)) wl := hbw.trans (hbl'.mono hwr)
        have HO1 := hide (ownBel (unhide HO) hbl')
        have HR1 := hide ((unhide HRr).below hbl' (fun _ => hg))
        have hgl : g < wl.heap.size := Nat.lt_of_lt_of_le hg hbl'.size
        have hws : w.heap.size + 1 ≤ wl.heap.size := Nat.le_trans hwr hbl'.size
        obtain ⟨⟨C0, C1, C2, C3, C4, C5, C6, D0, D1, D2, D3, D4, D5, D6⟩, _, _⟩ := hd_7_7 HS hbl'
        clear HS
        go_wp2_with (at_builtin; go_loud (refine wpList_append_own_at _ rfl _ _ 28 rfl (w.heap.size + 1) 39 i0 _ 7 56 Tryz.underlying28 hi hz0 hz1 hz2 rfl (by decide) u6 _ _ rfl (World.ownsRow.alloc (unhide HO1) _) ⟨wl.heap.size, 0, none⟩ 1 1 [.int .i64 x.ky, .int .i64 x.st, .int .i64 x.en, .int .i64 x.n, .int .i64 x.su, .int .i64 x.le, .int .i64 x.mo] rfl rfl (cells_newTb wl x.ky x.st x.en x.n x.su x.le x.mo _) (by simp [Value.oneCell']) (by unfold maxLen; omega) (by omega) (by simp; omega) ?_); intro v' w1 hown' hgrow _ hblk)
        obtain ⟨hb1, hr1, hg1, hne1⟩ := put_carry hq1 (unhide hge) hws (unhide HR1) hgl (unhide HNE) hgrow hblk
        go_roundw
        case rel => exact ⟨true, k + 1, ys ++ [x], by omega, rfl, by go_num, ownTb_snoc hown', hide (putAt_done (unhide hX) (unhide HP)), hide (rest_mk hr1 hg1 hne1), hb1⟩
        case measure => simp [intOf]; omega
    · cases d
      · have HQ := hide (putAt_end0 (by omega) (unhide HP))
        have C0 : wr.cell? ⟨w.heap.size, 0, none⟩ = some (.int .i64 r.ky) := (hbw.cell (p := ⟨w.heap.size, 0, none⟩) (by simp)).trans (by simp [go_sem])
        have C1 : wr.cell? ⟨w.heap.size, 1, none⟩ = some (.int .i64 r.st) := (hbw.cell (p := ⟨w.heap.size, 1, none⟩) (by simp)).trans (by simp [go_sem])
        have C2 : wr.cell? ⟨w.heap.size, 2, none⟩ = some (.int .i64 r.en) := (hbw.cell (p := ⟨w.heap.size, 2, none⟩) (by simp)).trans (by simp [go_sem])
        have C3 : wr.cell? ⟨w.heap.size, 3, none⟩ = some (.int .i64 r.n) := (hbw.cell (p := ⟨w.heap.size, 3, none⟩) (by simp)).trans (by simp [go_sem])
        have C4 : wr.cell? ⟨w.heap.size, 4, none⟩ = some (.int .i64 r.su) := (hbw.cell (p := ⟨w.heap.size, 4, none⟩) (by simp)).trans (by simp [go_sem])
        have C5 : wr.cell? ⟨w.heap.size, 5, none⟩ = some (.int .i64 r.le) := (hbw.cell (p := ⟨w.heap.size, 5, none⟩) (by simp)).trans (by simp [go_sem])
        have C6 : wr.cell? ⟨w.heap.size, 6, none⟩ = some (.int .i64 r.mo) := (hbw.cell (p := ⟨w.heap.size, 6, none⟩) (by simp)).trans (by simp [go_sem])
        go_wp2_with (at_builtin; go_loud (refine wpList_append_own_at _ rfl _ _ 28 rfl (w.heap.size + 1) 39 i0 _ 7 56 Tryz.underlying28 hi hz0 hz1 hz2 rfl (by decide) u6 _ _ rfl (World.ownsRow.alloc (unhide HO) _) ⟨wr.heap.size, 0, none⟩ 1 1 [.int .i64 r.ky, .int .i64 r.st, .int .i64 r.en, .int .i64 r.n, .int .i64 r.su, .int .i64 r.le, .int .i64 r.mo] rfl rfl (cells_newTb wr r.ky r.st r.en r.n r.su r.le r.mo _) (by simp [Value.oneCell']) (by unfold maxLen; omega) (by omega) (by simp; omega) ?_); intro v' w1 hown' hgrow _ hblk)
        have hb1 := put_none hbw (unhide hge) hwr hgrow
        go_ret
        refine ⟨_, rfl, ?_, bel_trans (bel_one _ _) (by simpa using hb1)⟩
        rw [unhide HZ, ← unhide HQ]
        exact World.ownsRow.mono (ownTb_snoc hown') (by omega)
      · have HQ := hide (putAt_end1 (by omega) (unhide HP))
        go_wp2
        go_ret
        refine ⟨_, rfl, ?_, hb0⟩
        rw [unhide HZ, ← unhide HQ]
        exact World.ownsRow.mono (unhide HO) (by omega)

end Go.Proofs.YtbockbdlojkpiaaGreat
/- Proved here, for any program: the cells of two boxes of 9 stay as they are. -/
namespace Go.Proofs.YtbockbdlojkpiaaGreat
open Go.ChangeShapes Go.WideShapes Go.ChangeAt Go.RowKit
set_option linter.unusedVariables false

theorem hd_9_9 {b0 b1 o0x0 o0x1 o0x2 o0x3 o0x4 o0x5 o0x6 o0x7 o0x8 o1x0 o1x1 o1x2 o1x3 o1x4 o1x5 o1x6 o1x7 o1x8 : Nat} {v0x0 v0x1 v0x2 v0x3 v0x4 v0x5 v0x6 v0x7 v0x8 v1x0 v1x1 v1x2 v1x3 v1x4 v1x5 v1x6 v1x7 v1x8 : Value} {W W' : World} (h : ((W.cell? ⟨b0, o0x0, none⟩ = some (v0x0) ∧ W.cell? ⟨b0, o0x1, none⟩ = some (v0x1) ∧ W.cell? ⟨b0, o0x2, none⟩ = some (v0x2) ∧ W.cell? ⟨b0, o0x3, none⟩ = some (v0x3) ∧ W.cell? ⟨b0, o0x4, none⟩ = some (v0x4) ∧ W.cell? ⟨b0, o0x5, none⟩ = some (v0x5) ∧ W.cell? ⟨b0, o0x6, none⟩ = some (v0x6) ∧ W.cell? ⟨b0, o0x7, none⟩ = some (v0x7) ∧ W.cell? ⟨b0, o0x8, none⟩ = some (v0x8) ∧ W.cell? ⟨b1, o1x0, none⟩ = some (v1x0) ∧ W.cell? ⟨b1, o1x1, none⟩ = some (v1x1) ∧ W.cell? ⟨b1, o1x2, none⟩ = some (v1x2) ∧ W.cell? ⟨b1, o1x3, none⟩ = some (v1x3) ∧ W.cell? ⟨b1, o1x4, none⟩ = some (v1x4) ∧ W.cell? ⟨b1, o1x5, none⟩ = some (v1x5) ∧ W.cell? ⟨b1, o1x6, none⟩ = some (v1x6) ∧ W.cell? ⟨b1, o1x7, none⟩ = some (v1x7) ∧ W.cell? ⟨b1, o1x8, none⟩ = some (v1x8)) ∧ b0 < W.heap.size ∧ b1 < W.heap.size)) (hb : Below W.heap.size W W') : ((W'.cell? ⟨b0, o0x0, none⟩ = some (v0x0) ∧ W'.cell? ⟨b0, o0x1, none⟩ = some (v0x1) ∧ W'.cell? ⟨b0, o0x2, none⟩ = some (v0x2) ∧ W'.cell? ⟨b0, o0x3, none⟩ = some (v0x3) ∧ W'.cell? ⟨b0, o0x4, none⟩ = some (v0x4) ∧ W'.cell? ⟨b0, o0x5, none⟩ = some (v0x5) ∧ W'.cell? ⟨b0, o0x6, none⟩ = some (v0x6) ∧ W'.cell? ⟨b0, o0x7, none⟩ = some (v0x7) ∧ W'.cell? ⟨b0, o0x8, none⟩ = some (v0x8) ∧ W'.cell? ⟨b1, o1x0, none⟩ = some (v1x0) ∧ W'.cell? ⟨b1, o1x1, none⟩ = some (v1x1) ∧ W'.cell? ⟨b1, o1x2, none⟩ = some (v1x2) ∧ W'.cell? ⟨b1, o1x3, none⟩ = some (v1x3) ∧ W'.cell? ⟨b1, o1x4, none⟩ = some (v1x4) ∧ W'.cell? ⟨b1, o1x5, none⟩ = some (v1x5) ∧ W'.cell? ⟨b1, o1x6, none⟩ = some (v1x6) ∧ W'.cell? ⟨b1, o1x7, none⟩ = some (v1x7) ∧ W'.cell? ⟨b1, o1x8, none⟩ = some (v1x8)) ∧ b0 < W'.heap.size ∧ b1 < W'.heap.size) := by
  obtain ⟨⟨h0, h1, h2, h3, h4, h5, h6, h7, h8, h9, h10, h11, h12, h13, h14, h15, h16, h17⟩, s0, s1⟩ := h
  refine ⟨⟨?_, ?_, ?_, ?_, ?_, ?_, ?_, ?_, ?_, ?_, ?_, ?_, ?_, ?_, ?_, ?_, ?_, ?_⟩, Nat.lt_of_lt_of_le s0 hb.size, Nat.lt_of_lt_of_le s1 hb.size⟩
  · rw [hb.cell s0]; exact h0
  · rw [hb.cell s0]; exact h1
  · rw [hb.cell s0]; exact h2
  · rw [hb.cell s0]; exact h3
  · rw [hb.cell s0]; exact h4
  · rw [hb.cell s0]; exact h5
  · rw [hb.cell s0]; exact h6
  · rw [hb.cell s0]; exact h7
  · rw [hb.cell s0]; exact h8
  · rw [hb.cell s1]; exact h9
  · rw [hb.cell s1]; exact h10
  · rw [hb.cell s1]; exact h11
  · rw [hb.cell s1]; exact h12
  · rw [hb.cell s1]; exact h13
  · rw [hb.cell s1]; exact h14
  · rw [hb.cell s1]; exact h15
  · rw [hb.cell s1]; exact h16
  · rw [hb.cell s1]; exact h17

theorem hd_9_9_set {b0 b1 o0x0 o0x1 o0x2 o0x3 o0x4 o0x5 o0x6 o0x7 o0x8 o1x0 o1x1 o1x2 o1x3 o1x4 o1x5 o1x6 o1x7 o1x8 : Nat} {v0x0 v0x1 v0x2 v0x3 v0x4 v0x5 v0x6 v0x7 v0x8 v1x0 v1x1 v1x2 v1x3 v1x4 v1x5 v1x6 v1x7 v1x8 : Value} {W : World} {p : Addr} (h : ((W.cell? ⟨b0, o0x0, none⟩ = some (v0x0) ∧ W.cell? ⟨b0, o0x1, none⟩ = some (v0x1) ∧ W.cell? ⟨b0, o0x2, none⟩ = some (v0x2) ∧ W.cell? ⟨b0, o0x3, none⟩ = some (v0x3) ∧ W.cell? ⟨b0, o0x4, none⟩ = some (v0x4) ∧ W.cell? ⟨b0, o0x5, none⟩ = some (v0x5) ∧ W.cell? ⟨b0, o0x6, none⟩ = some (v0x6) ∧ W.cell? ⟨b0, o0x7, none⟩ = some (v0x7) ∧ W.cell? ⟨b0, o0x8, none⟩ = some (v0x8) ∧ W.cell? ⟨b1, o1x0, none⟩ = some (v1x0) ∧ W.cell? ⟨b1, o1x1, none⟩ = some (v1x1) ∧ W.cell? ⟨b1, o1x2, none⟩ = some (v1x2) ∧ W.cell? ⟨b1, o1x3, none⟩ = some (v1x3) ∧ W.cell? ⟨b1, o1x4, none⟩ = some (v1x4) ∧ W.cell? ⟨b1, o1x5, none⟩ = some (v1x5) ∧ W.cell? ⟨b1, o1x6, none⟩ = some (v1x6) ∧ W.cell? ⟨b1, o1x7, none⟩ = some (v1x7) ∧ W.cell? ⟨b1, o1x8, none⟩ = some (v1x8)) ∧ b0 < W.heap.size ∧ b1 < W.heap.size)) (p0 : p.block ≠ b0) (p1 : p.block ≠ b1) (u : Value) : (((W.setCell p u).cell? ⟨b0, o0x0, none⟩ = some (v0x0) ∧ (W.setCell p u).cell? ⟨b0, o0x1, none⟩ = some (v0x1) ∧ (W.setCell p u).cell? ⟨b0, o0x2, none⟩ = some (v0x2) ∧ (W.setCell p u).cell? ⟨b0, o0x3, none⟩ = some (v0x3) ∧ (W.setCell p u).cell? ⟨b0, o0x4, none⟩ = some (v0x4) ∧ (W.setCell p u).cell? ⟨b0, o0x5, none⟩ = some (v0x5) ∧ (W.setCell p u).cell? ⟨b0, o0x6, none⟩ = some (v0x6) ∧ (W.setCell p u).cell? ⟨b0, o0x7, none⟩ = some (v0x7) ∧ (W.setCell p u).cell? ⟨b0, o0x8, none⟩ = some (v0x8) ∧ (W.setCell p u).cell? ⟨b1, o1x0, none⟩ = some (v1x0) ∧ (W.setCell p u).cell? ⟨b1, o1x1, none⟩ = some (v1x1) ∧ (W.setCell p u).cell? ⟨b1, o1x2, none⟩ = some (v1x2) ∧ (W.setCell p u).cell? ⟨b1, o1x3, none⟩ = some (v1x3) ∧ (W.setCell p u).cell? ⟨b1, o1x4, none⟩ = some (v1x4) ∧ (W.setCell p u).cell? ⟨b1, o1x5, none⟩ = some (v1x5) ∧ (W.setCell p u).cell? ⟨b1, o1x6, none⟩ = some (v1x6) ∧ (W.setCell p u).cell? ⟨b1, o1x7, none⟩ = some (v1x7) ∧ (W.setCell p u).cell? ⟨b1, o1x8, none⟩ = some (v1x8)) ∧ b0 < (W.setCell p u).heap.size ∧ b1 < (W.setCell p u).heap.size) := by
  obtain ⟨⟨h0, h1, h2, h3, h4, h5, h6, h7, h8, h9, h10, h11, h12, h13, h14, h15, h16, h17⟩, s0, s1⟩ := h
  have hb : W.heap.size ≤ (W.setCell p u).heap.size := by simp [World.setCell]
  refine ⟨⟨?_, ?_, ?_, ?_, ?_, ?_, ?_, ?_, ?_, ?_, ?_, ?_, ?_, ?_, ?_, ?_, ?_, ?_⟩, Nat.lt_of_lt_of_le s0 hb, Nat.lt_of_lt_of_le s1 hb⟩
  · rw [cell_set_ne p0]; exact h0
  · rw [cell_set_ne p0]; exact h1
  · rw [cell_set_ne p0]; exact h2
  · rw [cell_set_ne p0]; exact h3
  · rw [cell_set_ne p0]; exact h4
  · rw [cell_set_ne p0]; exact h5
  · rw [cell_set_ne p0]; exact h6
  · rw [cell_set_ne p0]; exact h7
  · rw [cell_set_ne p0]; exact h8
  · rw [cell_set_ne p1]; exact h9
  · rw [cell_set_ne p1]; exact h10
  · rw [cell_set_ne p1]; exact h11
  · rw [cell_set_ne p1]; exact h12
  · rw [cell_set_ne p1]; exact h13
  · rw [cell_set_ne p1]; exact h14
  · rw [cell_set_ne p1]; exact h15
  · rw [cell_set_ne p1]; exact h16
  · rw [cell_set_ne p1]; exact h17

theorem hd_9_9_re {b0 b1 o0x0 o0x1 o0x2 o0x3 o0x4 o0x5 o0x6 o0x7 o0x8 o1x0 o1x1 o1x2 o1x3 o1x4 o1x5 o1x6 o1x7 o1x8 : Nat} {v0x0 v0x1 v0x2 v0x3 v0x4 v0x5 v0x6 v0x7 v0x8 v1x0 v1x1 v1x2 v1x3 v1x4 v1x5 v1x6 v1x7 v1x8 : Value} {W : World} {o o' : Obj} (h : (((W.alloc o).cell? ⟨b0, o0x0, none⟩ = some (v0x0) ∧ (W.alloc o).cell? ⟨b0, o0x1, none⟩ = some (v0x1) ∧ (W.alloc o).cell? ⟨b0, o0x2, none⟩ = some (v0x2) ∧ (W.alloc o).cell? ⟨b0, o0x3, none⟩ = some (v0x3) ∧ (W.alloc o).cell? ⟨b0, o0x4, none⟩ = some (v0x4) ∧ (W.alloc o).cell? ⟨b0, o0x5, none⟩ = some (v0x5) ∧ (W.alloc o).cell? ⟨b0, o0x6, none⟩ = some (v0x6) ∧ (W.alloc o).cell? ⟨b0, o0x7, none⟩ = some (v0x7) ∧ (W.alloc o).cell? ⟨b0, o0x8, none⟩ = some (v0x8) ∧ (W.alloc o).cell? ⟨b1, o1x0, none⟩ = some (v1x0) ∧ (W.alloc o).cell? ⟨b1, o1x1, none⟩ = some (v1x1) ∧ (W.alloc o).cell? ⟨b1, o1x2, none⟩ = some (v1x2) ∧ (W.alloc o).cell? ⟨b1, o1x3, none⟩ = some (v1x3) ∧ (W.alloc o).cell? ⟨b1, o1x4, none⟩ = some (v1x4) ∧ (W.alloc o).cell? ⟨b1, o1x5, none⟩ = some (v1x5) ∧ (W.alloc o).cell? ⟨b1, o1x6, none⟩ = some (v1x6) ∧ (W.alloc o).cell? ⟨b1, o1x7, none⟩ = some (v1x7) ∧ (W.alloc o).cell? ⟨b1, o1x8, none⟩ = some (v1x8)) ∧ b0 < (W.alloc o).heap.size ∧ b1 < (W.alloc o).heap.size)) (p0 : b0 < W.heap.size) (p1 : b1 < W.heap.size) : (((W.alloc o').cell? ⟨b0, o0x0, none⟩ = some (v0x0) ∧ (W.alloc o').cell? ⟨b0, o0x1, none⟩ = some (v0x1) ∧ (W.alloc o').cell? ⟨b0, o0x2, none⟩ = some (v0x2) ∧ (W.alloc o').cell? ⟨b0, o0x3, none⟩ = some (v0x3) ∧ (W.alloc o').cell? ⟨b0, o0x4, none⟩ = some (v0x4) ∧ (W.alloc o').cell? ⟨b0, o0x5, none⟩ = some (v0x5) ∧ (W.alloc o').cell? ⟨b0, o0x6, none⟩ = some (v0x6) ∧ (W.alloc o').cell? ⟨b0, o0x7, none⟩ = some (v0x7) ∧ (W.alloc o').cell? ⟨b0, o0x8, none⟩ = some (v0x8) ∧ (W.alloc o').cell? ⟨b1, o1x0, none⟩ = some (v1x0) ∧ (W.alloc o').cell? ⟨b1, o1x1, none⟩ = some (v1x1) ∧ (W.alloc o').cell? ⟨b1, o1x2, none⟩ = some (v1x2) ∧ (W.alloc o').cell? ⟨b1, o1x3, none⟩ = some (v1x3) ∧ (W.alloc o').cell? ⟨b1, o1x4, none⟩ = some (v1x4) ∧ (W.alloc o').cell? ⟨b1, o1x5, none⟩ = some (v1x5) ∧ (W.alloc o').cell? ⟨b1, o1x6, none⟩ = some (v1x6) ∧ (W.alloc o').cell? ⟨b1, o1x7, none⟩ = some (v1x7) ∧ (W.alloc o').cell? ⟨b1, o1x8, none⟩ = some (v1x8)) ∧ b0 < (W.alloc o').heap.size ∧ b1 < (W.alloc o').heap.size) := by
  obtain ⟨⟨h0, h1, h2, h3, h4, h5, h6, h7, h8, h9, h10, h11, h12, h13, h14, h15, h16, h17⟩, s0, s1⟩ := h
  have hb : Below W.heap.size (W.alloc o) (W.alloc o') := bel_re W o o'
  refine ⟨⟨?_, ?_, ?_, ?_, ?_, ?_, ?_, ?_, ?_, ?_, ?_, ?_, ?_, ?_, ?_, ?_, ?_, ?_⟩, Nat.lt_of_lt_of_le s0 hb.size, Nat.lt_of_lt_of_le s1 hb.size⟩
  · rw [hb.cell p0]; exact h0
  · rw [hb.cell p0]; exact h1
  · rw [hb.cell p0]; exact h2
  · rw [hb.cell p0]; exact h3
  · rw [hb.cell p0]; exact h4
  · rw [hb.cell p0]; exact h5
  · rw [hb.cell p0]; exact h6
  · rw [hb.cell p0]; exact h7
  · rw [hb.cell p0]; exact h8
  · rw [hb.cell p1]; exact h9
  · rw [hb.cell p1]; exact h10
  · rw [hb.cell p1]; exact h11
  · rw [hb.cell p1]; exact h12
  · rw [hb.cell p1]; exact h13
  · rw [hb.cell p1]; exact h14
  · rw [hb.cell p1]; exact h15
  · rw [hb.cell p1]; exact h16
  · rw [hb.cell p1]; exact h17

end Go.Proofs.YtbockbdlojkpiaaGreat
/- Proved here, for any program: a slice of structs of 9 ints as a list of rows in memory: kept, filled, owned, told to be the same, marked and found again. -/
namespace Go.Proofs.YtbockbdlojkpiaaGreat
open Go.ChangeShapes Go.WideShapes Go.ChangeAt Go.RowKit
set_option linter.unusedVariables false

/-- A row of 9 numbers. -/
structure PnR where
  ky : Int
  st : Int
  en : Int
  no : Int
  kd : Int
  n : Int
  su : Int
  le : Int
  mo : Int
/-- A row lies in its cells; rows lie one behind the other; a slice's value holds rows. -/
def PnRAt (W : World) (g o : Nat) (x : PnR) : Prop := W.cell? ⟨g, o, none⟩ = some (.int .i64 x.ky) ∧ W.cell? ⟨g, o + 1, none⟩ = some (.int .i64 x.st) ∧ W.cell? ⟨g, o + 2, none⟩ = some (.int .i64 x.en) ∧ W.cell? ⟨g, o + 3, none⟩ = some (.int .i64 x.no) ∧ W.cell? ⟨g, o + 4, none⟩ = some (.int .i64 x.kd) ∧ W.cell? ⟨g, o + 5, none⟩ = some (.int .i64 x.n) ∧ W.cell? ⟨g, o + 6, none⟩ = some (.int .i64 x.su) ∧ W.cell? ⟨g, o + 7, none⟩ = some (.int .i64 x.le) ∧ W.cell? ⟨g, o + 8, none⟩ = some (.int .i64 x.mo)
def PnRsAt (W : World) (g o : Nat) (xs : List PnR) : Prop := ∀ i x, xs[i]? = some x → PnRAt W g (o + i * 9) x
def PnRs (W : World) (a : Option Addr) (len : Nat) (xs : List PnR) : Prop := xs.length = len ∧ len ≤ maxLen ∧ (len = 0 ∨ ∃ g o, a = some ⟨g, o, none⟩ ∧ PnRsAt W g o xs)
theorem PnRAt.lt {W : World} {g o : Nat} {x : PnR} (h : PnRAt W g o x) : g < W.heap.size := by
  obtain ⟨h0, _⟩ := h
  rcases Nat.lt_or_ge g W.heap.size with hl | hg
  · exact hl
  · simp [World.cell?, Array.getElem?_eq_none hg] at h0
theorem PnRsAt.lt {W : World} {g o : Nat} {xs : List PnR} (h : PnRsAt W g o xs) (hp : 0 < xs.length) : g < W.heap.size := (h 0 xs[0] (List.getElem?_eq_getElem hp)).lt
theorem PnRAt.below {W W' : World} {B g o : Nat} {x : PnR} (h : PnRAt W g o x) (hb : Below B W W') (hg : g < B) : PnRAt W' g o x := by
  obtain ⟨h0, h1, h2, h3, h4, h5, h6, h7, h8⟩ := h
  exact ⟨(hb.cell (p := ⟨g, _, none⟩) hg).trans h0, (hb.cell (p := ⟨g, _, none⟩) hg).trans h1, (hb.cell (p := ⟨g, _, none⟩) hg).trans h2, (hb.cell (p := ⟨g, _, none⟩) hg).trans h3, (hb.cell (p := ⟨g, _, none⟩) hg).trans h4, (hb.cell (p := ⟨g, _, none⟩) hg).trans h5, (hb.cell (p := ⟨g, _, none⟩) hg).trans h6, (hb.cell (p := ⟨g, _, none⟩) hg).trans h7, (hb.cell (p := ⟨g, _, none⟩) hg).trans h8⟩
theorem PnRsAt.below {W W' : World} {B g o : Nat} {xs : List PnR} (h : PnRsAt W g o xs) (hb : Below B W W') (hg : 0 < xs.length → g < B) : PnRsAt W' g o xs := by
  intro i x hx
  have hlt : i < xs.length := (List.getElem?_eq_some_iff.1 hx).1
  exact (h i x hx).below hb (hg (by omega))
theorem PnRs.below {W W' : World} {a : Option Addr} {len : Nat} {xs : List PnR} (h : PnRs W a len xs) (hb : Below W.heap.size W W') : PnRs W' a len xs := by
  obtain ⟨h1, h2, h3⟩ := h
  refine ⟨h1, h2, ?_⟩
  rcases h3 with h3 | ⟨g, o, ha, hr⟩
  · exact Or.inl h3
  · exact Or.inr ⟨g, o, ha, hr.below hb (fun hp => hr.lt hp)⟩
theorem PnRAt.grown {W W' : World} {row : Option Nat} {g o : Nat} {x : PnR} (h : PnRAt W g o x) (hg : W.grownBy W' row) (hne : some g ≠ row) : PnRAt W' g o x := by
  have hbk := hg.block g h.lt hne
  obtain ⟨h0, h1, h2, h3, h4, h5, h6, h7, h8⟩ := h
  exact ⟨(World.cell?_of_block (w := W) hbk).trans h0, (World.cell?_of_block (w := W) hbk).trans h1, (World.cell?_of_block (w := W) hbk).trans h2, (World.cell?_of_block (w := W) hbk).trans h3, (World.cell?_of_block (w := W) hbk).trans h4, (World.cell?_of_block (w := W) hbk).trans h5, (World.cell?_of_block (w := W) hbk).trans h6, (World.cell?_of_block (w := W) hbk).trans h7, (World.cell?_of_block (w := W) hbk).trans h8⟩
theorem PnRs.grown {W W' : World} {row : Option Nat} {a : Option Addr} {n : Nat} {xs : List PnR} (h : PnRs W a n xs) (hg : W.grownBy W' row) (hne : ∀ g o, 0 < n → a = some ⟨g, o, none⟩ → some g ≠ row) : PnRs W' a n xs := by
  obtain ⟨h1, h2, h3⟩ := h
  refine ⟨h1, h2, ?_⟩
  rcases h3 with h3 | ⟨g, o, ha, hr⟩
  · exact Or.inl h3
  · refine Or.inr ⟨g, o, ha, fun i x hx => (hr i x hx).grown hg (hne g o ?_ ha)⟩
    have hlt : i < xs.length := (List.getElem?_eq_some_iff.1 hx).1
    omega
theorem PnRs.lt {W : World} {g o n : Nat} {xs : List PnR} (h : PnRs W (some ⟨g, o, none⟩) n xs) (hp : 0 < n) : g < W.heap.size := by
  obtain ⟨h1, h2, h3⟩ := h
  obtain ⟨g', o', ha, hr⟩ := h3.resolve_left (by omega)
  simp at ha
  have := hr.lt (by omega)
  omega

/-- A row is stored; a block of rows, known whole. -/
def setPn (W : World) (g o : Nat) (x : PnR) : World := (((((((((W.setCell ⟨g, o, none⟩ (.int .i64 x.ky)).setCell ⟨g, o + 1, none⟩ (.int .i64 x.st)).setCell ⟨g, o + 2, none⟩ (.int .i64 x.en)).setCell ⟨g, o + 3, none⟩ (.int .i64 x.no)).setCell ⟨g, o + 4, none⟩ (.int .i64 x.kd)).setCell ⟨g, o + 5, none⟩ (.int .i64 x.n)).setCell ⟨g, o + 6, none⟩ (.int .i64 x.su)).setCell ⟨g, o + 7, none⟩ (.int .i64 x.le)).setCell ⟨g, o + 8, none⟩ (.int .i64 x.mo))
def BlkPn (W : World) (g ty len : Nat) : Prop := ∃ cur, W.heap[g]? = some (.cells cur ty (0, 0)) ∧ cur.size = len * 9
theorem BlkPn.set {W : World} {g ty len i : Nat} (h : BlkPn W g ty len) (v : Value) : BlkPn (W.setCell ⟨g, i, none⟩ v) g ty len := by
  obtain ⟨cur, h1, h2⟩ := h
  exact ⟨_, Joins.block_setCell h1 v, by simp [h2]⟩
theorem BlkPn.below {W W' : World} {g ty len B : Nat} (h : BlkPn W g ty len) (hb : Below B W W') (hg : g < B) : BlkPn W' g ty len := by
  obtain ⟨cur, h1, h2⟩ := h
  exact ⟨cur, (hb.block g hg).trans h1, h2⟩
theorem BlkPn.lt {W : World} {g ty len : Nat} (h : BlkPn W g ty len) : g < W.heap.size := by
  obtain ⟨cur, h1, h2⟩ := h
  exact (Array.getElem?_eq_some_iff.1 h1).1
theorem BlkPn.cell {W : World} {g ty len i : Nat} (h : BlkPn W g ty len) (hi : i < len * 9) : ∃ u, W.cell? ⟨g, i, none⟩ = some u := by
  obtain ⟨cur, h1, h2⟩ := h
  exact ⟨_, (Joins.cell_of_block h1 i).trans (Array.getElem?_eq_getElem (by omega))⟩
theorem BlkPn.frozen {W : World} {g ty len i : Nat} (h : BlkPn W g ty len) : W.frozen? ⟨g, i, none⟩ = false := by
  obtain ⟨cur, h1, h2⟩ := h
  exact Joins.unfrozen_of_block h1 i
theorem BlkPn.cells {W : World} {g ty len k : Nat} (h : BlkPn W g ty len) (hk : k < len) : (∃ u, W.cell? ⟨g, k * 9, none⟩ = some u) ∧ (∃ u, W.cell? ⟨g, k * 9 + 1, none⟩ = some u) ∧ (∃ u, W.cell? ⟨g, k * 9 + 2, none⟩ = some u) ∧ (∃ u, W.cell? ⟨g, k * 9 + 3, none⟩ = some u) ∧ (∃ u, W.cell? ⟨g, k * 9 + 4, none⟩ = some u) ∧ (∃ u, W.cell? ⟨g, k * 9 + 5, none⟩ = some u) ∧ (∃ u, W.cell? ⟨g, k * 9 + 6, none⟩ = some u) ∧ (∃ u, W.cell? ⟨g, k * 9 + 7, none⟩ = some u) ∧ (∃ u, W.cell? ⟨g, k * 9 + 8, none⟩ = some u) := ⟨h.cell (by omega), h.cell (by omega), h.cell (by omega), h.cell (by omega), h.cell (by omega), h.cell (by omega), h.cell (by omega), h.cell (by omega), h.cell (by omega)⟩
theorem BlkPn.sets {W : World} {g ty len o : Nat} (h : BlkPn W g ty len) (x : PnR) : BlkPn (setPn W g o x) g ty len := (((((((((h.set _).set _).set _).set _).set _).set _).set _).set _).set _)
theorem Pn_other {W : World} {g i j : Nat} {v : Value} (h : i ≠ j) : (W.setCell ⟨g, i, none⟩ v).cell? ⟨g, j, none⟩ = W.cell? ⟨g, j, none⟩ := World.cell?_setCell_other _ _ _ _ (by intro e; injection e with e1 e2; exact h e2)
theorem Pn_this {W : World} {g ty len i : Nat} {v : Value} (h : BlkPn W g ty len) (hi : i < len * 9) : (W.setCell ⟨g, i, none⟩ v).cell? ⟨g, i, none⟩ = some v := by
  obtain ⟨u, hu⟩ := h.cell hi
  exact World.cell?_setCell_same _ _ _ hu
theorem setPn_this {W : World} {g ty len k : Nat} (h : BlkPn W g ty len) (hk : k < len) (x : PnR) : PnRAt (setPn W g (k * 9) x) g (k * 9) x := by
  unfold setPn
  refine ⟨?_, ?_, ?_, ?_, ?_, ?_, ?_, ?_, ?_⟩
  · rw [Pn_other (by omega), Pn_other (by omega), Pn_other (by omega), Pn_other (by omega), Pn_other (by omega), Pn_other (by omega), Pn_other (by omega), Pn_other (by omega), Pn_this h (by omega)]
  · rw [Pn_other (by omega), Pn_other (by omega), Pn_other (by omega), Pn_other (by omega), Pn_other (by omega), Pn_other (by omega), Pn_other (by omega), Pn_this (h.set _) (by omega)]
  · rw [Pn_other (by omega), Pn_other (by omega), Pn_other (by omega), Pn_other (by omega), Pn_other (by omega), Pn_other (by omega), Pn_this ((h.set _).set _) (by omega)]
  · rw [Pn_other (by omega), Pn_other (by omega), Pn_other (by omega), Pn_other (by omega), Pn_other (by omega), Pn_this (((h.set _).set _).set _) (by omega)]
  · rw [Pn_other (by omega), Pn_other (by omega), Pn_other (by omega), Pn_other (by omega), Pn_this ((((h.set _).set _).set _).set _) (by omega)]
  · rw [Pn_other (by omega), Pn_other (by omega), Pn_other (by omega), Pn_this (((((h.set _).set _).set _).set _).set _) (by omega)]
  · rw [Pn_other (by omega), Pn_other (by omega), Pn_this ((((((h.set _).set _).set _).set _).set _).set _) (by omega)]
  · rw [Pn_other (by omega), Pn_this (((((((h.set _).set _).set _).set _).set _).set _).set _) (by omega)]
  · rw [Pn_this ((((((((h.set _).set _).set _).set _).set _).set _).set _).set _) (by omega)]
theorem setPn_ne {W : World} {g i k : Nat} {x y : PnR} (h : PnRAt W g (i * 9) y) (hk : i ≠ k) : PnRAt (setPn W g (k * 9) x) g (i * 9) y := by
  unfold setPn
  obtain ⟨h0, h1, h2, h3, h4, h5, h6, h7, h8⟩ := h
  refine ⟨?_, ?_, ?_, ?_, ?_, ?_, ?_, ?_, ?_⟩
  · rw [Pn_other (by omega), Pn_other (by omega), Pn_other (by omega), Pn_other (by omega), Pn_other (by omega), Pn_other (by omega), Pn_other (by omega), Pn_other (by omega), Pn_other (by omega)]; exact h0
  · rw [Pn_other (by omega), Pn_other (by omega), Pn_other (by omega), Pn_other (by omega), Pn_other (by omega), Pn_other (by omega), Pn_other (by omega), Pn_other (by omega), Pn_other (by omega)]; exact h1
  · rw [Pn_other (by omega), Pn_other (by omega), Pn_other (by omega), Pn_other (by omega), Pn_other (by omega), Pn_other (by omega), Pn_other (by omega), Pn_other (by omega), Pn_other (by omega)]; exact h2
  · rw [Pn_other (by omega), Pn_other (by omega), Pn_other (by omega), Pn_other (by omega), Pn_other (by omega), Pn_other (by omega), Pn_other (by omega), Pn_other (by omega), Pn_other (by omega)]; exact h3
  · rw [Pn_other (by omega), Pn_other (by omega), Pn_other (by omega), Pn_other (by omega), Pn_other (by omega), Pn_other (by omega), Pn_other (by omega), Pn_other (by omega), Pn_other (by omega)]; exact h4
  · rw [Pn_other (by omega), Pn_other (by omega), Pn_other (by omega), Pn_other (by omega), Pn_other (by omega), Pn_other (by omega), Pn_other (by omega), Pn_other (by omega), Pn_other (by omega)]; exact h5
  · rw [Pn_other (by omega), Pn_other (by omega), Pn_other (by omega), Pn_other (by omega), Pn_other (by omega), Pn_other (by omega), Pn_other (by omega), Pn_other (by omega), Pn_other (by omega)]; exact h6
  · rw [Pn_other (by omega), Pn_other (by omega), Pn_other (by omega), Pn_other (by omega), Pn_other (by omega), Pn_other (by omega), Pn_other (by omega), Pn_other (by omega), Pn_other (by omega)]; exact h7
  · rw [Pn_other (by omega), Pn_other (by omega), Pn_other (by omega), Pn_other (by omega), Pn_other (by omega), Pn_other (by omega), Pn_other (by omega), Pn_other (by omega), Pn_other (by omega)]; exact h8
theorem grown_setPn {W W' : World} {g o : Nat} {x : PnR} (h : W.grownBy W' (some g)) : W.grownBy (setPn W' g o x) (some g) := by
  have hs : ∀ (X : World) (i : Nat) (v : Value), W.grownBy X (some g) → W.grownBy (X.setCell ⟨g, i, none⟩ v) (some g) := by
    intro X i v hX
    exact ⟨hX.os, hX.tape, hX.output, by simp [World.setCell]; exact hX.size, fun k hk hne => (Below.heap_setCell X _ v k (fun e => hne (by rw [e]))).trans (hX.block k hk hne)⟩
  exact hs _ _ _ (hs _ _ _ (hs _ _ _ (hs _ _ _ (hs _ _ _ (hs _ _ _ (hs _ _ _ (hs _ _ _ (hs _ _ _ (h)))))))))
end Go.Proofs.YtbockbdlojkpiaaGreat
/- Proved here: what panes tell, one behind the other, in the specification. -/
namespace Go.Proofs.YtbockbdlojkpiaaGreat
open Go.ChangeShapes Go.WideShapes Go.ChangeAt Go.RowKit
set_option linter.unusedVariables false

/-- What is known of a window, if a row was found. -/
def aggF : Option TbR → Int × Int × Int × Int
  | some x => (x.n, x.su, x.le, x.mo)
  | none => (0, 0, 0, 0)

/-- What is known of both. -/
def bothF (f : Int × Int × Int × Int) (n s l m : Int) : Int × Int × Int × Int := (bo f.1 n f.1 n (wrap64 (f.1 + n)), bo f.1 n f.2.1 s (wrap64 (f.2.1 + s)), bo f.1 n f.2.2.1 l (loI f.2.2.1 l), bo f.1 n f.2.2.2 m (hiI f.2.2.2 m))

def tabAgg (pc : Bool) (rows : List TbR) (p : PnR) : Int × Int × Int × Int := if pc then bothF (aggF (findT p.ky p.st p.en rows)) p.n p.su p.le p.mo else (p.n, p.su, p.le, p.mo)

def tabRow (p : PnR) (g : Int × Int × Int × Int) : TbR := ⟨p.ky, p.st, p.en, g.1, g.2.1, g.2.2.1, g.2.2.2⟩

def tabStep (pc : Bool) (rows : List TbR) (p : PnR) : List TbR := if p.kd = 3 then kpTb p.ky p.st p.en rows else insR (tabRow p (tabAgg pc rows p)) (kpTb p.ky p.st p.en rows)

def tabOfL (pc : Bool) (ps : List PnR) : List TbR := ps.foldl (tabStep pc) []

theorem tabOfL_snoc {pc : Bool} {ps : List PnR} {k : Nat} {p : PnR} (h : ps[k]? = some p) : tabOfL pc (ps.take (k + 1)) = tabStep pc (tabOfL pc (ps.take k)) p := by
  unfold tabOfL
  rw [List.take_add_one, h, List.foldl_append]
  rfl

theorem tabStep_len (pc : Bool) (rows : List TbR) (p : PnR) : (tabStep pc rows p).length ≤ rows.length + 1 := by
  unfold tabStep
  split
  · exact Nat.le_trans (kpTb_le _ _ _ _) (Nat.le_succ _)
  · rw [insR_len]; exact Nat.succ_le_succ (kpTb_le _ _ _ _)

theorem tabOfL_len (pc : Bool) (ps : List PnR) : (tabOfL pc ps).length ≤ ps.length := by
  have : ∀ (l : List PnR) (rows : List TbR), (l.foldl (tabStep pc) rows).length ≤ rows.length + l.length := by
    intro l
    induction l with
    | nil => intro rows; simp
    | cons p l ih =>
      intro rows
      have h1 := ih (tabStep pc rows p)
      have h2 := tabStep_len pc rows p
      simp only [List.foldl_cons, List.length_cons]
      omega
  simpa [tabOfL] using this ps []

theorem tabOfL_le (pc : Bool) (ps : List PnR) (k : Nat) : (tabOfL pc (ps.take k)).length ≤ ps.length := Nat.le_trans (tabOfL_len pc _) (by rw [List.length_take]; omega)

theorem foundV_is (o : Option TbR) {n s l m : Int} (h : aggF o = (n, s, l, m)) : ∃ b, foundV o = .tuple #[.agg #[.int .i64 n, .int .i64 s, .int .i64 l, .int .i64 m], .bool b] := by
  cases o with
  | none => cases h; exact ⟨false, rfl⟩
  | some x => cases h; exact ⟨true, rfl⟩

theorem specfind_at (a : Option Addr) (len cap : Nat) (xs : List TbR) (ky st en : Int) (w : World) {n s l m : Int} {b : Bool} (h : TbRs w a len xs) (hV : Hid (foundV (findT ky st en xs) = .tuple #[.agg #[.int .i64 n, .int .i64 s, .int .i64 l, .int .i64 m], .bool b])) : Calls Tryz.prog 26 #[.slice a len cap, .int .i64 ky, .agg #[.int .i64 st, .int .i64 en]] w fun e w' => e = .returned (.tuple #[.agg #[.int .i64 n, .int .i64 s, .int .i64 l, .int .i64 m], .bool b]) ∧ Below w.heap.size w w' := by
  rw [← unhide hV]; exact specfind_any a len cap xs ky st en w h

theorem specboth_at {n s l m n' s' l' m' x y u v : Int} (w : World) (h : Hid (bothF (n, s, l, m) n' s' l' m' = (x, y, u, v))) : Calls Tryz.prog 52 #[.agg #[.int .i64 n, .int .i64 s, .int .i64 l, .int .i64 m], .agg #[.int .i64 n', .int .i64 s', .int .i64 l', .int .i64 m']] w fun e w' => e = .returned (.agg #[.int .i64 x, .int .i64 y, .int .i64 u, .int .i64 v]) ∧ Below w.heap.size w w' := by
  have h9 := unhide h
  simp only [bothF, Prod.mk.injEq] at h9
  obtain ⟨rfl, rfl, rfl, rfl⟩ := h9
  exact specboth_any n s l m n' s' l' m' w
end Go.Proofs.YtbockbdlojkpiaaGreat
/- Proved here: rows that are put in their places one behind the other are those of a map, in the order of its places. -/
namespace Go.Proofs.YtbockbdlojkpiaaGreat
open Go.RowKit Go.Sort Go.Lib
set_option linter.unusedVariables false

def plT (r : TbR) : P3 := (r.ky, r.st, r.en)
def agT (r : TbR) : Ag4 := (r.n, r.su, r.le, r.mo)
def plP (p : PnR) : P3 := (p.ky, p.st, p.en)
/-- Rows rise by places. -/
def RiseT (rows : List TbR) : Prop := rows.Pairwise (fun a b => ltPl (plT a) (plT b))
/-- What rows tell of a place. -/
def valT (rows : List TbR) (q : P3) : Option Ag4 := (findT q.1 q.2.1 q.2.2 rows).map agT
theorem ltPl_irr (x : P3) : ¬ ltPl x x := by unfold ltPl; omega
theorem ltPl_tr {a b c : P3} (h : ltPl a b) (k : ltPl b c) : ltPl a c := by unfold ltPl at *; omega
theorem ltPl_tri (a b : P3) : ltPl a b ∨ a = b ∨ ltPl b a := by
  obtain ⟨a1, a2, a3⟩ := a
  obtain ⟨b1, b2, b3⟩ := b
  unfold ltPl
  by_cases e1 : a1 = b1
  · by_cases e2 : a2 = b2
    · by_cases e3 : a3 = b3
      · subst e1 e2 e3; exact .inr (.inl rfl)
      · simp only; omega
    · simp only; omega
  · simp only; omega
theorem aheadR_iff (r x : TbR) : aheadR r x = true ↔ ltPl (plT r) (plT x) := by
  rw [← cfPl_iff]
  unfold aheadR cfPl plT
  exact decide_eq_true_iff
theorem isB_iff (q : P3) (x : TbR) : TbR.isB q.1 q.2.1 q.2.2 x = true ↔ plT x = q := by
  obtain ⟨a, b, c⟩ := q
  simp [TbR.isB, plT]
theorem mem_insR {r x : TbR} {xs : List TbR} : x ∈ insR r xs ↔ x = r ∨ x ∈ xs := by
  induction xs with
  | nil => simp [insR]
  | cons y t ih =>
    unfold insR
    split
    · simp
    · simp [ih]; constructor
      · rintro (h | h | h) <;> simp [h]
      · rintro (h | h | h) <;> simp [h]
theorem ins_rise {r : TbR} {xs : List TbR} (h : RiseT xs) (hn : ∀ x ∈ xs, plT x ≠ plT r) : RiseT (insR r xs) := by
  induction xs with
  | nil => simp [insR, RiseT]
  | cons y t ih =>
    obtain ⟨hy, ht⟩ := List.pairwise_cons.1 h
    unfold insR
    split
    · rename_i ha
      rw [aheadR_iff] at ha
      refine List.pairwise_cons.2 ⟨fun x hx => ?_, h⟩
      rcases List.mem_cons.1 hx with rfl | hx
      · exact ha
      · exact ltPl_tr ha (hy x hx)
    · rename_i ha
      refine List.pairwise_cons.2 ⟨fun x hx => ?_, ih ht (fun x hx => hn x (List.mem_cons_of_mem _ hx))⟩
      rcases mem_insR.1 hx with rfl | hx
      · rcases ltPl_tri (plT y) (plT x) with h1 | h1 | h1
        · exact h1
        · exact absurd h1 (hn y (by simp))
        · exact absurd ((aheadR_iff _ _).2 h1) ha
      · exact hy x hx
theorem kp_rise {ky st en : Int} {xs : List TbR} (h : RiseT xs) : RiseT (kpTb ky st en xs) := List.Pairwise.sublist List.filter_sublist h
theorem kp_no {q : P3} {xs : List TbR} : ∀ x ∈ kpTb q.1 q.2.1 q.2.2 xs, plT x ≠ q := by
  intro x hx e
  have := (List.mem_filter.1 hx).2
  rw [(isB_iff q x).2 e] at this
  cases this
theorem val_nil (q : P3) : valT [] q = none := rfl
theorem val_cons (x : TbR) (t : List TbR) (q : P3) : valT (x :: t) q = if plT x = q then some (agT x) else valT t q := by
  unfold valT findT
  rw [List.find?_cons]
  by_cases h : plT x = q
  · rw [(isB_iff q x).2 h, if_pos h]; rfl
  · rw [if_neg h]
    have : TbR.isB q.1 q.2.1 q.2.2 x = false := by
      cases hb : TbR.isB q.1 q.2.1 q.2.2 x
      · rfl
      · exact absurd ((isB_iff q x).1 hb) h
    rw [this]
theorem val_none {xs : List TbR} {q : P3} (h : ∀ x ∈ xs, plT x ≠ q) : valT xs q = none := by
  induction xs with
  | nil => rfl
  | cons x t ih => rw [val_cons, if_neg (h x (by simp)), ih (fun y hy => h y (List.mem_cons_of_mem _ hy))]
theorem val_some {xs : List TbR} (h : RiseT xs) {x : TbR} (hx : x ∈ xs) : valT xs (plT x) = some (agT x) := by
  induction xs with
  | nil => cases hx
  | cons y t ih =>
    obtain ⟨hy, ht⟩ := List.pairwise_cons.1 h
    rw [val_cons]
    rcases List.mem_cons.1 hx with rfl | hx
    · rw [if_pos rfl]
    · rw [if_neg (fun e => ltPl_irr (plT x) (by have := hy x hx; rw [e] at this; exact this)), ih ht hx]
theorem val_mem {xs : List TbR} {q : P3} : q ∈ xs.map plT ↔ valT xs q ≠ none := by
  induction xs with
  | nil => simp [val_nil]
  | cons x t ih =>
    rw [val_cons, List.map_cons, List.mem_cons, ih]
    by_cases h : plT x = q
    · rw [if_pos h]; simp [h]
    · rw [if_neg h]
      constructor
      · rintro (h1 | h1)
        · exact absurd h1.symm h
        · exact h1
      · exact .inr
theorem val_ins {r : TbR} {xs : List TbR} (hn : ∀ x ∈ xs, plT x ≠ plT r) (q : P3) : valT (insR r xs) q = if q = plT r then some (agT r) else valT xs q := by
  induction xs with
  | nil =>
    unfold insR
    rw [val_cons]
    by_cases h : q = plT r
    · rw [if_pos h, if_pos h.symm]
    · rw [if_neg h, if_neg (fun e => h e.symm)]
  | cons y t ih =>
    have ih' := ih (fun x hx => hn x (List.mem_cons_of_mem _ hx))
    unfold insR
    split
    · rw [val_cons]
      by_cases h : q = plT r
      · rw [if_pos h, if_pos h.symm]
      · rw [if_neg h, if_neg (fun e => h e.symm)]
    · rw [val_cons, ih', val_cons]
      by_cases h : q = plT r
      · have : plT y ≠ q := fun e => hn y (by simp) (e.trans h)
        rw [if_neg this]
        simp only [if_pos h]
      · simp only [if_neg h]
theorem val_kp {q0 : P3} {xs : List TbR} (q : P3) : valT (kpTb q0.1 q0.2.1 q0.2.2 xs) q = if q = q0 then none else valT xs q := by
  by_cases h : q = q0
  · rw [if_pos h, h]; exact val_none kp_no
  · rw [if_neg h]
    induction xs with
    | nil => rfl
    | cons x t ih =>
      unfold kpTb
      rw [List.filter_cons]
      by_cases hb : plT x = q0
      · rw [(isB_iff q0 x).2 hb]
        simp only [Bool.not_true, Bool.false_eq_true, if_false]
        rw [val_cons, if_neg (fun e => h (by rw [← e, hb]))]
        exact ih
      · have hb' : TbR.isB q0.1 q0.2.1 q0.2.2 x = false := by
          cases h9 : TbR.isB q0.1 q0.2.1 q0.2.2 x
          · rfl
          · exact absurd ((isB_iff q0 x).1 h9) hb
        rw [hb']
        simp only [Bool.not_false, if_true]
        rw [val_cons, val_cons]
        by_cases e : plT x = q
        · simp only [if_pos e]
        · simp only [if_neg e]; exact ih
/-- A map behind one more pane. -/
def stepF (pc : Bool) (f : P3 → Option Ag4) (p : PnR) : P3 → Option Ag4 := fun q => if q = plP p then (if p.kd = 3 then none else some (if pc then bothF ((f (plP p)).getD ag0) p.n p.su p.le p.mo else (p.n, p.su, p.le, p.mo))) else f q
def mapF (pc : Bool) (ps : List PnR) : P3 → Option Ag4 := ps.foldl (stepF pc) (fun _ => none)
theorem mapF_snoc {pc : Bool} {ps : List PnR} {k : Nat} {p : PnR} (h : ps[k]? = some p) : mapF pc (ps.take (k + 1)) = stepF pc (mapF pc (ps.take k)) p := by
  unfold mapF
  rw [List.take_add_one, h, List.foldl_append]
  rfl
theorem aggF_val (rows : List TbR) (q : P3) : aggF (findT q.1 q.2.1 q.2.2 rows) = (valT rows q).getD ag0 := by
  unfold valT
  cases findT q.1 q.2.1 q.2.2 rows <;> rfl
theorem tab_step (pc : Bool) (p : PnR) {rows : List TbR} (h : RiseT rows) : RiseT (tabStep pc rows p) ∧ valT (tabStep pc rows p) = stepF pc (valT rows) p := by
  have hk := kp_rise (ky := p.ky) (st := p.st) (en := p.en) h
  have hno : ∀ x ∈ kpTb p.ky p.st p.en rows, plT x ≠ plP p := kp_no (q := plP p)
  have hv : ∀ q, valT (kpTb p.ky p.st p.en rows) q = if q = plP p then none else valT rows q := val_kp (q0 := plP p)
  unfold tabStep stepF
  by_cases h3 : p.kd = 3
  · rw [if_pos h3]
    refine ⟨hk, funext fun q => ?_⟩
    rw [hv q]
    simp only [if_pos h3]
  · rw [if_neg h3]
    have hpl : plT (tabRow p (tabAgg pc rows p)) = plP p := rfl
    refine ⟨ins_rise hk (by rw [hpl]; exact hno), funext fun q => ?_⟩
    rw [val_ins (by rw [hpl]; exact hno) q, hv q, hpl]
    by_cases e : q = plP p
    · rw [if_pos e, if_pos e, if_neg h3]
      have : agT (tabRow p (tabAgg pc rows p)) = tabAgg pc rows p := rfl
      rw [this]
      unfold tabAgg
      have h9 := aggF_val rows (plP p)
      show some (if pc = true then bothF (aggF (findT (plP p).1 (plP p).2.1 (plP p).2.2 rows)) p.n p.su p.le p.mo else _) = _
      rw [h9]
    · rw [if_neg e, if_neg e, if_neg e]
theorem tab_fold (pc : Bool) : ∀ (ps : List PnR) (rows : List TbR), RiseT rows → RiseT (ps.foldl (tabStep pc) rows) ∧ valT (ps.foldl (tabStep pc) rows) = ps.foldl (stepF pc) (valT rows)
  | [], rows, h => ⟨h, rfl⟩
  | p :: t, rows, h => by
    obtain ⟨h1, h2⟩ := tab_step pc p h
    rw [List.foldl_cons, List.foldl_cons, ← h2]
    exact tab_fold pc t _ h1
theorem tab_map (pc : Bool) (ps : List PnR) : RiseT (tabOfL pc ps) ∧ valT (tabOfL pc ps) = mapF pc ps := tab_fold pc ps [] List.Pairwise.nil
theorem mapF_in (pc : Bool) (q : P3) : ∀ (ps : List PnR) (f : P3 → Option Ag4), (ps.foldl (stepF pc) f) q ≠ none → f q ≠ none ∨ ∃ p ∈ ps, plP p = q
  | [], f, h => .inl h
  | p :: t, f, h => by
    rcases mapF_in pc q t _ h with h1 | ⟨p', hp', e⟩
    · by_cases e : plP p = q
      · exact .inr ⟨p, by simp, e⟩
      · unfold stepF at h1
        rw [if_neg (fun e' => e e'.symm)] at h1
        exact .inl h1
    · exact .inr ⟨p', List.mem_cons_of_mem _ hp', e⟩
theorem rise_eq : ∀ (xs zs : List P3), xs.Pairwise ltPl → zs.Pairwise ltPl → (∀ q, q ∈ xs ↔ q ∈ zs) → xs = zs
  | [], [], _, _, _ => rfl
  | [], b :: zs, _, _, h => by have := (h b).2 (by simp); cases this
  | a :: xs, [], _, _, h => by have := (h a).1 (by simp); cases this
  | a :: xs, b :: zs, h1, h2, h => by
    obtain ⟨ha, ha2⟩ := List.pairwise_cons.1 h1
    obtain ⟨hb, hb2⟩ := List.pairwise_cons.1 h2
    have e : a = b := by
      rcases List.mem_cons.1 ((h a).1 (by simp)) with e | e
      · exact e
      · rcases List.mem_cons.1 ((h b).2 (by simp)) with e' | e'
        · exact e'.symm
        · exact absurd (ltPl_tr (hb a e) (ha b e')) (ltPl_irr _)
    subst e
    rw [rise_eq xs zs ha2 hb2 (fun q => ⟨fun hq => ?_, fun hq => ?_⟩)]
    · rcases List.mem_cons.1 ((h q).1 (List.mem_cons_of_mem _ hq)) with e | e
      · subst e; exact absurd (ha _ hq) (ltPl_irr _)
      · exact e
    · rcases List.mem_cons.1 ((h q).2 (List.mem_cons_of_mem _ hq)) with e | e
      · subst e; exact absurd (hb _ hq) (ltPl_irr _)
      · exact e
theorem srt_rise {ss : List P3} (h : ss.Nodup) : (srt3 ss).Pairwise ltPl := by
  have h1 : (srt3 ss).Pairwise (fun x y => (!(ltOf cfPl) y x) = true) := List.pairwise_mergeSort (fun a b c h1 h2 => by
      simp only [Bool.not_eq_true', ltOfPl_f] at *
      unfold ltPl at *; omega) (fun a b => by
      rcases ltPl_tri a b with h | h | h
      · have : ltOf cfPl b a = false := (ltOfPl_f b a).2 (fun h' => ltPl_irr _ (ltPl_tr h h'))
        simp [this]
      · subst h
        have : ltOf cfPl a a = false := (ltOfPl_f a a).2 (ltPl_irr _)
        simp [this]
      · have : ltOf cfPl a b = false := (ltOfPl_f a b).2 (fun h' => ltPl_irr _ (ltPl_tr h h'))
        simp [this]) ss
  have h2 : (srt3 ss).Nodup := (srt3_perm ss).nodup_iff.2 h
  refine List.Pairwise.imp₂ (fun a b h3 h4 => ?_) h1 h2
  simp only [Bool.not_eq_true', ltOfPl_f] at h3
  rcases ltPl_tri a b with h | h | h
  · exact h
  · exact absurd h h4
  · exact absurd h h3
/-- What a map tells in order is what the rows are. -/
theorem rows_eq {pc : Bool} {ps : List PnR} {ys : List (P3 × Ag4)} (h : InOrd ag0 (mapF pc ps) ys) (hok : ∀ p ∈ ps, ok3 (plP p)) : ys.map rowT = tabOfL pc ps := by
  obtain ⟨ss, ⟨hnd, hmem⟩, rfl⟩ := h
  obtain ⟨hr, hv⟩ := tab_map pc ps
  have e : (tabOfL pc ps).map plT = srt3 ss := by
    refine rise_eq _ _ (List.pairwise_map.2 hr) (srt_rise hnd) (fun q => ?_)
    rw [val_mem, hv, (srt3_perm ss).mem_iff, hmem q]
    constructor
    · intro h9
      refine ⟨?_, h9⟩
      rcases mapF_in pc q ps _ h9 with h8 | ⟨p, hp, e⟩
      · exact absurd rfl h8
      · rw [← e]; exact hok p hp
    · exact fun h9 => h9.2
  rw [← e, List.map_map, List.map_map]
  conv => rhs; rw [← List.map_id (tabOfL pc ps)]
  refine List.map_congr_left (fun r hr9 => ?_)
  have h8 := val_some hr hr9
  rw [hv] at h8
  simp only [Function.comp_apply, h8, Option.getD_some, id]
  rfl
end Go.Proofs.YtbockbdlojkpiaaGreat
/- Proved here, for any program: a slice of structs of 7 ints as a list of rows in memory: kept, filled, owned, told to be the same, marked and found again. -/
namespace Go.Proofs.YtbockbdlojkpiaaGreat
open Go.ChangeShapes Go.WideShapes Go.ChangeAt Go.RowKit
set_option linter.unusedVariables false

/-- A row of 7 numbers. -/
structure LpR where
  kd : Int
  tm : Int
  ke : Int
  va : Int
  nn : Int
  st : Int
  en : Int
/-- A row lies in its cells; rows lie one behind the other; a slice's value holds rows. -/
def LpRAt (W : World) (g o : Nat) (x : LpR) : Prop := W.cell? ⟨g, o, none⟩ = some (.int .i64 x.kd) ∧ W.cell? ⟨g, o + 1, none⟩ = some (.int .i64 x.tm) ∧ W.cell? ⟨g, o + 2, none⟩ = some (.int .i64 x.ke) ∧ W.cell? ⟨g, o + 3, none⟩ = some (.int .i64 x.va) ∧ W.cell? ⟨g, o + 4, none⟩ = some (.int .i64 x.nn) ∧ W.cell? ⟨g, o + 5, none⟩ = some (.int .i64 x.st) ∧ W.cell? ⟨g, o + 6, none⟩ = some (.int .i64 x.en)
def LpRsAt (W : World) (g o : Nat) (xs : List LpR) : Prop := ∀ i x, xs[i]? = some x → LpRAt W g (o + i * 7) x
def LpRs (W : World) (a : Option Addr) (len : Nat) (xs : List LpR) : Prop := xs.length = len ∧ len ≤ maxLen ∧ (len = 0 ∨ ∃ g o, a = some ⟨g, o, none⟩ ∧ LpRsAt W g o xs)
theorem LpRAt.lt {W : World} {g o : Nat} {x : LpR} (h : LpRAt W g o x) : g < W.heap.size := by
  obtain ⟨h0, _⟩ := h
  rcases Nat.lt_or_ge g W.heap.size with hl | hg
  · exact hl
  · simp [World.cell?, Array.getElem?_eq_none hg] at h0
theorem LpRsAt.lt {W : World} {g o : Nat} {xs : List LpR} (h : LpRsAt W g o xs) (hp : 0 < xs.length) : g < W.heap.size := (h 0 xs[0] (List.getElem?_eq_getElem hp)).lt
theorem LpRAt.below {W W' : World} {B g o : Nat} {x : LpR} (h : LpRAt W g o x) (hb : Below B W W') (hg : g < B) : LpRAt W' g o x := by
  obtain ⟨h0, h1, h2, h3, h4, h5, h6⟩ := h
  exact ⟨(hb.cell (p := ⟨g, _, none⟩) hg).trans h0, (hb.cell (p := ⟨g, _, none⟩) hg).trans h1, (hb.cell (p := ⟨g, _, none⟩) hg).trans h2, (hb.cell (p := ⟨g, _, none⟩) hg).trans h3, (hb.cell (p := ⟨g, _, none⟩) hg).trans h4, (hb.cell (p := ⟨g, _, none⟩) hg).trans h5, (hb.cell (p := ⟨g, _, none⟩) hg).trans h6⟩
theorem LpRsAt.below {W W' : World} {B g o : Nat} {xs : List LpR} (h : LpRsAt W g o xs) (hb : Below B W W') (hg : 0 < xs.length → g < B) : LpRsAt W' g o xs := by
  intro i x hx
  have hlt : i < xs.length := (List.getElem?_eq_some_iff.1 hx).1
  exact (h i x hx).below hb (hg (by omega))
theorem LpRs.below {W W' : World} {a : Option Addr} {len : Nat} {xs : List LpR} (h : LpRs W a len xs) (hb : Below W.heap.size W W') : LpRs W' a len xs := by
  obtain ⟨h1, h2, h3⟩ := h
  refine ⟨h1, h2, ?_⟩
  rcases h3 with h3 | ⟨g, o, ha, hr⟩
  · exact Or.inl h3
  · exact Or.inr ⟨g, o, ha, hr.below hb (fun hp => hr.lt hp)⟩
theorem LpRAt.grown {W W' : World} {row : Option Nat} {g o : Nat} {x : LpR} (h : LpRAt W g o x) (hg : W.grownBy W' row) (hne : some g ≠ row) : LpRAt W' g o x := by
  have hbk := hg.block g h.lt hne
  obtain ⟨h0, h1, h2, h3, h4, h5, h6⟩ := h
  exact ⟨(World.cell?_of_block (w := W) hbk).trans h0, (World.cell?_of_block (w := W) hbk).trans h1, (World.cell?_of_block (w := W) hbk).trans h2, (World.cell?_of_block (w := W) hbk).trans h3, (World.cell?_of_block (w := W) hbk).trans h4, (World.cell?_of_block (w := W) hbk).trans h5, (World.cell?_of_block (w := W) hbk).trans h6⟩
theorem LpRs.grown {W W' : World} {row : Option Nat} {a : Option Addr} {n : Nat} {xs : List LpR} (h : LpRs W a n xs) (hg : W.grownBy W' row) (hne : ∀ g o, 0 < n → a = some ⟨g, o, none⟩ → some g ≠ row) : LpRs W' a n xs := by
  obtain ⟨h1, h2, h3⟩ := h
  refine ⟨h1, h2, ?_⟩
  rcases h3 with h3 | ⟨g, o, ha, hr⟩
  · exact Or.inl h3
  · refine Or.inr ⟨g, o, ha, fun i x hx => (hr i x hx).grown hg (hne g o ?_ ha)⟩
    have hlt : i < xs.length := (List.getElem?_eq_some_iff.1 hx).1
    omega
theorem LpRs.lt {W : World} {g o n : Nat} {xs : List LpR} (h : LpRs W (some ⟨g, o, none⟩) n xs) (hp : 0 < n) : g < W.heap.size := by
  obtain ⟨h1, h2, h3⟩ := h
  obtain ⟨g', o', ha, hr⟩ := h3.resolve_left (by omega)
  simp at ha
  have := hr.lt (by omega)
  omega

/-- A row is stored; a block of rows, known whole. -/
def setLp (W : World) (g o : Nat) (x : LpR) : World := (((((((W.setCell ⟨g, o, none⟩ (.int .i64 x.kd)).setCell ⟨g, o + 1, none⟩ (.int .i64 x.tm)).setCell ⟨g, o + 2, none⟩ (.int .i64 x.ke)).setCell ⟨g, o + 3, none⟩ (.int .i64 x.va)).setCell ⟨g, o + 4, none⟩ (.int .i64 x.nn)).setCell ⟨g, o + 5, none⟩ (.int .i64 x.st)).setCell ⟨g, o + 6, none⟩ (.int .i64 x.en))
def BlkLp (W : World) (g ty len : Nat) : Prop := ∃ cur, W.heap[g]? = some (.cells cur ty (0, 0)) ∧ cur.size = len * 7
theorem BlkLp.set {W : World} {g ty len i : Nat} (h : BlkLp W g ty len) (v : Value) : BlkLp (W.setCell ⟨g, i, none⟩ v) g ty len := by
  obtain ⟨cur, h1, h2⟩ := h
  exact ⟨_, Joins.block_setCell h1 v, by simp [h2]⟩
theorem BlkLp.below {W W' : World} {g ty len B : Nat} (h : BlkLp W g ty len) (hb : Below B W W') (hg : g < B) : BlkLp W' g ty len := by
  obtain ⟨cur, h1, h2⟩ := h
  exact ⟨cur, (hb.block g hg).trans h1, h2⟩
theorem BlkLp.lt {W : World} {g ty len : Nat} (h : BlkLp W g ty len) : g < W.heap.size := by
  obtain ⟨cur, h1, h2⟩ := h
  exact (Array.getElem?_eq_some_iff.1 h1).1
theorem BlkLp.cell {W : World} {g ty len i : Nat} (h : BlkLp W g ty len) (hi : i < len * 7) : ∃ u, W.cell? ⟨g, i, none⟩ = some u := by
  obtain ⟨cur, h1, h2⟩ := h
  exact ⟨_, (Joins.cell_of_block h1 i).trans (Array.getElem?_eq_getElem (by omega))⟩
theorem BlkLp.frozen {W : World} {g ty len i : Nat} (h : BlkLp W g ty len) : W.frozen? ⟨g, i, none⟩ = false := by
  obtain ⟨cur, h1, h2⟩ := h
  exact Joins.unfrozen_of_block h1 i
theorem BlkLp.cells {W : World} {g ty len k : Nat} (h : BlkLp W g ty len) (hk : k < len) : (∃ u, W.cell? ⟨g, k * 7, none⟩ = some u) ∧ (∃ u, W.cell? ⟨g, k * 7 + 1, none⟩ = some u) ∧ (∃ u, W.cell? ⟨g, k * 7 + 2, none⟩ = some u) ∧ (∃ u, W.cell? ⟨g, k * 7 + 3, none⟩ = some u) ∧ (∃ u, W.cell? ⟨g, k * 7 + 4, none⟩ = some u) ∧ (∃ u, W.cell? ⟨g, k * 7 + 5, none⟩ = some u) ∧ (∃ u, W.cell? ⟨g, k * 7 + 6, none⟩ = some u) := ⟨h.cell (by omega), h.cell (by omega), h.cell (by omega), h.cell (by omega), h.cell (by omega), h.cell (by omega), h.cell (by omega)⟩
theorem BlkLp.sets {W : World} {g ty len o : Nat} (h : BlkLp W g ty len) (x : LpR) : BlkLp (setLp W g o x) g ty len := (((((((h.set _).set _).set _).set _).set _).set _).set _)
theorem Lp_other {W : World} {g i j : Nat} {v : Value} (h : i ≠ j) : (W.setCell ⟨g, i, none⟩ v).cell? ⟨g, j, none⟩ = W.cell? ⟨g, j, none⟩ := World.cell?_setCell_other _ _ _ _ (by intro e; injection e with e1 e2; exact h e2)
theorem Lp_this {W : World} {g ty len i : Nat} {v : Value} (h : BlkLp W g ty len) (hi : i < len * 7) : (W.setCell ⟨g, i, none⟩ v).cell? ⟨g, i, none⟩ = some v := by
  obtain ⟨u, hu⟩ := h.cell hi
  exact World.cell?_setCell_same _ _ _ hu
theorem setLp_this {W : World} {g ty len k : Nat} (h : BlkLp W g ty len) (hk : k < len) (x : LpR) : LpRAt (setLp W g (k * 7) x) g (k * 7) x := by
  unfold setLp
  refine ⟨?_, ?_, ?_, ?_, ?_, ?_, ?_⟩
  · rw [Lp_other (by omega), Lp_other (by omega), Lp_other (by omega), Lp_other (by omega), Lp_other (by omega), Lp_other (by omega), Lp_this h (by omega)]
  · rw [Lp_other (by omega), Lp_other (by omega), Lp_other (by omega), Lp_other (by omega), Lp_other (by omega), Lp_this (h.set _) (by omega)]
  · rw [Lp_other (by omega), Lp_other (by omega), Lp_other (by omega), Lp_other (by omega), Lp_this ((h.set _).set _) (by omega)]
  · rw [Lp_other (by omega), Lp_other (by omega), Lp_other (by omega), Lp_this (((h.set _).set _).set _) (by omega)]
  · rw [Lp_other (by omega), Lp_other (by omega), Lp_this ((((h.set _).set _).set _).set _) (by omega)]
  · rw [Lp_other (by omega), Lp_this (((((h.set _).set _).set _).set _).set _) (by omega)]
  · rw [Lp_this ((((((h.set _).set _).set _).set _).set _).set _) (by omega)]
theorem setLp_ne {W : World} {g i k : Nat} {x y : LpR} (h : LpRAt W g (i * 7) y) (hk : i ≠ k) : LpRAt (setLp W g (k * 7) x) g (i * 7) y := by
  unfold setLp
  obtain ⟨h0, h1, h2, h3, h4, h5, h6⟩ := h
  refine ⟨?_, ?_, ?_, ?_, ?_, ?_, ?_⟩
  · rw [Lp_other (by omega), Lp_other (by omega), Lp_other (by omega), Lp_other (by omega), Lp_other (by omega), Lp_other (by omega), Lp_other (by omega)]; exact h0
  · rw [Lp_other (by omega), Lp_other (by omega), Lp_other (by omega), Lp_other (by omega), Lp_other (by omega), Lp_other (by omega), Lp_other (by omega)]; exact h1
  · rw [Lp_other (by omega), Lp_other (by omega), Lp_other (by omega), Lp_other (by omega), Lp_other (by omega), Lp_other (by omega), Lp_other (by omega)]; exact h2
  · rw [Lp_other (by omega), Lp_other (by omega), Lp_other (by omega), Lp_other (by omega), Lp_other (by omega), Lp_other (by omega), Lp_other (by omega)]; exact h3
  · rw [Lp_other (by omega), Lp_other (by omega), Lp_other (by omega), Lp_other (by omega), Lp_other (by omega), Lp_other (by omega), Lp_other (by omega)]; exact h4
  · rw [Lp_other (by omega), Lp_other (by omega), Lp_other (by omega), Lp_other (by omega), Lp_other (by omega), Lp_other (by omega), Lp_other (by omega)]; exact h5
  · rw [Lp_other (by omega), Lp_other (by omega), Lp_other (by omega), Lp_other (by omega), Lp_other (by omega), Lp_other (by omega), Lp_other (by omega)]; exact h6
theorem grown_setLp {W W' : World} {g o : Nat} {x : LpR} (h : W.grownBy W' (some g)) : W.grownBy (setLp W' g o x) (some g) := by
  have hs : ∀ (X : World) (i : Nat) (v : Value), W.grownBy X (some g) → W.grownBy (X.setCell ⟨g, i, none⟩ v) (some g) := by
    intro X i v hX
    exact ⟨hX.os, hX.tape, hX.output, by simp [World.setCell]; exact hX.size, fun k hk hne => (Below.heap_setCell X _ v k (fun e => hne (by rw [e]))).trans (hX.block k hk hne)⟩
  exact hs _ _ _ (hs _ _ _ (hs _ _ _ (hs _ _ _ (hs _ _ _ (hs _ _ _ (hs _ _ _ (h)))))))

/-- The cells of rows; a slice of the call's own that holds rows. -/
def LpR.cells (x : LpR) : List Value := [.int .i64 x.kd, .int .i64 x.tm, .int .i64 x.ke, .int .i64 x.va, .int .i64 x.nn, .int .i64 x.st, .int .i64 x.en]
def flatLp (xs : List LpR) : List Value := xs.flatMap LpR.cells
theorem flatLp_snoc (xs : List LpR) (x : LpR) : flatLp (xs ++ [x]) = flatLp xs ++ x.cells := by simp [flatLp]
theorem flatLp_len (xs : List LpR) : (flatLp xs).length = xs.length * 7 := by
  induction xs with
  | nil => rfl
  | cons x r ih => show (x.cells ++ flatLp r).length = _; rw [List.length_append, ih]; simp [LpR.cells]; omega
theorem flatLp_get {xs : List LpR} {i : Nat} {x : LpR} (h : xs[i]? = some x) : (flatLp xs)[i * 7]? = some (.int .i64 x.kd) ∧ (flatLp xs)[i * 7 + 1]? = some (.int .i64 x.tm) ∧ (flatLp xs)[i * 7 + 2]? = some (.int .i64 x.ke) ∧ (flatLp xs)[i * 7 + 3]? = some (.int .i64 x.va) ∧ (flatLp xs)[i * 7 + 4]? = some (.int .i64 x.nn) ∧ (flatLp xs)[i * 7 + 5]? = some (.int .i64 x.st) ∧ (flatLp xs)[i * 7 + 6]? = some (.int .i64 x.en) := by
  induction xs generalizing i with
  | nil => simp at h
  | cons y r ih =>
    have hf : flatLp (y :: r) = y.cells ++ flatLp r := rfl
    cases i with
    | zero =>
      simp at h
      subst h
      rw [hf]
      exact ⟨rfl, rfl, rfl, rfl, rfl, rfl, rfl⟩
    | succ i =>
      simp at h
      obtain ⟨h0, h1, h2, h3, h4, h5, h6⟩ := ih h
      have hl : y.cells.length = 7 := rfl
      rw [hf]
      refine ⟨?_, ?_, ?_, ?_, ?_, ?_, ?_⟩
      · rw [List.getElem?_append_right (by omega), hl, show (i + 1) * 7 - 7 = i * 7 by omega]; exact h0
      · rw [List.getElem?_append_right (by omega), hl, show (i + 1) * 7 + 1 - 7 = i * 7 + 1 by omega]; exact h1
      · rw [List.getElem?_append_right (by omega), hl, show (i + 1) * 7 + 2 - 7 = i * 7 + 2 by omega]; exact h2
      · rw [List.getElem?_append_right (by omega), hl, show (i + 1) * 7 + 3 - 7 = i * 7 + 3 by omega]; exact h3
      · rw [List.getElem?_append_right (by omega), hl, show (i + 1) * 7 + 4 - 7 = i * 7 + 4 by omega]; exact h4
      · rw [List.getElem?_append_right (by omega), hl, show (i + 1) * 7 + 5 - 7 = i * 7 + 5 by omega]; exact h5
      · rw [List.getElem?_append_right (by omega), hl, show (i + 1) * 7 + 6 - 7 = i * 7 + 6 by omega]; exact h6
def OwnLp (W : World) (B : Nat) (v : Value) (ys : List LpR) : Prop := W.ownsRow B 57 7 v ys.length (flatLp ys)
theorem ownLp_ge {W : World} {B : Nat} {v : Value} {ys : List LpR} (h : OwnLp W B v ys) : ∀ k, v.ownBlock = some k → B ≤ k := by
  intro k hk
  rcases h.2 with ⟨rfl, _⟩ | ⟨g, cap, cur, rfl, hg, _⟩
  · cases hk
  · simp [Value.ownBlock] at hk; omega
theorem ownLp_snoc {w1 : World} {B : Nat} {v' : Value} {ys : List LpR} {x : LpR} (ho : w1.ownsRow B 57 7 v' (ys.length + 1) (flatLp ys ++ x.cells)) : OwnLp w1 B v' (ys ++ [x]) := by
  unfold OwnLp
  rw [flatLp_snoc]
  simpa using ho
theorem cells_newLp (w : World) (kd tm ke va nn st en : Int) (ty : Nat) : ∀ j u, ([.int .i64 kd, .int .i64 tm, .int .i64 ke, .int .i64 va, .int .i64 nn, .int .i64 st, .int .i64 en] : List Value)[j]? = some u → (w.alloc (.cells #[.int .i64 kd, .int .i64 tm, .int .i64 ke, .int .i64 va, .int .i64 nn, .int .i64 st, .int .i64 en] ty)).cell? ((⟨w.heap.size, 0, none⟩ : Addr).add j) = some u := by
  intro j u hj
  have e : ((⟨w.heap.size, 0, none⟩ : Addr).add j) = ⟨w.heap.size, j, none⟩ := by
    unfold Addr.add
    split
    · rename_i h0; rw [h0]
    · simp
  rw [e]
  simpa [go_sem] using hj
theorem cells_atLp (w : World) (kd tm ke va nn st en : Int) (ty : Nat) {g : Nat} (hg : g = w.heap.size) : ∀ j u, ([.int .i64 kd, .int .i64 tm, .int .i64 ke, .int .i64 va, .int .i64 nn, .int .i64 st, .int .i64 en] : List Value)[j]? = some u → (w.alloc (.cells #[.int .i64 kd, .int .i64 tm, .int .i64 ke, .int .i64 va, .int .i64 nn, .int .i64 st, .int .i64 en] ty)).cell? ((⟨g, 0, none⟩ : Addr).add j) = some u := by
  subst hg
  exact cells_newLp w kd tm ke va nn st en ty

/-- The block of a slice's rows, if there are any; what may be written; what has been marked. -/
def rowLp (a : Option Addr) (n : Nat) : Option Nat := if n = 0 then none else a.map (·.block)
theorem rowLp_zero (a : Option Addr) : rowLp a 0 = none := rfl
theorem rowLp_pos {n : Nat} (h : n ≠ 0) (g o : Nat) : rowLp (some ⟨g, o, none⟩) n = some g := by unfold rowLp; rw [if_neg h]; rfl
def markLp (i : Nat) : LpR := ⟨1 + 7 * (i : Int), 1 + 7 * (i : Int) + 1, 1 + 7 * (i : Int) + 1 + 1, 1 + 7 * (i : Int) + 1 + 1 + 1, 1 + 7 * (i : Int) + 1 + 1 + 1 + 1, 1 + 7 * (i : Int) + 1 + 1 + 1 + 1 + 1, 1 + 7 * (i : Int) + 1 + 1 + 1 + 1 + 1 + 1⟩
def WrLp (W : World) (a : Option Addr) (n cap : Nat) : Prop := n = 0 ∨ ∃ g, a = some ⟨g, 0, none⟩ ∧ BlkLp W g 57 cap ∧ n ≤ cap
def MarkedLp (W : World) (a : Option Addr) (n : Nat) : Prop := n = 0 ∨ ∃ g, a = some ⟨g, 0, none⟩ ∧ ∀ i, i < n → LpRAt W g (i * 7) (markLp i)
theorem grown0Lp {W W' : World} (h : Below W.heap.size W W') : W.grownBy W' none := ⟨h.os, h.tape, h.output, h.size, fun k hk _ => h.block k hk⟩
theorem growLp {w W W' : World} {row : Option Nat} (h : Below w.heap.size w W) (hg : W.grownBy W' row) (hr : ∀ k, row = some k → w.heap.size ≤ k) : Below w.heap.size w W' := h.grown hg h.size hr
theorem MarkedLp.below {W W' : World} {a : Option Addr} {n : Nat} (h : MarkedLp W a n) (hb : Below W.heap.size W W') : MarkedLp W' a n := by
  rcases h with h | ⟨g, ha, hM⟩
  · exact Or.inl h
  · exact Or.inr ⟨g, ha, fun i hi => (hM i hi).below hb (hM i hi).lt⟩
theorem holdLp {W : World} {B : Nat} {v : Value} {ys : List LpR} (h : OwnLp W B v ys) (hl : ys.length ≤ 1048576) :
    ∃ a cap, v = .slice a ys.length cap ∧ LpRs W a ys.length ys ∧ WrLp W a ys.length cap ∧ ∀ g o, 0 < ys.length → a = some ⟨g, o, none⟩ → B ≤ g := by
  have hm : ys.length ≤ maxLen := by unfold maxLen; omega
  obtain ⟨hlen, h | ⟨g, cap, cur, rfl, hB, hblk, hnc, hcm, hsz, htk⟩⟩ := h
  · obtain ⟨rfl, h0⟩ := h
    rw [h0]
    exact ⟨none, 0, rfl, ⟨h0, Nat.zero_le _, Or.inl rfl⟩, Or.inl rfl, fun _ _ hp => by omega⟩
  · refine ⟨_, cap, rfl, ⟨rfl, hm, Or.inr ⟨g, 0, rfl, ?_⟩⟩, Or.inr ⟨g, rfl, ⟨cur, hblk, hsz⟩, hnc⟩, fun g' o' _ e => by simp at e; omega⟩
    intro i x hx
    have hi : i < ys.length := (List.getElem?_eq_some_iff.1 hx).1
    have hcell : ∀ j u, j < ys.length * 7 → (flatLp ys)[j]? = some u → W.cell? ⟨g, j, none⟩ = some u := by
      intro j u hj hu
      rw [Joins.cell_of_block hblk j, ← Array.getElem?_toList]
      rw [← htk, List.getElem?_take_of_lt hj] at hu
      exact hu
    obtain ⟨f0, f1, f2, f3, f4, f5, f6⟩ := flatLp_get hx
    rw [Nat.zero_add]
    exact ⟨hcell _ _ (by omega) f0, hcell _ _ (by omega) f1, hcell _ _ (by omega) f2, hcell _ _ (by omega) f3, hcell _ _ (by omega) f4, hcell _ _ (by omega) f5, hcell _ _ (by omega) f6⟩
theorem WrLp.below {W W' : World} {a : Option Addr} {n cap : Nat} (h : WrLp W a n cap) (hb : Below W.heap.size W W') : WrLp W' a n cap := by
  rcases h with h | ⟨g, ha, hB, hc⟩
  · exact Or.inl h
  · exact Or.inr ⟨g, ha, hB.below hb hB.lt, hc⟩
theorem WrLp.grown {W W' : World} {row : Option Nat} {a : Option Addr} {n cap : Nat} (h : WrLp W a n cap) (hg : W.grownBy W' row) (hne : ∀ g o, 0 < n → a = some ⟨g, o, none⟩ → some g ≠ row) : WrLp W' a n cap := by
  rcases h with h | ⟨g, ha, hB, hc⟩
  · exact Or.inl h
  · by_cases h0 : n = 0
    · exact Or.inl h0
    · obtain ⟨cur, c1, c2⟩ := hB
      exact Or.inr ⟨g, ha, ⟨cur, (hg.block g (Array.getElem?_eq_some_iff.1 c1).1 (hne g 0 (by omega) ha)).trans c1, c2⟩, hc⟩
theorem WrLp.shape {W : World} {a : Option Addr} {n cap : Nat} (h : WrLp W a n cap) : n = 0 ∨ ∃ g', a = some ⟨g', 0, none⟩ := by
  rcases h with h | ⟨g, ha, _⟩
  · exact Or.inl h
  · exact Or.inr ⟨g, ha⟩
theorem rowLp_ne {a : Option Addr} {n g : Nat} (h : ∀ g' o', 0 < n → a = some ⟨g', o', none⟩ → g ≠ g') (hs : n = 0 ∨ ∃ g', a = some ⟨g', 0, none⟩) : some g ≠ rowLp a n := by
  rcases hs with rfl | ⟨g', rfl⟩
  · simp [rowLp_zero]
  · by_cases h0 : n = 0
    · subst h0; simp [rowLp_zero]
    · rw [rowLp_pos h0]
      have := h g' 0 (by omega) rfl
      simpa using this
theorem rowLp_ge {a : Option Addr} {n B : Nat} (h : ∀ g' o', 0 < n → a = some ⟨g', o', none⟩ → B ≤ g') (hs : n = 0 ∨ ∃ g', a = some ⟨g', 0, none⟩) : ∀ k, rowLp a n = some k → B ≤ k := by
  intro k hk
  rcases hs with rfl | ⟨g', rfl⟩
  · simp [rowLp_zero] at hk
  · by_cases h0 : n = 0
    · subst h0; simp [rowLp_zero] at hk
    · rw [rowLp_pos h0] at hk
      have := h g' 0 (by omega) rfl
      simp at hk
      omega
theorem markLp_step {w wr : World} {g ty cap j : Nat} (hB : BlkLp wr g ty cap) (hj : j < cap) (hM : ∀ i, i < j → LpRAt wr g (i * 7) (markLp i)) (hG : w.grownBy wr (some g)) :
    BlkLp (setLp wr g (j * 7) (markLp j)) g ty cap ∧ (∀ i, i < j + 1 → LpRAt (setLp wr g (j * 7) (markLp j)) g (i * 7) (markLp i)) ∧ w.grownBy (setLp wr g (j * 7) (markLp j)) (some g) := by
  refine ⟨hB.sets _, fun i hi => ?_, grown_setLp hG⟩
  by_cases he : i = j
  · subst he
    exact setLp_this hB hj (markLp i)
  · exact setLp_ne (hM i (by omega)) he
end Go.Proofs.YtbockbdlojkpiaaGreat
/- Proved here, over lists alone: sessions, and windows by pairs: what the tables are. -/
namespace Go.Proofs.YtbockbdlojkpiaaGreat
open Go.RowKit
set_option linter.unusedVariables false

/-- One value more is known. -/
def addF (g : Ag4) (v : Int) : Ag4 := (bo g.1 1 g.1 1 (wrap64 (g.1 + 1)), bo g.1 1 g.2.1 v (wrap64 (g.2.1 + v)), bo g.1 1 g.2.2.1 v (loI g.2.2.1 v), bo g.1 1 g.2.2.2 v (hiI g.2.2.2 v))
/-- A pair, as a pane that has but what is new. -/
def pnOf (x : LpR) : PnR := ⟨x.ke, x.st, x.en, 0, 1, 1, x.va, x.va, x.va⟩
theorem addF_both (g : Ag4) (v : Int) : addF g v = bothF g 1 v v v := rfl
/-- Sessions so far: the span, what is known, and those apart. -/
structure Ses where
  a : Int
  b : Int
  g : Ag4
  l : List TbR
def sesStep (k a b : Int) (q : Ses) (r : TbR) : Ses := if r.ky = k ∧ touchB r.st r.en a b = true then ⟨loI q.a r.st, hiI q.b r.en, bothF q.g r.n r.su r.le r.mo, q.l⟩ else ⟨q.a, q.b, q.g, q.l ++ [r]⟩
def sesAll (k a b : Int) (g : Ag4) (rows : List TbR) : Ses := rows.foldl (sesStep k a b) ⟨a, b, g, []⟩
def sesRow (k : Int) (q : Ses) : TbR := ⟨k, q.a, q.b, q.g.1, q.g.2.1, q.g.2.2.1, q.g.2.2.2⟩
def sesPut (k a b : Int) (g : Ag4) (rows : List TbR) : List TbR := insR (sesRow k (sesAll k a b g rows)) (kpTb k (sesAll k a b g rows).a (sesAll k a b g rows).b (sesAll k a b g rows).l)
theorem sesAll_snoc {k a b : Int} {g : Ag4} {rows : List TbR} {i : Nat} {r : TbR} (h : rows[i]? = some r) : sesAll k a b g (rows.take (i + 1)) = sesStep k a b (sesAll k a b g (rows.take i)) r := by
  unfold sesAll
  rw [List.take_add_one, h, List.foldl_append]
  rfl
theorem sesStep_len (k a b : Int) (q : Ses) (r : TbR) : (sesStep k a b q r).l.length ≤ q.l.length + 1 := by
  unfold sesStep; split <;> simp
theorem sesAll_len (k a b : Int) (g : Ag4) (rows : List TbR) : (sesAll k a b g rows).l.length ≤ rows.length := by
  suffices h : ∀ (rows : List TbR) (q : Ses), (rows.foldl (sesStep k a b) q).l.length ≤ q.l.length + rows.length by
    have := h rows ⟨a, b, g, []⟩; simpa [sesAll] using this
  intro rows
  induction rows with
  | nil => intro q; simp
  | cons r t ih =>
    intro q
    have h1 := ih (sesStep k a b q r)
    have h2 := sesStep_len k a b q r
    simp only [List.foldl_cons, List.length_cons]
    omega
theorem sesPut_len (k a b : Int) (g : Ag4) (rows : List TbR) : (sesPut k a b g rows).length ≤ rows.length + 1 := by
  unfold sesPut
  rw [insR_len]
  have h1 := sesAll_len k a b g rows
  have h2 : (kpTb k (sesAll k a b g rows).a (sesAll k a b g rows).b (sesAll k a b g rows).l).length ≤ (sesAll k a b g rows).l.length := List.length_filter_le _ _
  omega
/-- The table behind one more pair. -/
def stepP (kd : Int) (rows : List TbR) (x : LpR) : List TbR := if kd = 3 then sesPut x.ke x.st x.en (addF ag0 x.va) rows else tabStep true rows (pnOf x)
def tabP (kd : Int) (prs : List LpR) : List TbR := prs.foldl (stepP kd) []
theorem tabP_snoc {kd : Int} {prs : List LpR} {i : Nat} {x : LpR} (h : prs[i]? = some x) : tabP kd (prs.take (i + 1)) = stepP kd (tabP kd (prs.take i)) x := by
  unfold tabP
  rw [List.take_add_one, h, List.foldl_append]
  rfl
theorem tabP_app (kd : Int) (prs : List LpR) (x : LpR) : tabP kd (prs ++ [x]) = stepP kd (tabP kd prs) x := by
  unfold tabP
  rw [List.foldl_append]
  rfl
theorem stepP_len (kd : Int) (rows : List TbR) (x : LpR) : (stepP kd rows x).length ≤ rows.length + 1 := by
  unfold stepP
  split
  · exact sesPut_len _ _ _ _ _
  · exact tabStep_len _ _ _
theorem tabP_len (kd : Int) (prs : List LpR) : (tabP kd prs).length ≤ prs.length := by
  suffices h : ∀ (prs : List LpR) (rows : List TbR), (prs.foldl (stepP kd) rows).length ≤ rows.length + prs.length by
    have := h prs []; simpa [tabP] using this
  intro prs
  induction prs with
  | nil => intro rows; simp
  | cons x t ih =>
    intro rows
    have h1 := ih (stepP kd rows x)
    have h2 := stepP_len kd rows x
    simp only [List.foldl_cons, List.length_cons]
    omega
/-- Where windows do not grow: as panes tell it. -/
theorem tabP_panes {kd : Int} (h : ¬ kd = 3) (prs : List LpR) : tabP kd prs = tabOfL true (prs.map pnOf) := by
  unfold tabP tabOfL
  rw [List.foldl_map]
  congr 1
  funext rows x
  unfold stepP
  rw [if_neg h]
theorem stepP_row {kd : Int} (h : ¬ kd = 3) (rows : List TbR) (x : LpR) : stepP kd rows x = insR (⟨x.ke, x.st, x.en, (addF (aggF (findT x.ke x.st x.en rows)) x.va).1, (addF (aggF (findT x.ke x.st x.en rows)) x.va).2.1, (addF (aggF (findT x.ke x.st x.en rows)) x.va).2.2.1, (addF (aggF (findT x.ke x.st x.en rows)) x.va).2.2.2⟩ : TbR) (kpTb x.ke x.st x.en rows) := by
  unfold stepP
  rw [if_neg h]
  rfl
end Go.Proofs.YtbockbdlojkpiaaGreat
