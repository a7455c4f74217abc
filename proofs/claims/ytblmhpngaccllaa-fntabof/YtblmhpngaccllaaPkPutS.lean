/- Laid together: what the claim needs of the texts that were built one by one. -/
import Derived.Test.YtblmhpngaccllaaPkPutA
import Derived.Test.YtblmhpngaccllaaPkTabOutS
import Derived.Test.YtblmhpngaccllaaPkStepA
import Derived.Maps.AppendAt
import Derived.Test.YtblmhpngaccllaaPkBase
namespace Go.Proofs.Ytblmhpngaccllaa
open Go.ChangeShapes Go.WideShapes Go.ChangeAt Go.RowKit
set_option linter.unusedVariables false

/-- Rows that stay while another row grows. -/
def RestAt (W : World) (al : Option Addr) (v : Value) (zs : List TbR) : Prop := ∀ g o, 0 < zs.length → al = some ⟨g, o, none⟩ → TbRsAt W g o zs ∧ g < W.heap.size ∧ ∀ q, v.ownBlock = some q → q ≠ g

theorem put_carry {W0 wl w1 : World} {B g o : Nat} {u v' : Value} {zs : List TbR} {ob : Obj} (hq : Below B W0 wl) (hge : ∀ k, u.ownBlock = some k → B ≤ k) (hB : B ≤ wl.heap.size) (hr : TbRsAt wl g o zs) (hg : g < wl.heap.size) (hne : ∀ q, u.ownBlock = some q → q ≠ g) (hgrow : (wl.alloc ob).grownBy w1 u.ownBlock) (hblk : v'.ownBlock = u.ownBlock ∨ v'.ownBlock = some (wl.alloc ob).heap.size) : Below B W0 w1 ∧ TbRsAt w1 g o zs ∧ g < w1.heap.size ∧ (∀ q, v'.ownBlock = some q → q ≠ g) := by
  have hsz : wl.heap.size + 1 ≤ w1.heap.size := by have := hgrow.size; simpa using this
  refine ⟨(hq.alloc hB _).grown hgrow (by simp; omega) hge, fun i x hx => ((hr i x hx).below (bel_alloc (Below.refl _ _) _) hg).grown hgrow (fun e => hne g e.symm rfl), by omega, fun q hq' => ?_⟩
  rcases hblk with e | e
  · exact hne q (by rw [← e]; exact hq')
  · rw [e] at hq'
    simp at hq'
    omega

theorem put_size {W0 wl : World} {B : Nat} (h : Below B W0 wl) (hB : B ≤ W0.heap.size) : B ≤ wl.heap.size := Nat.le_trans hB h.size

theorem put_none {W0 wl w1 : World} {B : Nat} {u : Value} {ob : Obj} (hq : Below B W0 wl) (hge : ∀ k, u.ownBlock = some k → B ≤ k) (hB : B ≤ wl.heap.size) (hgrow : (wl.alloc ob).grownBy w1 u.ownBlock) : Below B W0 w1 := (hq.alloc hB _).grown hgrow (by simp; omega) hge

theorem rest_mk {W : World} {g o : Nat} {v : Value} {zs : List TbR} (h1 : TbRsAt W g o zs) (h2 : g < W.heap.size) (h3 : ∀ q, v.ownBlock = some q → q ≠ g) : RestAt W (some ⟨g, o, none⟩) v zs := fun g' o' _ e => by cases e; exact ⟨h1, h2, h3⟩

set_option maxRecDepth 20000 in
set_option maxHeartbeats 2000000 in
theorem specput_any (r : TbR) (a : Option Addr) (len cap : Nat) (xs : List TbR) (w : World) (h : TbRs w a len xs) (hl : len ≤ 1048576) : Calls Try.prog 21 #[.slice a len cap, .agg #[.int .i64 r.ky, .int .i64 r.st, .int .i64 r.en, .int .i64 r.n, .int .i64 r.su, .int .i64 r.le, .int .i64 r.mo]] w fun e w' => ∃ v, e = .returned v ∧ OwnTb w' w.heap.size v (insR r (kpTb r.ky r.st r.en xs)) ∧ Below w.heap.size w w' := by
  have hkl := Nat.le_trans (kpTb_le r.ky r.st r.en xs) (Nat.le_of_eq h.1)
  obtain ⟨i0, hi, hz0, hz1, hz2⟩ := info_parts Try.infoTb
  go_enter Try.func21, Try.ntmps21
  go_wp2_with fail
  refine (specTabOut_any a len cap xs r.ky r.st r.en _ (h.below (bel_one _ _)) (by omega)).mono ?_
  rintro e' wa ⟨va, rfl, hOa, hba⟩
  generalize hZ : kpTb r.ky r.st r.en xs = zs at hkl hOa
  have HZ := hide hZ
  clear hZ
  have hbA : Below (w.heap.size + 1) (w.alloc (.cells #[.int .i64 r.ky, .int .i64 r.st, .int .i64 r.en, .int .i64 r.n, .int .i64 r.su, .int .i64 r.le, .int .i64 r.mo] 42)) wa := by simpa using hba
  obtain ⟨al, capl, rfl, HL0, _, gel⟩ := holdTb hOa (by omega)
  have hsh : 0 < zs.length → ∃ g o, al = some ⟨g, o, none⟩ := fun hp => by
    obtain ⟨_, _, hx⟩ := HL0
    obtain ⟨g, o, e, _⟩ := hx.resolve_left (by omega)
    exact ⟨g, o, e⟩
  have hsa : w.heap.size + 1 ≤ wa.heap.size := by have := hbA.size; simpa using this
  have HR0 : RestAt (wa.alloc (.cells #[] 42)) al (.slice (some ⟨wa.heap.size, 0, none⟩) 0 0) zs := fun g o hp e => by
    subst e
    obtain ⟨_, _, hx⟩ := HL0
    obtain ⟨g', o', e, hr⟩ := hx.resolve_left (by omega)
    cases e
    have hg := hr.lt hp
    exact ⟨hr.below (bel_one _ _) (fun _ => hg), by simp; omega, fun q hq => by simp [Value.ownBlock] at hq; omega⟩
  clear HL0 gel hOa
  go_wp2
  go_loopw [6, 7, 8] (fun v' dv iv wr => ∃ (d : Bool) (k : Nat) (ys : List TbR), k ≤ zs.length ∧ dv = .bool d ∧ iv = .int .i64 k ∧ OwnTb wr (w.heap.size + 1) v' ys ∧ Hid (PutAt r zs k ys d) ∧ Hid (RestAt wr al v' zs) ∧ Below (w.heap.size + 1) (w.alloc (.cells #[.int .i64 r.ky, .int .i64 r.st, .int .i64 r.en, .int .i64 r.n, .int .i64 r.su, .int .i64 r.le, .int .i64 r.mo] 42)) wr) (fun _ _ iv _ => zs.length - (intOf iv).toNat)
  case atStart => exact ⟨false, 0, [], Nat.zero_le _, rfl, rfl, ownLit (W := wa) (B := w.heap.size + 1) _ _ (by first | omega | simp) (by first | omega | simp), hide (putAt_start _ _), hide HR0, hbA.alloc hsa _⟩
  case round =>
    obtain ⟨d, k, ys, hk, rfl, rfl, hO, HP, HR, hbw⟩ := hrel
    have hb0 : Below w.heap.size w wr := bel_trans (bel_one _ _) (by simpa using hbw)
    have hwr : w.heap.size + 1 ≤ wr.heap.size := by have := hbw.size; simpa using this
    have hyl := putAt_len (unhide HP)
    have HO := hide hO
    have hge := hide (ownTb_ge hO)
    clear hO
    by_cases hlt : k < zs.length
    · obtain ⟨g, o, rfl⟩ := hsh (by omega)
      obtain ⟨hr, hg, hne⟩ := unhide HR g o (by omega) rfl
      have HRr := hide hr
      have HNE := hide hne
      obtain ⟨x, hxk⟩ : ∃ x, zs[k]? = some x := ⟨_, List.getElem?_eq_getElem hlt⟩
      have hX := hide hxk
      have HS : ((wr.cell? ⟨w.heap.size, 0, none⟩ = some (.int .i64 r.ky) ∧ wr.cell? ⟨w.heap.size, 1, none⟩ = some (.int .i64 r.st) ∧ wr.cell? ⟨w.heap.size, 2, none⟩ = some (.int .i64 r.en) ∧ wr.cell? ⟨w.heap.size, 3, none⟩ = some (.int .i64 r.n) ∧ wr.cell? ⟨w.heap.size, 4, none⟩ = some (.int .i64 r.su) ∧ wr.cell? ⟨w.heap.size, 5, none⟩ = some (.int .i64 r.le) ∧ wr.cell? ⟨w.heap.size, 6, none⟩ = some (.int .i64 r.mo) ∧ wr.cell? ⟨g, o + k * 7, none⟩ = some (.int .i64 x.ky) ∧ wr.cell? ⟨g, o + k * 7 + 1, none⟩ = some (.int .i64 x.st) ∧ wr.cell? ⟨g, o + k * 7 + 2, none⟩ = some (.int .i64 x.en) ∧ wr.cell? ⟨g, o + k * 7 + 3, none⟩ = some (.int .i64 x.n) ∧ wr.cell? ⟨g, o + k * 7 + 4, none⟩ = some (.int .i64 x.su) ∧ wr.cell? ⟨g, o + k * 7 + 5, none⟩ = some (.int .i64 x.le) ∧ wr.cell? ⟨g, o + k * 7 + 6, none⟩ = some (.int .i64 x.mo)) ∧ w.heap.size < wr.heap.size ∧ g < wr.heap.size) := by
        obtain ⟨d0, d1, d2, d3, d4, d5, d6⟩ := hr k _ hxk
        exact ⟨⟨(hbw.cell (p := ⟨w.heap.size, 0, none⟩) (by simp)).trans (by simp [go_sem]), (hbw.cell (p := ⟨w.heap.size, 1, none⟩) (by simp)).trans (by simp [go_sem]), (hbw.cell (p := ⟨w.heap.size, 2, none⟩) (by simp)).trans (by simp [go_sem]), (hbw.cell (p := ⟨w.heap.size, 3, none⟩) (by simp)).trans (by simp [go_sem]), (hbw.cell (p := ⟨w.heap.size, 4, none⟩) (by simp)).trans (by simp [go_sem]), (hbw.cell (p := ⟨w.heap.size, 5, none⟩) (by simp)).trans (by simp [go_sem]), (hbw.cell (p := ⟨w.heap.size, 6, none⟩) (by simp)).trans (by simp [go_sem]), d0, d1, d2, d3, d4, d5, d6⟩, by omega, hg⟩
      clear hr hne hxk HR
      cases d
      · cases hA : aheadR r x
        · go_wp2
          go_region_held3 (fun W => ((W.cell? ⟨w.heap.size, 0, none⟩ = some (.int .i64 r.ky) ∧ W.cell? ⟨w.heap.size, 1, none⟩ = some (.int .i64 r.st) ∧ W.cell? ⟨w.heap.size, 2, none⟩ = some (.int .i64 r.en) ∧ W.cell? ⟨w.heap.size, 3, none⟩ = some (.int .i64 r.n) ∧ W.cell? ⟨w.heap.size, 4, none⟩ = some (.int .i64 r.su) ∧ W.cell? ⟨w.heap.size, 5, none⟩ = some (.int .i64 r.le) ∧ W.cell? ⟨w.heap.size, 6, none⟩ = some (.int .i64 r.mo) ∧ W.cell? ⟨g, o + k * 7, none⟩ = some (.int .i64 x.ky) ∧ W.cell? ⟨g, o + k * 7 + 1, none⟩ = some (.int .i64 x.st) ∧ W.cell? ⟨g, o + k * 7 + 2, none⟩ = some (.int .i64 x.en) ∧ W.cell? ⟨g, o + k * 7 + 3, none⟩ = some (.int .i64 x.n) ∧ W.cell? ⟨g, o + k * 7 + 4, none⟩ = some (.int .i64 x.su) ∧ W.cell? ⟨g, o + k * 7 + 5, none⟩ = some (.int .i64 x.le) ∧ W.cell? ⟨g, o + k * 7 + 6, none⟩ = some (.int .i64 x.mo)) ∧ w.heap.size < W.heap.size ∧ g < W.heap.size)) ((first | ((repeat (first | (with_reducible assumption) | (with_reducible refine hd_7_7 ?_ (by with_reducible assumption)) | (with_reducible refine hd_7_7 ?_ (bel_drew (Below.refl _ _))) | (with_reducible exact hd_7_7_re (by with_reducible assumption) (sB) (sB)) | (with_reducible refine hd_7_7 ?_ (bel_one _ _)) | (with_reducible refine hd_7_7_set ?_ (sB) (sB) _))); done) | (refine ⟨⟨?_, ?_, ?_, ?_, ?_, ?_, ?_, ?_, ?_, ?_, ?_, ?_, ?_, ?_⟩, ?_, ?_⟩ <;> first | (go_keep; done) | (simp; done) | (simp; omega) | omega)))
            (first
            | (go_at_call 33; refine (l5ahead_any r x _).mono ?_; rintro e wl ⟨rfl, hbl⟩; rw [hA]))
          all_goals
            have hbl' : Below wr.heap.size wr wl := (belA)
            have hq1 : Below (w.heap.size + 1) (w.alloc (.cells #[.int .i64 r.ky, .int .i64 r.st, .int .i64 r.en, .int .i64 r.n, .int .i64 r.su, .int .i64 r.le, .int .i64 r.mo] 42)) wl := hbw.trans (hbl'.mono hwr)
            have HO1 := hide (ownBel (unhide HO) hbl')
            have HR1 := hide ((unhide HRr).below hbl' (fun _ => hg))
            have hgl : g < wl.heap.size := Nat.lt_of_lt_of_le hg hbl'.size
            have hws : w.heap.size + 1 ≤ wl.heap.size := Nat.le_trans hwr hbl'.size
            obtain ⟨⟨C0, C1, C2, C3, C4, C5, C6, D0, D1, D2, D3, D4, D5, D6⟩, _, _⟩ := hd_7_7 HS hbl'
            clear HS
            go_wp2_with (at_builtin; go_loud (refine wpList_append_own_at _ rfl _ _ 26 rfl (w.heap.size + 1) 42 i0 _ 7 56 Try.underlying26 hi hz0 hz1 hz2 rfl (by decide) u6 _ _ rfl (World.ownsRow.alloc (unhide HO1) _) ⟨wl.heap.size, 0, none⟩ 1 1 [.int .i64 x.ky, .int .i64 x.st, .int .i64 x.en, .int .i64 x.n, .int .i64 x.su, .int .i64 x.le, .int .i64 x.mo] rfl rfl (cells_newTb wl x.ky x.st x.en x.n x.su x.le x.mo _) (by simp [Value.oneCell']) (by unfold maxLen; omega) (by omega) (by simp; omega) ?_); intro v' w1 hown' hgrow _ hblk)
            obtain ⟨hb1, hr1, hg1, hne1⟩ := put_carry hq1 (unhide hge) hws (unhide HR1) hgl (unhide HNE) hgrow hblk
            go_roundw
            case rel => exact ⟨false, k + 1, ys ++ [x], by omega, rfl, by go_num, ownTb_snoc hown', hide (putAt_on (unhide hX) hA (unhide HP)), hide (rest_mk hr1 hg1 hne1), hb1⟩
            case measure => simp [intOf]; omega
        · go_wp2
          go_region_held3 (fun W => ((W.cell? ⟨w.heap.size, 0, none⟩ = some (.int .i64 r.ky) ∧ W.cell? ⟨w.heap.size, 1, none⟩ = some (.int .i64 r.st) ∧ W.cell? ⟨w.heap.size, 2, none⟩ = some (.int .i64 r.en) ∧ W.cell? ⟨w.heap.size, 3, none⟩ = some (.int .i64 r.n) ∧ W.cell? ⟨w.heap.size, 4, none⟩ = some (.int .i64 r.su) ∧ W.cell? ⟨w.heap.size, 5, none⟩ = some (.int .i64 r.le) ∧ W.cell? ⟨w.heap.size, 6, none⟩ = some (.int .i64 r.mo) ∧ W.cell? ⟨g, o + k * 7, none⟩ = some (.int .i64 x.ky) ∧ W.cell? ⟨g, o + k * 7 + 1, none⟩ = some (.int .i64 x.st) ∧ W.cell? ⟨g, o + k * 7 + 2, none⟩ = some (.int .i64 x.en) ∧ W.cell? ⟨g, o + k * 7 + 3, none⟩ = some (.int .i64 x.n) ∧ W.cell? ⟨g, o + k * 7 + 4, none⟩ = some (.int .i64 x.su) ∧ W.cell? ⟨g, o + k * 7 + 5, none⟩ = some (.int .i64 x.le) ∧ W.cell? ⟨g, o + k * 7 + 6, none⟩ = some (.int .i64 x.mo)) ∧ w.heap.size < W.heap.size ∧ g < W.heap.size)) ((first | ((repeat (first | (with_reducible assumption) | (with_reducible refine hd_7_7 ?_ (by with_reducible assumption)) | (with_reducible refine hd_7_7 ?_ (bel_drew (Below.refl _ _))) | (with_reducible exact hd_7_7_re (by with_reducible assumption) (sB) (sB)) | (with_reducible refine hd_7_7 ?_ (bel_one _ _)) | (with_reducible refine hd_7_7_set ?_ (sB) (sB) _))); done) | (refine ⟨⟨?_, ?_, ?_, ?_, ?_, ?_, ?_, ?_, ?_, ?_, ?_, ?_, ?_, ?_⟩, ?_, ?_⟩ <;> first | (go_keep; done) | (simp; done) | (simp; omega) | omega)))
            (first
            | (go_at_call 33; refine (l5ahead_any r x _).mono ?_; rintro e wl ⟨rfl, hbl⟩; rw [hA]))
          all_goals
            have hbl' : Below wr.heap.size wr wl := (belA)
            have hq1 : Below (w.heap.size + 1) (w.alloc (.cells #[.int .i64 r.ky, .int .i64 r.st, .int .i64 r.en, .int .i64 r.n, .int .i64 r.su, .int .i64 r.le, .int .i64 r.mo] 42)) wl := hbw.trans (hbl'.mono hwr)
            have HO1 := hide (ownBel (unhide HO) hbl')
            have HR1 := hide ((unhide HRr).below hbl' (fun _ => hg))
            have hgl : g < wl.heap.size := Nat.lt_of_lt_of_le hg hbl'.size
            have hws : w.heap.size + 1 ≤ wl.heap.size := Nat.le_trans hwr hbl'.size
            obtain ⟨⟨C0, C1, C2, C3, C4, C5, C6, D0, D1, D2, D3, D4, D5, D6⟩, _, _⟩ := hd_7_7 HS hbl'
            clear HS
            have hylv : (ys ++ [r]).length ≤ k + 2 := by rw [List.length_append]; simp; omega
            go_wp2_with (first
              | (at_builtin; go_loud (refine wpList_append_own_at _ rfl _ _ 26 rfl (w.heap.size + 1) 42 i0 _ 7 56 Try.underlying26 hi hz0 hz1 hz2 rfl (by decide) u6 _ _ rfl (World.ownsRow.alloc (unhide HO1) _) ⟨wl.heap.size, 0, none⟩ 1 1 [.int .i64 r.ky, .int .i64 r.st, .int .i64 r.en, .int .i64 r.n, .int .i64 r.su, .int .i64 r.le, .int .i64 r.mo] rfl rfl (cells_newTb wl r.ky r.st r.en r.n r.su r.le r.mo _) (by simp [Value.oneCell']) (by unfold maxLen; omega) (by omega) (by simp; omega) ?_); intro vv ww hownv hgrowv _ hblkv; obtain ⟨hbv, hrv, hgv, hnev⟩ := put_carry hq1 (unhide hge) hws (unhide HR1) hgl (unhide HNE) hgrowv hblkv; have hwv : w.heap.size + 1 ≤ ww.heap.size := put_size hbv (by simp); have HOv : Hid (OwnTb ww (w.heap.size + 1) vv (ys ++ [r])) := hide (ownTb_snoc hownv); have hgev := hide (ownTb_ge (unhide HOv)); have HRv := hide hrv; have HNEv := hide hnev; obtain ⟨E0, E1, E2, E3, E4, E5, E6⟩ := hrv k _ (unhide hX); clear hownv hgrowv hblkv hrv hnev)
              | (at_builtin; go_loud (refine wpList_append_own_at _ rfl _ _ 26 rfl (w.heap.size + 1) 42 i0 _ 7 56 Try.underlying26 hi hz0 hz1 hz2 rfl (by decide) vv _ _ rfl (World.ownsRow.alloc (unhide HOv) _) ⟨ww.heap.size, 0, none⟩ 1 1 [.int .i64 x.ky, .int .i64 x.st, .int .i64 x.en, .int .i64 x.n, .int .i64 x.su, .int .i64 x.le, .int .i64 x.mo] rfl rfl (cells_newTb ww x.ky x.st x.en x.n x.su x.le x.mo _) (by simp [Value.oneCell']) (by unfold maxLen; omega) (by omega) (by simp; omega) ?_); intro v' w1 hown' hgrow _ hblk))
            obtain ⟨hb1, hr1, hg1, hne1⟩ := put_carry hbv (unhide hgev) hwv (unhide HRv) hgv (unhide HNEv) hgrow hblk
            go_roundw
            case rel => exact ⟨true, k + 1, (ys ++ [r]) ++ [x], by omega, rfl, by go_num, ownTb_snoc hown', hide (putAt_now (unhide hX) hA (unhide HP)), hide (rest_mk hr1 hg1 hne1), hb1⟩
            case measure => simp [intOf]; omega
      · go_wp2
        go_quiet (fail)
        have hbl' : Below wr.heap.size wr (wr.drewN nq) := bel_drewN (Below.refl _ wr) nq
        generalize wr.drewN nq = wl at hbl' ⊢
        have hq1 : Below (w.heap.size + 1) (w.alloc (.cells #[.int .i64 r.ky, .int .i64 r.st, .int .i64 r.en, .int .i64 r.n, .int .i64 r.su, .int .i64 r.le, .int .i64 r.mo] 42)) wl := hbw.trans (hbl'.mono hwr)
        have HO1 := hide (ownBel (unhide HO) hbl')
        have HR1 := hide ((unhide HRr).below hbl' (fun _ => hg))
        have hgl : g < wl.heap.size := Nat.lt_of_lt_of_le hg hbl'.size
        have hws : w.heap.size + 1 ≤ wl.heap.size := Nat.le_trans hwr hbl'.size
        obtain ⟨⟨C0, C1, C2, C3, C4, C5, C6, D0, D1, D2, D3, D4, D5, D6⟩, _, _⟩ := hd_7_7 HS hbl'
        clear HS
        go_wp2_with (at_builtin; go_loud (refine wpList_append_own_at _ rfl _ _ 26 rfl (w.heap.size + 1) 42 i0 _ 7 56 Try.underlying26 hi hz0 hz1 hz2 rfl (by decide) u6 _ _ rfl (World.ownsRow.alloc (unhide HO1) _) ⟨wl.heap.size, 0, none⟩ 1 1 [.int .i64 x.ky, .int .i64 x.st, .int .i64 x.en, .int .i64 x.n, .int .i64 x.su, .int .i64 x.le, .int .i64 x.mo] rfl rfl (cells_newTb wl x.ky x.st x.en x.n x.su x.le x.mo _) (by simp [Value.oneCell']) (by unfold maxLen; omega) (by omega) (by simp; omega) ?_); intro v' w1 hown' hgrow _ hblk)
        obtain ⟨hb1, hr1, hg1, hne1⟩ := put_carry hq1 (unhide hge) hws (unhide HR1) hgl (unhide HNE) hgrow hblk
        go_roundw
        case rel => exact ⟨true, k + 1, ys ++ [x], by omega, rfl, by go_num, ownTb_snoc hown', hide (putAt_done (unhide hX) (unhide HP)), hide (rest_mk hr1 hg1 hne1), hb1⟩
        case measure => simp [intOf]; omega
    · cases d
      · have HQ := hide (putAt_end0 (by omega) (unhide HP))
        have C0 : wr.cell? ⟨w.heap.size, 0, none⟩ = some (.int .i64 r.ky) := (hbw.cell (p := ⟨w.heap.size, 0, none⟩) (by simp)).trans (by simp [go_sem])
        have C1 : wr.cell? ⟨w.heap.size, 1, none⟩ = some (.int .i64 r.st) := (hbw.cell (p := ⟨w.heap.size, 1, none⟩) (by simp)).trans (by simp [go_sem])
        have C2 : wr.cell? ⟨w.heap.size, 2, none⟩ = some (.int .i64 r.en) := (hbw.cell (p := ⟨w.heap.size, 2, none⟩) (by simp)).trans (by simp [go_sem])
        have C3 : wr.cell? ⟨w.heap.size, 3, none⟩ = some (.int .i64 r.n) := (hbw.cell (p := ⟨w.heap.size, 3, none⟩) (by simp)).trans (by simp [go_sem])
        have C4 : wr.cell? ⟨w.heap.size, 4, none⟩ = some (.int .i64 r.su) := (hbw.cell (p := ⟨w.heap.size, 4, none⟩) (by simp)).trans (by simp [go_sem])
        have C5 : wr.cell? ⟨w.heap.size, 5, none⟩ = some (.int .i64 r.le) := (hbw.cell (p := ⟨w.heap.size, 5, none⟩) (by simp)).trans (by simp [go_sem])
        have C6 : wr.cell? ⟨w.heap.size, 6, none⟩ = some (.int .i64 r.mo) := (hbw.cell (p := ⟨w.heap.size, 6, none⟩) (by simp)).trans (by simp [go_sem])
        go_wp2_with (at_builtin; go_loud (refine wpList_append_own_at _ rfl _ _ 26 rfl (w.heap.size + 1) 42 i0 _ 7 56 Try.underlying26 hi hz0 hz1 hz2 rfl (by decide) u6 _ _ rfl (World.ownsRow.alloc (unhide HO) _) ⟨wr.heap.size, 0, none⟩ 1 1 [.int .i64 r.ky, .int .i64 r.st, .int .i64 r.en, .int .i64 r.n, .int .i64 r.su, .int .i64 r.le, .int .i64 r.mo] rfl rfl (cells_newTb wr r.ky r.st r.en r.n r.su r.le r.mo _) (by simp [Value.oneCell']) (by unfold maxLen; omega) (by omega) (by simp; omega) ?_); intro v' w1 hown' hgrow _ hblk)
        have hb1 := put_none hbw (unhide hge) hwr hgrow
        go_ret
        refine ⟨_, rfl, ?_, bel_trans (bel_one _ _) (by simpa using hb1)⟩
        rw [unhide HZ, ← unhide HQ]
        exact World.ownsRow.mono (ownTb_snoc hown') (by omega)
      · have HQ := hide (putAt_end1 (by omega) (unhide HP))
        go_wp2
        go_ret
        refine ⟨_, rfl, ?_, hb0⟩
        rw [unhide HZ, ← unhide HQ]
        exact World.ownsRow.mono (unhide HO) (by omega)
end Go.Proofs.Ytblmhpngaccllaa
