/- Proved here: the lines of rows, in the program; the law on TabText. -/
import Derived.Test.YtkadmigecojpoaaDoorTabTxtS
namespace Go.Proofs.YtkadmigecojpoaaDoor
open Go.ChangeShapes Go.WideShapes Go.ChangeAt Go.RowKit
set_option linter.unusedVariables false

theorem rowplR (ky st en n su le mo : Int) (w : World) : Calls Tryd.prog 39 #[.agg #[.int .i64 ky, .int .i64 st, .int .i64 en, .int .i64 n, .int .i64 su, .int .i64 le, .int .i64 mo]] w fun e w' => e = .returned (.agg #[.int .i64 ky, .int .i64 st, .int .i64 en]) ∧ Below w.heap.size w w' := by
  go_enter Tryd.func39, Tryd.ntmps39
  go_wp2
  refine bodyPost_ret (v := .agg #[.int .i64 ky, .int .i64 st, .int .i64 en]) (by simp [results, Tryd.results39, go_sem]) rfl ⟨rfl, ?_⟩
  exact (by repeat (first | (with_reducible refine bel_set ?_ (by first | (simp; done) | (simp; omega)) _) | (with_reducible refine bel_alloc ?_ _) | (with_reducible exact Below.refl _ _) | (with_reducible assumption) | (with_reducible refine bel_drew ?_) | (with_reducible refine bel_drewN ?_ _) | (with_reducible refine bel_trans ?_ (by with_reducible assumption))))
theorem plSize (ky st en : Int) (hk : 0 ≤ ky ∧ ky ≤ 3) (hw : 0 ≤ st ∧ st ≤ 60 ∧ 1 ≤ en ∧ en ≤ 120) : (placeTxt ky st en).size ≤ 100 := by
  have sA := decI_size ky (by omega) (by omega)
  have sW := winTxt_size st en (by omega) (by omega)
  unfold placeTxt
  rw [ByteArray.size_append, ByteArray.size_append, ByteArray.size_append]
  have e1 : (⟨#[107, 101, 121, 32]⟩ : ByteArray).size = 4 := rfl
  have e2 : (⟨#[32, 119, 105, 110, 100, 111, 119, 32]⟩ : ByteArray).size = 8 := rfl
  omega

set_option maxRecDepth 20000 in
set_option maxHeartbeats 2000000 in
theorem impltabtext_any (a : Option Addr) (len cap : Nat) (xs : List TbR) (c : Int) (w : World) (h : TbRs w a len xs) (hl : len ≤ 1048576) (htab : Lib.TabIs Tryd.prog w "internal/strconv.uint64pow10" .u64 Lib.pow10Tab) : Calls Tryd.prog 14 #[.slice a len cap, .int .i64 c] w fun e w' => ∃ v, e = .returned v ∧ OwnSt w' w.heap.size v (linesT c xs) ∧ Below w.heap.size w w' := by
  have hm := h.2.1
  unfold maxLen at hm
  obtain ⟨i0, hi, hz0, hz1, hz2⟩ := info_parts Tryd.infoStr
  go_enter Tryd.func14, Tryd.ntmps14
  go_wp2
  go_loopw [5, 10] (fun v' i wr => ∃ k : Nat, k ≤ len ∧ i = .int .i64 k ∧ OwnSt wr w.heap.size v' (linesT c (xs.take k)) ∧ Below w.heap.size w wr) (fun _ i _ => len - (intOf i).toNat)
  case atStart => exact ⟨0, Nat.zero_le _, rfl, World.ownsRow_nil _ _ _ _, Below.refl _ _⟩
  case round =>
    obtain ⟨k, hk, rfl, hO, hbw⟩ := hrel
    have hws := hbw.size
    have hkl := linesT_len c xs k
    have HO := hide hO
    have hge := hide (ownSt_ge hO)
    have hlt5 := hide (own_lt hO)
    clear hO
    by_cases hlt : k < len
    · obtain ⟨hxl, _, hx⟩ := h
      obtain ⟨g, o, rfl, hr⟩ := hx.resolve_left (by omega)
      obtain ⟨x, hxk⟩ : ∃ x, xs[k]? = some x := ⟨_, List.getElem?_eq_getElem (by omega)⟩
      have hg : g < w.heap.size := hr.lt (by omega)
      have hX := hide hxk
      obtain ⟨d0, d1, d2, d3, d4, d5, d6⟩ := (hr k _ hxk).below hbw hg
      clear hx hxk hr
      cases c0 : okPlace x.ky x.st x.en
      · skip
        have HB := hide (show okR x = false by unfold okPlace at c0; simp only [okR, c0, Bool.false_and])
        go_wp2_with (first
          | (go_at_call 39; refine (rowplR _ _ _ _ _ _ _ _).mono ?_; rintro e wb ⟨rfl, hbb⟩; obtain ⟨hcb, hfb, hsb⟩ := bcell hbb; have hzb : wr.heap.size < wb.heap.size := (by have h9 := hbb.size; simp at h9; omega))
          | (go_at_call 40; refine (placeok_any _ _ _ _).mono ?_; rintro e wc ⟨rfl, hbc⟩; obtain ⟨hcc, hfc, hsc⟩ := bcell hbc; have hzc : wr.heap.size < wc.heap.size := (by have h9 := hbc.size; (try simp at h9); omega))
          | (go_at_call 41; refine (aggok_any _ _ _ _ _).mono ?_; rintro e wa ⟨rfl, hba⟩; obtain ⟨hca, hfa, hsa⟩ := bcell hba; have hza : wr.heap.size < wa.heap.size := (by have h9 := hba.size; (try simp at h9); omega)))
        go_roundw
        case rel => exact ⟨k + 1, by omega, by go_num, skipL (unhide hX) (unhide HB) (ownBel (unhide HO) (by repeat (first | (with_reducible exact Below.refl _ _) | (with_reducible assumption) | (with_reducible refine bel_set ?_ (by first | (simp; done) | (simp; omega)) _) | (with_reducible refine bel_alloc ?_ _) | (with_reducible refine bel_drew ?_) | (with_reducible refine bel_drewN ?_ _) | (with_reducible refine bel_trans ?_ (by with_reducible assumption))))), (by repeat (first | (with_reducible exact Below.refl _ _) | (with_reducible assumption) | (with_reducible refine bel_set ?_ (by first | (simp; done) | (simp; omega)) _) | (with_reducible refine bel_alloc ?_ _) | (with_reducible refine bel_drew ?_) | (with_reducible refine bel_drewN ?_ _) | (with_reducible refine bel_trans ?_ (by with_reducible assumption))))⟩
        case measure => simp [intOf]; omega
      cases c2 : okAgg x.n x.su x.le x.mo
      · skip
        have HB := hide (show okR x = false by simp [okR, c2])
        go_wp2_with (first
          | (go_at_call 39; refine (rowplR _ _ _ _ _ _ _ _).mono ?_; rintro e wb ⟨rfl, hbb⟩; obtain ⟨hcb, hfb, hsb⟩ := bcell hbb; have hzb : wr.heap.size < wb.heap.size := (by have h9 := hbb.size; simp at h9; omega))
          | (go_at_call 40; refine (placeok_any _ _ _ _).mono ?_; rintro e wc ⟨rfl, hbc⟩; obtain ⟨hcc, hfc, hsc⟩ := bcell hbc; have hzc : wr.heap.size < wc.heap.size := (by have h9 := hbc.size; (try simp at h9); omega))
          | (go_at_call 41; refine (aggok_any _ _ _ _ _).mono ?_; rintro e wa ⟨rfl, hba⟩; obtain ⟨hca, hfa, hsa⟩ := bcell hba; have hza : wr.heap.size < wa.heap.size := (by have h9 := hba.size; (try simp at h9); omega)))
        go_roundw
        case rel => exact ⟨k + 1, by omega, by go_num, skipL (unhide hX) (unhide HB) (ownBel (unhide HO) (by repeat (first | (with_reducible exact Below.refl _ _) | (with_reducible assumption) | (with_reducible refine bel_set ?_ (by first | (simp; done) | (simp; omega)) _) | (with_reducible refine bel_alloc ?_ _) | (with_reducible refine bel_drew ?_) | (with_reducible refine bel_drewN ?_ _) | (with_reducible refine bel_trans ?_ (by with_reducible assumption))))), (by repeat (first | (with_reducible exact Below.refl _ _) | (with_reducible assumption) | (with_reducible refine bel_set ?_ (by first | (simp; done) | (simp; omega)) _) | (with_reducible refine bel_alloc ?_ _) | (with_reducible refine bel_drew ?_) | (with_reducible refine bel_drewN ?_ _) | (with_reducible refine bel_trans ?_ (by with_reducible assumption))))⟩
        case measure => simp [intOf]; omega
      have HB := hide (show okR x = true by unfold okPlace at c0; simp only [okR, c0, c2, Bool.and_self])
      have hcp : inB x.ky 0 3 = true ∧ okWin x.st x.en = true := by unfold okPlace at c0; simpa using c0
      have hk3 := inB_iff.1 hcp.1
      have hwb := okWin_bd hcp.2
      have ht := tell_bd (k := c) c2
      have sP := plSize x.ky x.st x.en hk3 hwb
      have sV := decI_size (tellI x.n x.su x.le x.mo c) ht.1 ht.2
      have n0 : ¬ 9223372036854775807 < (placeTxt x.ky x.st x.en).size + 5 := by omega
      have n1 : ¬ 9223372036854775807 < (placeTxt x.ky x.st x.en).size + 5 + (decI (tellI x.n x.su x.le x.mo c)).size := by omega
      clear hcp
      go_wp2_with (first
        | (go_at_call 39; refine (rowplR _ _ _ _ _ _ _ _).mono ?_; rintro e wb ⟨rfl, hbb⟩; obtain ⟨hcb, hfb, hsb⟩ := bcell hbb; have hzb : wr.heap.size < wb.heap.size := (by have h9 := hbb.size; simp at h9; omega))
        | (go_at_call 40; refine (placeok_any _ _ _ _).mono ?_; rintro e wc ⟨rfl, hbc⟩; obtain ⟨hcc, hfc, hsc⟩ := bcell hbc; have hzc : wr.heap.size < wc.heap.size := (by have h9 := hbc.size; (try simp at h9); omega))
        | (go_at_call 41; refine (aggok_any _ _ _ _ _).mono ?_; rintro e wa ⟨rfl, hba⟩; obtain ⟨hca, hfa, hsa⟩ := bcell hba; have hza : wr.heap.size < wa.heap.size := (by have h9 := hba.size; (try simp at h9); omega)))
      have hbX : Below (wr.alloc (.cells #[.int .i64 x.ky, .int .i64 x.st, .int .i64 x.en, .int .i64 x.n, .int .i64 x.su, .int .i64 x.le, .int .i64 x.mo] 64)).heap.size (wr.alloc (.cells #[.int .i64 x.ky, .int .i64 x.st, .int .i64 x.en, .int .i64 x.n, .int .i64 x.su, .int .i64 x.le, .int .i64 x.mo] 64)) wa := (by repeat (first | (with_reducible exact Below.refl _ _) | (with_reducible assumption) | (with_reducible refine bel_set ?_ (by first | (simp; done) | (simp; omega)) _) | (with_reducible refine bel_alloc ?_ _) | (with_reducible refine bel_drew ?_) | (with_reducible refine bel_drewN ?_ _) | (with_reducible refine bel_trans ?_ (by with_reducible assumption))))
      have HS : ((wa.cell? ⟨wr.heap.size, 0, none⟩ = some (.int .i64 x.ky) ∧ wa.cell? ⟨wr.heap.size, 1, none⟩ = some (.int .i64 x.st) ∧ wa.cell? ⟨wr.heap.size, 2, none⟩ = some (.int .i64 x.en) ∧ wa.cell? ⟨wr.heap.size, 3, none⟩ = some (.int .i64 x.n) ∧ wa.cell? ⟨wr.heap.size, 4, none⟩ = some (.int .i64 x.su) ∧ wa.cell? ⟨wr.heap.size, 5, none⟩ = some (.int .i64 x.le) ∧ wa.cell? ⟨wr.heap.size, 6, none⟩ = some (.int .i64 x.mo)) ∧ wr.heap.size < wa.heap.size) := ⟨⟨(hbX.cell (p := ⟨wr.heap.size, 0, none⟩) (by simp)).trans (by simp [go_sem]), (hbX.cell (p := ⟨wr.heap.size, 1, none⟩) (by simp)).trans (by simp [go_sem]), (hbX.cell (p := ⟨wr.heap.size, 2, none⟩) (by simp)).trans (by simp [go_sem]), (hbX.cell (p := ⟨wr.heap.size, 3, none⟩) (by simp)).trans (by simp [go_sem]), (hbX.cell (p := ⟨wr.heap.size, 4, none⟩) (by simp)).trans (by simp [go_sem]), (hbX.cell (p := ⟨wr.heap.size, 5, none⟩) (by simp)).trans (by simp [go_sem]), (hbX.cell (p := ⟨wr.heap.size, 6, none⟩) (by simp)).trans (by simp [go_sem])⟩, hza⟩
      clear hca hfa hsa hcb hfb hsb hcc hfc hsc hbX c0 c2 d0 d1 d2 d3 d4 d5 d6
      go_region_held3 (fun W => ((W.cell? ⟨wr.heap.size, 0, none⟩ = some (.int .i64 x.ky) ∧ W.cell? ⟨wr.heap.size, 1, none⟩ = some (.int .i64 x.st) ∧ W.cell? ⟨wr.heap.size, 2, none⟩ = some (.int .i64 x.en) ∧ W.cell? ⟨wr.heap.size, 3, none⟩ = some (.int .i64 x.n) ∧ W.cell? ⟨wr.heap.size, 4, none⟩ = some (.int .i64 x.su) ∧ W.cell? ⟨wr.heap.size, 5, none⟩ = some (.int .i64 x.le) ∧ W.cell? ⟨wr.heap.size, 6, none⟩ = some (.int .i64 x.mo)) ∧ wr.heap.size < W.heap.size)) ((first | ((repeat (first | (with_reducible assumption) | (with_reducible refine hd_7 ?_ (by with_reducible assumption)) | (with_reducible refine hd_7 ?_ (bel_drew (Below.refl _ _))) | (with_reducible exact hd_7_re (by with_reducible assumption) (by first | omega | (simp; done) | (simp; omega))) | (with_reducible refine hd_7 ?_ (bel_one _ _)) | (with_reducible refine hd_7_set ?_ (by first | omega | (simp; done) | (simp; omega)) _))); done) | (refine ⟨⟨?_, ?_, ?_, ?_, ?_, ?_, ?_⟩, ?_⟩ <;> first | (go_keep; done) | (simp; done) | (simp; omega) | omega)))
        (first
        | (go_at_call 39; refine (rowplR _ _ _ _ _ _ _ _).mono ?_; rintro e wk ⟨rfl, hbk⟩)
        | (go_at_call 42; refine (placetext_any _ _ _ _ hk3 hwb (by exact tab_bel htab (by repeat (first | (with_reducible exact Below.refl _ _) | (with_reducible assumption) | (with_reducible refine bel_set ?_ (by first | (simp; done) | (simp; omega)) _) | (with_reducible refine bel_alloc ?_ _) | (with_reducible refine bel_drew ?_) | (with_reducible refine bel_drewN ?_ _) | (with_reducible refine bel_trans ?_ (by with_reducible assumption)))))).mono ?_; rintro e wn ⟨rfl, hbn⟩)
        | (go_at_call 26; refine (impltell_any _ _ _ _ _ _).mono ?_; rintro e wt ⟨rfl, hbt⟩)
        | (go_at_call 43; refine (itoaI_any _ _ ht.1 ht.2 (by exact tab_bel htab (by repeat (first | (with_reducible exact Below.refl _ _) | (with_reducible assumption) | (with_reducible refine bel_set ?_ (by first | (simp; done) | (simp; omega)) _) | (with_reducible refine bel_alloc ?_ _) | (with_reducible refine bel_drew ?_) | (with_reducible refine bel_drewN ?_ _) | (with_reducible refine bel_trans ?_ (by with_reducible assumption)))))).mono ?_; rintro e wv ⟨rfl, hbv⟩)
        | (refine step_append_own rfl (.tmp 22) (.tmp 33) 35 rfl w.heap.size 9 i0 _ 1 16 Tryd.underlying35 hi hz0 hz1 hz2 rfl (by decide) u5 _ (flatSt (linesT c (xs.take k))) (by simp [Act.eval]) (World.ownsRow.alloc (ownBel (unhide HO) (by repeat (first | (with_reducible exact Below.refl _ _) | (with_reducible assumption) | (with_reducible refine bel_set ?_ (by first | (simp; done) | (simp; omega)) _) | (with_reducible refine bel_alloc ?_ _) | (with_reducible refine bel_drew ?_) | (with_reducible refine bel_drewN ?_ _) | (with_reducible refine bel_trans ?_ (by with_reducible assumption))))) _) ⟨wv.heap.size, 0, none⟩ 1 1 [.string (rowTxt x c)] (by simp [Act.eval]) rfl (cells_newSt wv (rowTxt x c) _) (by simp [Value.oneCell']) (by unfold maxLen; omega) (by omega) (by have h9 := hbw.size; have h8 : wr.heap.size ≤ wv.heap.size := (show Below wr.heap.size wr wv from (by repeat (first | (with_reducible exact Below.refl _ _) | (with_reducible assumption) | (with_reducible refine bel_set ?_ (by first | (simp; done) | (simp; omega)) _) | (with_reducible refine bel_alloc ?_ _) | (with_reducible refine bel_drew ?_) | (with_reducible refine bel_drewN ?_ _) | (with_reducible refine bel_trans ?_ (by with_reducible assumption))))).size; simp; omega) ?_; intro v' w1 hown' hgrow; have HS1 : ((w1.cell? ⟨wr.heap.size, 0, none⟩ = some (.int .i64 x.ky) ∧ w1.cell? ⟨wr.heap.size, 1, none⟩ = some (.int .i64 x.st) ∧ w1.cell? ⟨wr.heap.size, 2, none⟩ = some (.int .i64 x.en) ∧ w1.cell? ⟨wr.heap.size, 3, none⟩ = some (.int .i64 x.n) ∧ w1.cell? ⟨wr.heap.size, 4, none⟩ = some (.int .i64 x.su) ∧ w1.cell? ⟨wr.heap.size, 5, none⟩ = some (.int .i64 x.le) ∧ w1.cell? ⟨wr.heap.size, 6, none⟩ = some (.int .i64 x.mo)) ∧ wr.heap.size < w1.heap.size) := st_keep HS (show Below wa.heap.size wa _ from (by repeat (first | (with_reducible exact Below.refl _ _) | (with_reducible assumption) | (with_reducible refine bel_set ?_ (by first | (simp; done) | (simp; omega)) _) | (with_reducible refine bel_alloc ?_ _) | (with_reducible refine bel_drew ?_) | (with_reducible refine bel_drewN ?_ _) | (with_reducible refine bel_trans ?_ (by with_reducible assumption))))) hgrow (fun e9 => by have := unhide hlt5 _ e9.symm; omega); have hb1 : Below w.heap.size w w1 := (show Below w.heap.size w _ from (by repeat (first | (with_reducible exact Below.refl _ _) | (with_reducible assumption) | (with_reducible refine bel_set ?_ (by first | (simp; done) | (simp; omega)) _) | (with_reducible refine bel_alloc ?_ _) | (with_reducible refine bel_drew ?_) | (with_reducible refine bel_drewN ?_ _) | (with_reducible refine bel_trans ?_ (by with_reducible assumption))))).grown hgrow (by have h9 := hbw.size; have h8 : wr.heap.size ≤ wv.heap.size := (show Below wr.heap.size wr wv from (by repeat (first | (with_reducible exact Below.refl _ _) | (with_reducible assumption) | (with_reducible refine bel_set ?_ (by first | (simp; done) | (simp; omega)) _) | (with_reducible refine bel_alloc ?_ _) | (with_reducible refine bel_drew ?_) | (with_reducible refine bel_drewN ?_ _) | (with_reducible refine bel_trans ?_ (by with_reducible assumption))))).size; simp; omega) (unhide hge)))
      all_goals
        go_wp2
        go_roundw
        case rel => exact ⟨k + 1, by omega, by go_num, keepL (unhide hX) (unhide HB) hown', hb1⟩
        case measure => simp [intOf]; omega
    · have HQ : Hid (linesT c (xs.take k) = linesT c xs) := hide (by rw [List.take_of_length_le (by have := h.1; omega)])
      go_wp2
      go_ret
      refine ⟨_, rfl, ?_, hbw⟩
      rw [← unhide HQ]
      exact unhide HO

end Go.Proofs.YtkadmigecojpoaaDoor
