/- Proved here: a pane's text, in the program. -/
import Derived.Test.YtkadmigecojpoaaDoorPanTxtS
namespace Go.Proofs.YtkadmigecojpoaaDoor
open Go.ChangeShapes Go.WideShapes Go.ChangeAt Go.RowKit
set_option linter.unusedVariables false

theorem imt_1 (H V : ByteArray) (v : Int) (hV : decI v = V) : H ++ ⟨#[32, 116, 105, 109, 101, 108, 121, 32]⟩ ++ V = H ++ panTail 1 v := by
  show _ = H ++ (⟨#[32, 116, 105, 109, 101, 108, 121, 32]⟩ ++ decI v)
  rw [hV, bapp]
theorem imt_2 (H V : ByteArray) (v : Int) (hV : decI v = V) : H ++ ⟨#[32, 108, 97, 116, 101, 32]⟩ ++ V = H ++ panTail 2 v := by
  show _ = H ++ (⟨#[32, 108, 97, 116, 101, 32]⟩ ++ decI v)
  rw [hV, bapp]
theorem imt_3 (H : ByteArray) (v : Int) : H ++ ⟨#[32, 103, 111, 110, 101]⟩ = H ++ panTail 3 v := rfl
theorem placeTxt_size (ky st en : Int) (hk : 0 ≤ ky ∧ ky ≤ 3) (hw : 0 ≤ st ∧ st ≤ 60 ∧ 1 ≤ en ∧ en ≤ 120) : (placeTxt ky st en).size ≤ 100 := by
  have sA := decI_size ky (by omega) (by omega)
  have sW := winTxt_size st en (by omega) (by omega)
  unfold placeTxt
  rw [ByteArray.size_append, ByteArray.size_append, ByteArray.size_append]
  have e1 : (⟨#[107, 101, 121, 32]⟩ : ByteArray).size = 4 := rfl
  have e2 : (⟨#[32, 119, 105, 110, 100, 111, 119, 32]⟩ : ByteArray).size = 8 := rfl
  omega

set_option maxRecDepth 20000 in
set_option maxHeartbeats 4000000 in
theorem implpantext_any (ky st en no kd n s l m k : Int) (w : World) (htab : Lib.TabIs Tryd.prog w "internal/strconv.uint64pow10" .u64 Lib.pow10Tab) : Calls Tryd.prog 22 #[.agg #[.int .i64 ky, .int .i64 st, .int .i64 en, .int .i64 no, .int .i64 kd, .int .i64 n, .int .i64 s, .int .i64 l, .int .i64 m], .int .i64 k] w fun e w' => e = .returned (.string (panText ky st en no kd n s l m k)) ∧ Below w.heap.size w w' := by
  cases c0 : okPan ky st en no kd n s l m
  · have HQ := hide (panText_no (k := k) c0)
    go_enter Tryd.func22, Tryd.ntmps22
    go_wp2_with (first
      | (go_at_call 24; refine (implpanok_any _ _ _ _ _ _ _ _ _ _).mono ?_; rintro e wq ⟨rfl, hb⟩; obtain ⟨hc, hf, hs⟩ := bcell hb; (try have hz0 : w.heap.size < wq.heap.size := (by have h9 := hb.size; (try simp at h9); omega)))
      | (go_at_call 49; refine (within_any _ _ _ _).mono ?_; rintro e wx ⟨rfl, hw⟩; obtain rfl := hw.symm; clear hw))
    go_ret
    exact ⟨ret_s (unhide HQ).symm, (by repeat (first | (with_reducible exact Below.refl _ _) | (with_reducible assumption) | (with_reducible refine bel_set ?_ (by first | (simp; done) | (simp; omega)) _) | (with_reducible refine bel_alloc ?_ _) | (with_reducible refine bel_drew ?_) | (with_reducible refine bel_drewN ?_ _) | (with_reducible refine bel_trans ?_ (by with_reducible assumption))))⟩
  cases c1 : inB k 1 4
  · have HQ := hide (panText_nk (ky := ky) (st := st) (en := en) (no := no) (kd := kd) (n := n) (s := s) (l := l) (m := m) c1)
    go_enter Tryd.func22, Tryd.ntmps22
    go_wp2_with (first
      | (go_at_call 24; refine (implpanok_any _ _ _ _ _ _ _ _ _ _).mono ?_; rintro e wq ⟨rfl, hb⟩; obtain ⟨hc, hf, hs⟩ := bcell hb; (try have hz0 : w.heap.size < wq.heap.size := (by have h9 := hb.size; (try simp at h9); omega)))
      | (go_at_call 49; refine (within_any _ _ _ _).mono ?_; rintro e wx ⟨rfl, hw⟩; obtain rfl := hw.symm; clear hw))
    go_ret
    exact ⟨ret_s (unhide HQ).symm, (by repeat (first | (with_reducible exact Below.refl _ _) | (with_reducible assumption) | (with_reducible refine bel_set ?_ (by first | (simp; done) | (simp; omega)) _) | (with_reducible refine bel_alloc ?_ _) | (with_reducible refine bel_drew ?_) | (with_reducible refine bel_drewN ?_ _) | (with_reducible refine bel_trans ?_ (by with_reducible assumption))))⟩
  have HQ := hide (panText_ok c0 c1)
  obtain ⟨hk, hw, hno, hag, hwin, hkd⟩ := okPan_bd c0
  have ht := tell_bd (k := k) hag
  have sP := placeTxt_size ky st en hk hw
  have sB := decI_size no (by omega) (by omega)
  have sV := decI_size (tellI n s l m k) ht.1 ht.2
  rcases hkd with hkd | hkd | hkd
  · subst hkd
    have m0 : ¬ 9223372036854775807 < (placeTxt ky st en).size + 6 := by omega
    have m1 : ¬ 9223372036854775807 < (placeTxt ky st en).size + 6 + (decI no).size := by omega
    have m2 : ¬ 9223372036854775807 < (placeTxt ky st en).size + 6 + (decI no).size + 8 := by omega
    have m3 : ¬ 9223372036854775807 < (placeTxt ky st en).size + 6 + (decI no).size + 8 + (decI (tellI n s l m k)).size := by omega
    go_enter Tryd.func22, Tryd.ntmps22
    go_wp2_with (first
      | (go_at_call 24; refine (implpanok_any _ _ _ _ _ _ _ _ _ _).mono ?_; rintro e wq ⟨rfl, hb⟩; obtain ⟨hc, hf, hs⟩ := bcell hb; (try have hz0 : w.heap.size < wq.heap.size := (by have h9 := hb.size; (try simp at h9); omega)))
      | (go_at_call 49; refine (within_any _ _ _ _).mono ?_; rintro e wx ⟨rfl, hw⟩; obtain rfl := hw.symm; clear hw))
    go_region_held3 (fun W => ((W.cell? ⟨w.heap.size, 0, none⟩ = some (.int .i64 ky) ∧ W.cell? ⟨w.heap.size, 1, none⟩ = some (.int .i64 st) ∧ W.cell? ⟨w.heap.size, 2, none⟩ = some (.int .i64 en) ∧ W.cell? ⟨w.heap.size, 3, none⟩ = some (.int .i64 no) ∧ W.cell? ⟨w.heap.size, 4, none⟩ = some (.int .i64 1) ∧ W.cell? ⟨w.heap.size, 5, none⟩ = some (.int .i64 n) ∧ W.cell? ⟨w.heap.size, 6, none⟩ = some (.int .i64 s) ∧ W.cell? ⟨w.heap.size, 7, none⟩ = some (.int .i64 l) ∧ W.cell? ⟨w.heap.size, 8, none⟩ = some (.int .i64 m)) ∧ w.heap.size < W.heap.size)) ((first | ((repeat (first | (with_reducible assumption) | (with_reducible refine hd_9 ?_ (by with_reducible assumption)) | (with_reducible refine hd_9 ?_ (bel_drew (Below.refl _ _))) | (with_reducible exact hd_9_re (by with_reducible assumption) (by first | omega | (simp; done) | (simp; omega))) | (with_reducible refine hd_9 ?_ (bel_one _ _)) | (with_reducible refine hd_9_set ?_ (by first | omega | (simp; done) | (simp; omega)) _))); done) | (refine ⟨⟨?_, ?_, ?_, ?_, ?_, ?_, ?_, ?_, ?_⟩, ?_⟩ <;> first | (go_keep; done) | (simp; done) | (simp; omega) | omega)))
      (first
      | (go_at_call 50; refine (panplace_any _ _ _ _ _ _ _ _ _ _).mono ?_; rintro e w' ⟨rfl, hb'⟩)
      | (go_at_call 42; refine (placetext_any _ _ _ _ hk hw (by exact tab_bel htab (by repeat (first | (with_reducible exact Below.refl _ _) | (with_reducible assumption) | (with_reducible refine bel_set ?_ (by first | (simp; done) | (simp; omega)) _) | (with_reducible refine bel_alloc ?_ _) | (with_reducible refine bel_drew ?_) | (with_reducible refine bel_drewN ?_ _) | (with_reducible refine bel_trans ?_ (by with_reducible assumption)))))).mono ?_; rintro e w' ⟨rfl, hb'⟩)
      | (go_at_call 43; refine (itoaI_any _ _ (by omega) (by omega) (by exact tab_bel htab (by repeat (first | (with_reducible exact Below.refl _ _) | (with_reducible assumption) | (with_reducible refine bel_set ?_ (by first | (simp; done) | (simp; omega)) _) | (with_reducible refine bel_alloc ?_ _) | (with_reducible refine bel_drew ?_) | (with_reducible refine bel_drewN ?_ _) | (with_reducible refine bel_trans ?_ (by with_reducible assumption)))))).mono ?_; rintro e w' ⟨rfl, hb'⟩))
    go_wp2_with (first
      | (go_at_call 26; refine (impltell_any _ _ _ _ _ _).mono ?_; rintro e wt ⟨rfl, hbt⟩; obtain ⟨hct, hft, hst⟩ := bcell hbt)
      | (go_at_call 43; refine (itoaI_any _ _ ht.1 ht.2 (by exact tab_bel htab (by repeat (first | (with_reducible exact Below.refl _ _) | (with_reducible assumption) | (with_reducible refine bel_set ?_ (by first | (simp; done) | (simp; omega)) _) | (with_reducible refine bel_alloc ?_ _) | (with_reducible refine bel_drew ?_) | (with_reducible refine bel_drewN ?_ _) | (with_reducible refine bel_trans ?_ (by with_reducible assumption)))))).mono ?_; rintro e wv ⟨rfl, hbv⟩; obtain ⟨hcv, hfv, hsv⟩ := bcell hbv; have hzv : w.heap.size < wv.heap.size := (by have h9 := hbv.size; have h8 := hbt.size; (try simp at h9); (try simp at h8); omega)))
    go_ret
    exact ⟨ret_s ((imt_1 _ _ _ rfl).trans (unhide HQ).symm), (by repeat (first | (with_reducible exact Below.refl _ _) | (with_reducible assumption) | (with_reducible refine bel_set ?_ (by first | (simp; done) | (simp; omega)) _) | (with_reducible refine bel_alloc ?_ _) | (with_reducible refine bel_drew ?_) | (with_reducible refine bel_drewN ?_ _) | (with_reducible refine bel_trans ?_ (by with_reducible assumption))))⟩
  · subst hkd
    have m0 : ¬ 9223372036854775807 < (placeTxt ky st en).size + 6 := by omega
    have m1 : ¬ 9223372036854775807 < (placeTxt ky st en).size + 6 + (decI no).size := by omega
    have m2 : ¬ 9223372036854775807 < (placeTxt ky st en).size + 6 + (decI no).size + 6 := by omega
    have m3 : ¬ 9223372036854775807 < (placeTxt ky st en).size + 6 + (decI no).size + 6 + (decI (tellI n s l m k)).size := by omega
    go_enter Tryd.func22, Tryd.ntmps22
    go_wp2_with (first
      | (go_at_call 24; refine (implpanok_any _ _ _ _ _ _ _ _ _ _).mono ?_; rintro e wq ⟨rfl, hb⟩; obtain ⟨hc, hf, hs⟩ := bcell hb; (try have hz0 : w.heap.size < wq.heap.size := (by have h9 := hb.size; (try simp at h9); omega)))
      | (go_at_call 49; refine (within_any _ _ _ _).mono ?_; rintro e wx ⟨rfl, hw⟩; obtain rfl := hw.symm; clear hw))
    go_region_held3 (fun W => ((W.cell? ⟨w.heap.size, 0, none⟩ = some (.int .i64 ky) ∧ W.cell? ⟨w.heap.size, 1, none⟩ = some (.int .i64 st) ∧ W.cell? ⟨w.heap.size, 2, none⟩ = some (.int .i64 en) ∧ W.cell? ⟨w.heap.size, 3, none⟩ = some (.int .i64 no) ∧ W.cell? ⟨w.heap.size, 4, none⟩ = some (.int .i64 2) ∧ W.cell? ⟨w.heap.size, 5, none⟩ = some (.int .i64 n) ∧ W.cell? ⟨w.heap.size, 6, none⟩ = some (.int .i64 s) ∧ W.cell? ⟨w.heap.size, 7, none⟩ = some (.int .i64 l) ∧ W.cell? ⟨w.heap.size, 8, none⟩ = some (.int .i64 m)) ∧ w.heap.size < W.heap.size)) ((first | ((repeat (first | (with_reducible assumption) | (with_reducible refine hd_9 ?_ (by with_reducible assumption)) | (with_reducible refine hd_9 ?_ (bel_drew (Below.refl _ _))) | (with_reducible exact hd_9_re (by with_reducible assumption) (by first | omega | (simp; done) | (simp; omega))) | (with_reducible refine hd_9 ?_ (bel_one _ _)) | (with_reducible refine hd_9_set ?_ (by first | omega | (simp; done) | (simp; omega)) _))); done) | (refine ⟨⟨?_, ?_, ?_, ?_, ?_, ?_, ?_, ?_, ?_⟩, ?_⟩ <;> first | (go_keep; done) | (simp; done) | (simp; omega) | omega)))
      (first
      | (go_at_call 50; refine (panplace_any _ _ _ _ _ _ _ _ _ _).mono ?_; rintro e w' ⟨rfl, hb'⟩)
      | (go_at_call 42; refine (placetext_any _ _ _ _ hk hw (by exact tab_bel htab (by repeat (first | (with_reducible exact Below.refl _ _) | (with_reducible assumption) | (with_reducible refine bel_set ?_ (by first | (simp; done) | (simp; omega)) _) | (with_reducible refine bel_alloc ?_ _) | (with_reducible refine bel_drew ?_) | (with_reducible refine bel_drewN ?_ _) | (with_reducible refine bel_trans ?_ (by with_reducible assumption)))))).mono ?_; rintro e w' ⟨rfl, hb'⟩)
      | (go_at_call 43; refine (itoaI_any _ _ (by omega) (by omega) (by exact tab_bel htab (by repeat (first | (with_reducible exact Below.refl _ _) | (with_reducible assumption) | (with_reducible refine bel_set ?_ (by first | (simp; done) | (simp; omega)) _) | (with_reducible refine bel_alloc ?_ _) | (with_reducible refine bel_drew ?_) | (with_reducible refine bel_drewN ?_ _) | (with_reducible refine bel_trans ?_ (by with_reducible assumption)))))).mono ?_; rintro e w' ⟨rfl, hb'⟩))
    go_wp2_with (first
      | (go_at_call 26; refine (impltell_any _ _ _ _ _ _).mono ?_; rintro e wt ⟨rfl, hbt⟩; obtain ⟨hct, hft, hst⟩ := bcell hbt)
      | (go_at_call 43; refine (itoaI_any _ _ ht.1 ht.2 (by exact tab_bel htab (by repeat (first | (with_reducible exact Below.refl _ _) | (with_reducible assumption) | (with_reducible refine bel_set ?_ (by first | (simp; done) | (simp; omega)) _) | (with_reducible refine bel_alloc ?_ _) | (with_reducible refine bel_drew ?_) | (with_reducible refine bel_drewN ?_ _) | (with_reducible refine bel_trans ?_ (by with_reducible assumption)))))).mono ?_; rintro e wv ⟨rfl, hbv⟩; obtain ⟨hcv, hfv, hsv⟩ := bcell hbv; have hzv : w.heap.size < wv.heap.size := (by have h9 := hbv.size; have h8 := hbt.size; (try simp at h9); (try simp at h8); omega)))
    go_ret
    exact ⟨ret_s ((imt_2 _ _ _ rfl).trans (unhide HQ).symm), (by repeat (first | (with_reducible exact Below.refl _ _) | (with_reducible assumption) | (with_reducible refine bel_set ?_ (by first | (simp; done) | (simp; omega)) _) | (with_reducible refine bel_alloc ?_ _) | (with_reducible refine bel_drew ?_) | (with_reducible refine bel_drewN ?_ _) | (with_reducible refine bel_trans ?_ (by with_reducible assumption))))⟩
  · subst hkd
    have m0 : ¬ 9223372036854775807 < (placeTxt ky st en).size + 6 := by omega
    have m1 : ¬ 9223372036854775807 < (placeTxt ky st en).size + 6 + (decI no).size := by omega
    have m2 : ¬ 9223372036854775807 < (placeTxt ky st en).size + 6 + (decI no).size + 5 := by omega
    go_enter Tryd.func22, Tryd.ntmps22
    go_wp2_with (first
      | (go_at_call 24; refine (implpanok_any _ _ _ _ _ _ _ _ _ _).mono ?_; rintro e wq ⟨rfl, hb⟩; obtain ⟨hc, hf, hs⟩ := bcell hb; (try have hz0 : w.heap.size < wq.heap.size := (by have h9 := hb.size; (try simp at h9); omega)))
      | (go_at_call 49; refine (within_any _ _ _ _).mono ?_; rintro e wx ⟨rfl, hw⟩; obtain rfl := hw.symm; clear hw))
    go_region_held3 (fun W => ((W.cell? ⟨w.heap.size, 0, none⟩ = some (.int .i64 ky) ∧ W.cell? ⟨w.heap.size, 1, none⟩ = some (.int .i64 st) ∧ W.cell? ⟨w.heap.size, 2, none⟩ = some (.int .i64 en) ∧ W.cell? ⟨w.heap.size, 3, none⟩ = some (.int .i64 no) ∧ W.cell? ⟨w.heap.size, 4, none⟩ = some (.int .i64 3) ∧ W.cell? ⟨w.heap.size, 5, none⟩ = some (.int .i64 n) ∧ W.cell? ⟨w.heap.size, 6, none⟩ = some (.int .i64 s) ∧ W.cell? ⟨w.heap.size, 7, none⟩ = some (.int .i64 l) ∧ W.cell? ⟨w.heap.size, 8, none⟩ = some (.int .i64 m)) ∧ w.heap.size < W.heap.size)) ((first | ((repeat (first | (with_reducible assumption) | (with_reducible refine hd_9 ?_ (by with_reducible assumption)) | (with_reducible refine hd_9 ?_ (bel_drew (Below.refl _ _))) | (with_reducible exact hd_9_re (by with_reducible assumption) (by first | omega | (simp; done) | (simp; omega))) | (with_reducible refine hd_9 ?_ (bel_one _ _)) | (with_reducible refine hd_9_set ?_ (by first | omega | (simp; done) | (simp; omega)) _))); done) | (refine ⟨⟨?_, ?_, ?_, ?_, ?_, ?_, ?_, ?_, ?_⟩, ?_⟩ <;> first | (go_keep; done) | (simp; done) | (simp; omega) | omega)))
      (first
      | (go_at_call 50; refine (panplace_any _ _ _ _ _ _ _ _ _ _).mono ?_; rintro e w' ⟨rfl, hb'⟩)
      | (go_at_call 42; refine (placetext_any _ _ _ _ hk hw (by exact tab_bel htab (by repeat (first | (with_reducible exact Below.refl _ _) | (with_reducible assumption) | (with_reducible refine bel_set ?_ (by first | (simp; done) | (simp; omega)) _) | (with_reducible refine bel_alloc ?_ _) | (with_reducible refine bel_drew ?_) | (with_reducible refine bel_drewN ?_ _) | (with_reducible refine bel_trans ?_ (by with_reducible assumption)))))).mono ?_; rintro e w' ⟨rfl, hb'⟩)
      | (go_at_call 43; refine (itoaI_any _ _ (by omega) (by omega) (by exact tab_bel htab (by repeat (first | (with_reducible exact Below.refl _ _) | (with_reducible assumption) | (with_reducible refine bel_set ?_ (by first | (simp; done) | (simp; omega)) _) | (with_reducible refine bel_alloc ?_ _) | (with_reducible refine bel_drew ?_) | (with_reducible refine bel_drewN ?_ _) | (with_reducible refine bel_trans ?_ (by with_reducible assumption)))))).mono ?_; rintro e w' ⟨rfl, hb'⟩))
    go_wp2_with (first
      | (go_at_call 26; refine (impltell_any _ _ _ _ _ _).mono ?_; rintro e wt ⟨rfl, hbt⟩; obtain ⟨hct, hft, hst⟩ := bcell hbt)
      | (go_at_call 43; refine (itoaI_any _ _ ht.1 ht.2 (by exact tab_bel htab (by repeat (first | (with_reducible exact Below.refl _ _) | (with_reducible assumption) | (with_reducible refine bel_set ?_ (by first | (simp; done) | (simp; omega)) _) | (with_reducible refine bel_alloc ?_ _) | (with_reducible refine bel_drew ?_) | (with_reducible refine bel_drewN ?_ _) | (with_reducible refine bel_trans ?_ (by with_reducible assumption)))))).mono ?_; rintro e wv ⟨rfl, hbv⟩; obtain ⟨hcv, hfv, hsv⟩ := bcell hbv; have hzv : w.heap.size < wv.heap.size := (by have h9 := hbv.size; have h8 := hbt.size; (try simp at h9); (try simp at h8); omega)))
    go_ret
    exact ⟨ret_s ((imt_3 _ _).trans (unhide HQ).symm), (by repeat (first | (with_reducible exact Below.refl _ _) | (with_reducible assumption) | (with_reducible refine bel_set ?_ (by first | (simp; done) | (simp; omega)) _) | (with_reducible refine bel_alloc ?_ _) | (with_reducible refine bel_drew ?_) | (with_reducible refine bel_drewN ?_ _) | (with_reducible refine bel_trans ?_ (by with_reducible assumption))))⟩
end Go.Proofs.YtkadmigecojpoaaDoor
