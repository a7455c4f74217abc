/- Proved here: a log, or what is none, is drawn: items in new memory; but for the reader's place nothing turns. -/
import Derived.Test.YtikhmgkoodoeoaaDrawLogB
import Derived.Test.YtikhmgkoodoeoaaLogOwn
import Derived.Test.YtikhmgkoodoeoaaStepA
import Derived.Deep.Onto
import Derived.Deep.RegionHeld3
namespace Go.Proofs.Ytikhmgkoodoeoaa
open Go.ChangeShapes Go.WideShapes Go.ChangeAt Go.RowKit
set_option linter.unusedVariables false

theorem BdL.take {xs : List It} (h : BdL xs) (k : Nat) : BdL (xs.take k) := fun x hx => h x (List.mem_of_mem_take hx)
theorem BdL.cons {xs : List It} {q t k v n : Int} (h : BdL xs) (hb : (-2000 ≤ t ∧ t ≤ 2000) ∧ (-2000 ≤ v ∧ v ≤ 2000)) : BdL (⟨q, t, k, v, n⟩ :: xs) := fun x hx => by
  rcases List.mem_cons.1 hx with rfl | h1
  · exact hb
  · exact h x h1
theorem BdL.set {xs : List It} {j : Nat} {q t k v n : Int} (h : BdL xs) (hb : (-2000 ≤ t ∧ t ≤ 2000) ∧ (-2000 ≤ v ∧ v ≤ 2000)) : BdL (xs.set j ⟨q, t, k, v, n⟩) := fun x hx => by
  rcases List.mem_or_eq_of_mem_set hx with h1 | rfl
  · exact h x h1
  · exact hb
theorem BdL.mid {xs : List It} {j : Nat} {q t k v n : Int} (h : BdL xs) (hb : (-2000 ≤ t ∧ t ≤ 2000) ∧ (-2000 ≤ v ∧ v ≤ 2000)) : BdL (xs.take j ++ [⟨q, t, k, v, n⟩] ++ xs.drop j) := fun x hx => by
  rcases List.mem_append.1 hx with h1 | h1
  · exact (h.take j).snoc hb x h1
  · exact h x (List.mem_of_mem_drop h1)
/-- What is drawn. -/
def AnyB (R : Nat) (w : World) (a : Option Addr) (len cap p : Nat) (e : Ending) (w' : World) : Prop := ∃ (v : Value) (xs : List It), e = .returned v ∧ OwnIts w' w.heap.size v xs ∧ BdL xs ∧ xs.length ≤ 41 ∧ Kp R w w' ∧ ∃ p', p' ≤ p + 1000 ∧ Rd R w' a len cap p'
theorem Kp.up {R : Nat} {w W W' : World} (h : Kp R w W) (hR : R < w.heap.size) (hb : Below w.heap.size W W') : Kp R w W' := kp_up hR h hb
theorem grown_bel {W W' : World} {B : Nat} {row : Option Nat} (hg : W.grownBy W' row) (hB : B ≤ W.heap.size) (hr : ∀ k, row = some k → B ≤ k) : Below B W W' := (Below.refl _ _).grown hg hB hr

theorem own_slice {W : World} {B : Nat} {e : TypeId} {size n : Nat} {v : Value} {xs : List Value} (h : W.ownsRow B e size v n xs) : ∃ a c, v = .slice a n c := by
  rcases h.2 with ⟨rfl, h0⟩ | ⟨g, cap, cur, rfl, _⟩
  · exact ⟨none, 0, by rw [h0]⟩
  · exact ⟨_, _, rfl⟩
def slLen : Value → Nat
  | .slice _ n _ => n
  | _ => 0
theorem own_news_all {W : World} {B g cp : Nat} {xs : List It} (h : OwnIts W B (.slice (some ⟨g, 0, none⟩) xs.length cp) xs) : ∀ j u, (flat xs)[j]? = some u → W.cell? ((⟨g, 0, none⟩ : Addr).add j) = some u := by
  intro j u hu
  have := own_news h rfl 0 j u (by simpa using hu)
  simpa using this
theorem its_cons {W : World} {B : Nat} {v' : Value} {xs : List It} {q t k v n : Int} (h : W.ownsRow B 35 5 v' (1 + xs.length) ([.int .i64 q, .int .i64 t, .int .i64 k, .int .i64 v, .int .i64 n] ++ flat xs)) : OwnIts W B v' (⟨q, t, k, v, n⟩ :: xs) := by
  unfold OwnIts
  rw [show (⟨q, t, k, v, n⟩ :: xs : List It).length = 1 + xs.length by simp; omega]
  exact h
theorem its_mid {W : World} {B k : Nat} {v' : Value} {xs : List It} {q t kk v n : Int} (h : W.ownsRow B 35 5 v' (k + 1 + (xs.length - k)) (flat (xs.take k) ++ [.int .i64 q, .int .i64 t, .int .i64 kk, .int .i64 v, .int .i64 n] ++ flat (xs.drop k))) (hk : k ≤ xs.length) : OwnIts W B v' (xs.take k ++ [⟨q, t, kk, v, n⟩] ++ xs.drop k) := by
  unfold OwnIts
  rw [flat_app, flat_app, show (xs.take k ++ [(⟨q, t, kk, v, n⟩ : It)] ++ xs.drop k).length = k + 1 + (xs.length - k) by simp; omega]
  exact h

set_option linter.unusedSimpArgs false in
set_option maxRecDepth 20000 in
set_option maxHeartbeats 16000000 in
theorem anyB_any (R : Nat) (a : Option Addr) (len cap p : Nat) (n : Int) (w : World) (hn : 1 ≤ n) (hn2 : n ≤ 100000) (hp : p ≤ 400000) (hR : R < w.heap.size) (h : Rd R w a len cap p) : Calls Try.prog 17 #[.pointer (some ⟨R, 0, none⟩), .int .i64 n] w fun e w' => AnyB R w a len cap p e w' := by
  obtain ⟨i0, hi, hz0, hz1, hz2⟩ := info_parts Try.infoItm
  have r0 := hide h
  have hn0 : w.heap.size ≠ R := by omega
  clear h
  go_enter Try.func17, Try.ntmps17
  go_wp2_with fail
  (with_reducible refine (pick_any R a len cap p 16 _ (by omega) (by omega) ((unhide r0).kpS hR (by repeat (first | (with_reducible exact Below.refl _ _) | (with_reducible refine Below.setCell ?_ (by first | (simp; omega) | omega) _) | (with_reducible refine up_alloc ?_ (by first | omega | (simp; omega)) _) | (with_reducible refine Below.drew ?_))))).mono ?_)
  rintro e wa ⟨x, rfl, bx1, bx2, kwa, qwa⟩
  have rwa := hide (qwa (by omega))
  clear qwa
  have zwa := kwa.low.size
  have hRwa : R < wa.heap.size := (by have h9 := kwa.low.size; (try simp at h9); omega)
  have hnwa : wa.heap.size ≠ R := (by omega)
  have hcwa := (fun b o hb hn => kwa.cell (b := b) (o := o) hb hn)
  have hfwa := (fun b o hb hn => kwa.frozen (b := b) (o := o) hb hn)
  have hn2wa : wa.heap.size + 1 ≠ R := (by omega)
  clear hcwa hfwa
  obtain ⟨xn, rfl⟩ : ∃ xn : Nat, x = (xn : Int) := ⟨x.toNat, by omega⟩
  have kwa0 : Kp R w wa := (by repeat (first | (with_reducible refine kp_setN ?_ (by first | (simp; done) | (simp; omega)) (by with_reducible assumption) _) | (with_reducible assumption) | (with_reducible exact Kp.refl _ _) | (with_reducible refine kp_set ?_ _) | (with_reducible refine kp_alloc (by with_reducible assumption) ?_ _) | (with_reducible refine kp_drew ?_) | (with_reducible refine kp_drewN ?_ _) | (with_reducible refine Kp.trans ?_ (by with_reducible assumption))))
  go_wp2_with fail
  (with_reducible refine (logB_any R a len cap (p + 1) xn _ (by omega) (by omega) hRwa (unhide rwa)).mono ?_)
  rintro e wb ⟨v, xs, rfl, hO, hBd, ⟨hl1, hl2⟩, kwb, p1, hp1, qwb⟩
  have rwb := hide qwb
  clear qwb
  have hRwb : R < wb.heap.size := by have h9 := kwb.low.size; omega
  have kb : Kp R w wb := kwa0.trans kwb
  have zb := kb.low.size
  have hwab : w.heap.size ≤ wa.heap.size := by have h9 := kwa.low.size; (try simp at h9); omega
  obtain ⟨g, cp, rfl, hBg, hgl, hcp⟩ := own_form hO hl1
  have HO := hide (World.ownsRow.mono hO hwab)
  have hgR : g ≠ R := by omega
  clear hO kwb kwa kwa0 rwa
  go_wp2_with fail
  (with_reducible refine (pick_any R a len cap p1 n _ (by omega) (by omega) ((unhide rwb).kpS hRwb (by repeat (first | (with_reducible exact Below.refl _ _) | (with_reducible refine Below.setCell ?_ (by first | (simp; omega) | omega) _) | (with_reducible refine up_alloc ?_ (by first | omega | (simp; omega)) _) | (with_reducible refine Below.drew ?_))))).mono ?_)
  rintro e wc ⟨z, rfl, bz1, bz2, kwc, qwc⟩
  have rwc := hide (qwc (by omega))
  clear qwc
  have zwc := kwc.low.size
  have hRwc : R < wc.heap.size := (by have h9 := kwc.low.size; (try simp at h9); omega)
  have hnwc : wc.heap.size ≠ R := (by omega)
  have hcwc := (fun b o hb hn => kwc.cell (b := b) (o := o) hb hn)
  have hfwc := (fun b o hb hn => kwc.frozen (b := b) (o := o) hb hn)
  have hn2wc : wc.heap.size + 1 ≠ R := (by omega)
  have kc : Kp R w wc := kb.trans kwc
  have HC : Hid (OwnIts wc w.heap.size (.slice (some ⟨g, 0, none⟩) xs.length cp) xs) := hide (ownK (unhide HO) hR (by repeat (first | (with_reducible refine kp_setN ?_ (by first | (simp; done) | (simp; omega)) (by with_reducible assumption) _) | (with_reducible assumption) | (with_reducible exact Kp.refl _ _) | (with_reducible refine kp_set ?_ _) | (with_reducible refine kp_alloc (by with_reducible assumption) ?_ _) | (with_reducible refine kp_drew ?_) | (with_reducible refine kp_drewN ?_ _) | (with_reducible refine Kp.trans ?_ (by with_reducible assumption)))))
  clear hcwc hfwc HO rwb
  have zc := kwc.low.size
  by_cases hz : 0 < z
  · go_wp2
    go_ret
    exact ⟨_, _, rfl, unhide HC, hBd, by omega, kc, p1 + 1, by omega, unhide rwc⟩
  have hz' : decide (0 < z) = false := by simp; omega
  go_wp2_with fail
  (with_reducible refine (pick_any R a len cap (p1 + 1) (xs.length : Int) _ (by omega) (by omega) ((unhide rwc).kpS hRwc (by repeat (first | (with_reducible exact Below.refl _ _) | (with_reducible refine Below.setCell ?_ (by first | (simp; omega) | omega) _) | (with_reducible refine up_alloc ?_ (by first | omega | (simp; omega)) _) | (with_reducible refine Below.drew ?_))))).mono ?_)
  rintro e wd ⟨k0, rfl, bk01, bk02, kwd, qwd⟩
  have rwd := hide (qwd (by omega))
  clear qwd
  have zwd := kwd.low.size
  have hRwd : R < wd.heap.size := (by have h9 := kwd.low.size; (try simp at h9); omega)
  have hnwd : wd.heap.size ≠ R := (by omega)
  have hcwd := (fun b o hb hn => kwd.cell (b := b) (o := o) hb hn)
  have hfwd := (fun b o hb hn => kwd.frozen (b := b) (o := o) hb hn)
  have hn2wd : wd.heap.size + 1 ≠ R := (by omega)
  obtain ⟨k, rfl⟩ : ∃ k : Nat, k0 = (k : Int) := ⟨k0.toNat, by omega⟩
  have kd : Kp R w wd := kc.trans kwd
  have HD : Hid (OwnIts wd w.heap.size (.slice (some ⟨g, 0, none⟩) xs.length cp) xs) := hide (ownK (unhide HC) hR (by repeat (first | (with_reducible refine kp_setN ?_ (by first | (simp; done) | (simp; omega)) (by with_reducible assumption) _) | (with_reducible assumption) | (with_reducible exact Kp.refl _ _) | (with_reducible refine kp_set ?_ _) | (with_reducible refine kp_alloc (by with_reducible assumption) ?_ _) | (with_reducible refine kp_drew ?_) | (with_reducible refine kp_drewN ?_ _) | (with_reducible refine Kp.trans ?_ (by with_reducible assumption)))))
  clear hcwd hfwd HC rwc
  go_wp2_with fail
  (with_reducible refine (pick_any R a len cap (p1 + 1 + 1) 5 _ (by omega) (by omega) ((unhide rwd).kpS hRwd (by repeat (first | (with_reducible exact Below.refl _ _) | (with_reducible refine Below.setCell ?_ (by first | (simp; omega) | omega) _) | (with_reducible refine up_alloc ?_ (by first | omega | (simp; omega)) _) | (with_reducible refine Below.drew ?_))))).mono ?_)
  rintro e we ⟨y, rfl, by1, by2, kwe, qwe⟩
  have rwe := hide (qwe (by omega))
  clear qwe
  have zwe := kwe.low.size
  have hRwe : R < we.heap.size := (by have h9 := kwe.low.size; (try simp at h9); omega)
  have hnwe : we.heap.size ≠ R := (by omega)
  have hcwe := (fun b o hb hn => kwe.cell (b := b) (o := o) hb hn)
  have hfwe := (fun b o hb hn => kwe.frozen (b := b) (o := o) hb hn)
  have hn2we : we.heap.size + 1 ≠ R := (by omega)
  have ke : Kp R w we := kd.trans kwe
  have HE : Hid (OwnIts we w.heap.size (.slice (some ⟨g, 0, none⟩) xs.length cp) xs) := hide (ownK (unhide HD) hR (by repeat (first | (with_reducible refine kp_setN ?_ (by first | (simp; done) | (simp; omega)) (by with_reducible assumption) _) | (with_reducible assumption) | (with_reducible exact Kp.refl _ _) | (with_reducible refine kp_set ?_ _) | (with_reducible refine kp_alloc (by with_reducible assumption) ?_ _) | (with_reducible refine kp_drew ?_) | (with_reducible refine kp_drewN ?_ _) | (with_reducible refine Kp.trans ?_ (by with_reducible assumption)))))
  clear hcwe hfwe HD rwd
  have hge : Hid (∀ q, ((.slice (some ⟨g, 0, none⟩) xs.length cp) : Value).ownBlock = some q → w.heap.size ≤ q) := hide (own_ge (unhide HE))
  have hyy : y = 0 ∨ y = 1 ∨ y = 2 ∨ y = 3 ∨ y = 4 := by omega
  rcases hyy with rfl | rfl | rfl | rfl | rfl
  · go_wp2_with fail
    (with_reducible refine (itemB_any R a len cap (p1 + 1 + 1 + 1) 2 _ (by omega) (by omega) (by omega) hRwe (unhide rwe)).mono ?_)
    rintro e wf ⟨q1, t1, k1, v1, n1, rfl, hbi, kwf, pf, hpf, qwf⟩
    have rwf := hide qwf
    clear qwf
    have kf : Kp R w wf := ke.trans kwf
    have HF : OwnIts wf w.heap.size (.slice (some ⟨g, 0, none⟩) xs.length cp) xs := ownK (unhide HE) hR kwf
    obtain ⟨⟨u0, d0⟩, ⟨u1, d1⟩, ⟨u2, d2⟩, ⟨u3, d3⟩, ⟨u4, d4⟩⟩ := own_cells HF rfl (k := k) (by omega)
    have f0 := own_frozen HF rfl (k * 5)
    have f1 := own_frozen HF rfl (k * 5 + 1)
    have f2 := own_frozen HF rfl (k * 5 + 2)
    have f3 := own_frozen HF rfl (k * 5 + 3)
    have f4 := own_frozen HF rfl (k * 5 + 4)
    have HP := hide (own_put HF rfl k ⟨q1, t1, k1, v1, n1⟩)
    have hlk : k < xs.length := by omega
    have zf := kf.low.size
    clear HF
    go_wp2
    go_ret
    refine ⟨_, _, rfl, unhide HP, hBd.set hbi, by simp; omega, kf.up hR ?_, pf, by omega, (unhide rwf).up ?_⟩
    · exact (((((Below.refl _ _).setCell (by simp; omega) _).setCell (by simp; omega) _).setCell (by simp; omega) _).setCell (by simp; omega) _).setCell (by simp; omega) _
    · exact (((((Below.refl _ _).setCell (by simp; omega) _).setCell (by simp; omega) _).setCell (by simp; omega) _).setCell (by simp; omega) _).setCell (by simp; omega) _
  · have HT := hide (own_take (unhide HE) (xs.length - 1) (by omega))
    go_wp2
    go_ret
    exact ⟨_, _, rfl, unhide HT, hBd.take _, by simp; omega, ke, p1 + 1 + 1 + 1, by omega, unhide rwe⟩
  · go_wp2_with fail
    (with_reducible refine (itemB_any R a len cap (p1 + 1 + 1 + 1) 3 _ (by omega) (by omega) (by omega) hRwe (unhide rwe)).mono ?_)
    rintro e wf ⟨q1, t1, k1, v1, n1, rfl, hbi, kwf, pf, hpf, qwf⟩
    have rwf := hide qwf
    clear qwf
    have kf : Kp R w wf := ke.trans kwf
    have HF := hide (ownK (unhide HE) hR kwf)
    have zf := kf.low.size
    go_wp2_with (at_builtin; go_loud (refine wpList_append_own _ rfl _ _ 23 rfl w.heap.size 35 i0 _ 5 40 Try.underlying23 hi hz0 hz1 hz2 rfl (by decide) (.slice (some ⟨g, 0, none⟩) xs.length cp) _ _ rfl (World.ownsRow.alloc (unhide HF) _) ⟨wf.heap.size, 0, none⟩ 1 1 [.int .i64 q1, .int .i64 t1, .int .i64 k1, .int .i64 v1, .int .i64 n1] rfl rfl (cells_new5g _ (by simp) _ _ _ _ _ _) (by simp [Value.oneCell']) (by unfold maxLen; omega) (by omega) (by simp; omega) ?_); intro v' w5 hown' hgrow _)
    go_ret
    refine ⟨_, _, rfl, its_snoc hown', hBd.snoc hbi, by simp; omega, (kf.up hR (up_alloc (Below.refl _ _) (by omega) _)).up hR (grown_bel hgrow (by simp; omega) (unhide hge)), pf, by omega, ((unhide rwf).up (up_alloc (Below.refl _ _) (by omega) _)).up ((grown_bel hgrow (by simp; omega) (unhide hge)).mono (by omega))⟩
  · have hwe : w.heap.size ≤ we.heap.size := by have h9 := ke.low.size; have h8 := kwe.low.size; have h7 := kwd.low.size; have h6 := kwc.low.size; omega
    have hkc : k ≤ cp := by omega
    have hkl : k ≤ xs.length := by omega
    have hck : ¬ cp = k := by omega
    have hgw : g < we.heap.size := by have h8 := kwe.low.size; have h7 := kwd.low.size; have h6 := kwc.low.size; omega
    have HE1 := hide (World.ownsRow.drew (World.ownsRow.alloc (unhide HE) (.cells #[] 35)))
    go_wp2_with fail
    refine wp_region_held_drew (S := (fun W => R < W.heap.size)) (by kernel_rfl) ?_ (fun hHeld => ?_)
    · (try dsimp only); first | omega | (simp; omega)
    refine wpAnyH_take (i := 1) (v := ?_) (by simp only [List.getElem?_toArray, List.getElem?_cons_zero, List.getElem?_cons_succ]; rfl) (by kernel_rfl) (by kernel_rfl) (by kernel_rfl) (by intro _ _ _ h; exact h) (Or.inl ⟨by rfl, ?_⟩) (by assumption) ?_
    rotate_left
    · (intro w9 hSw; (try dsimp only at hSw); go_simp <;> with_reducible rfl)
    try simp only [Act.put, List.setIfInBounds_toArray, List.set_cons_zero, List.set_cons_succ]
    refine wpAnyH_take (i := 2) (v := ?_) (by simp only [List.getElem?_toArray, List.getElem?_cons_zero, List.getElem?_cons_succ]; rfl) (by kernel_rfl) (by kernel_rfl) (by kernel_rfl) (by intro _ _ _ h; exact h) (Or.inl ⟨by rfl, ?_⟩) (by assumption) ?_
    rotate_left
    · (intro w9 hSw; (try dsimp only at hSw); go_simp <;> with_reducible rfl)
    try simp only [Act.put, List.setIfInBounds_toArray, List.set_cons_zero, List.set_cons_succ]
    refine wpAnyH_take (i := 3) (v := ?_) (by simp only [List.getElem?_toArray, List.getElem?_cons_zero, List.getElem?_cons_succ]; rfl) (by kernel_rfl) (by kernel_rfl) (by kernel_rfl) (by intro _ _ _ h; exact h) (Or.inl ⟨by rfl, ?_⟩) (by assumption) ?_
    rotate_left
    · (intro w9 hSw; (try dsimp only at hSw); go_simp <;> with_reducible rfl)
    try simp only [Act.put, List.setIfInBounds_toArray, List.set_cons_zero, List.set_cons_succ]
    refine wpAnyH_take (i := 5) (v := ?_) (by simp only [List.getElem?_toArray, List.getElem?_cons_zero, List.getElem?_cons_succ]; rfl) (by kernel_rfl) (by kernel_rfl) (by kernel_rfl) (by intro _ _ _ h; exact h) (Or.inl ⟨by rfl, ?_⟩) (by assumption) ?_
    rotate_left
    · (intro w9 hSw; (try dsimp only at hSw); go_simp <;> with_reducible rfl)
    try simp only [Act.put, List.setIfInBounds_toArray, List.set_cons_zero, List.set_cons_succ]
    refine wpAnyH_take (i := 11) (v := ?_) (by simp only [List.getElem?_toArray, List.getElem?_cons_zero, List.getElem?_cons_succ]; rfl) (by kernel_rfl) (by kernel_rfl) (by kernel_rfl) (by intro _ _ _ h; exact h) (Or.inl ⟨by rfl, ?_⟩) (by assumption) ?_
    rotate_left
    · (intro w9 hSw; (try dsimp only at hSw); go_simp <;> with_reducible rfl)
    try simp only [Act.put, List.setIfInBounds_toArray, List.set_cons_zero, List.set_cons_succ]
    refine wpAnyH_take (i := 12) (v := ?_) (by simp only [List.getElem?_toArray, List.getElem?_cons_zero, List.getElem?_cons_succ]; rfl) (by kernel_rfl) (by kernel_rfl) (by kernel_rfl) (by intro _ _ _ h; exact h) (Or.inl ⟨by rfl, ?_⟩) (by assumption) ?_
    rotate_left
    · (intro w9 hSw; (try dsimp only at hSw); go_simp <;> with_reducible rfl)
    try simp only [Act.put, List.setIfInBounds_toArray, List.set_cons_zero, List.set_cons_succ]
    refine wpAnyH_take (i := 13) (v := ?_) (by simp only [List.getElem?_toArray, List.getElem?_cons_zero, List.getElem?_cons_succ]; rfl) (by kernel_rfl) (by kernel_rfl) (by kernel_rfl) (by intro _ _ _ h; exact h) (Or.inl ⟨by rfl, ?_⟩) (by assumption) ?_
    rotate_left
    · (intro w9 hSw; (try dsimp only at hSw); go_simp <;> with_reducible rfl)
    try simp only [Act.put, List.setIfInBounds_toArray, List.set_cons_zero, List.set_cons_succ]
    refine wpAnyH_ready (rs := [0]) (by kernel_rfl) (by simp) ?_
    refine AllReadyH.cons (by simp only [List.getElem?_toArray, List.getElem?_cons_zero, List.getElem?_cons_succ]; rfl) (fun K hK => ?_) AllReadyH.nil
    go_simp
    refine hK.out _ _ ?_ (fun hHeld2 => ?_)
    · (try dsimp only); (simp; omega)
    clear hK K hHeld
    have hHeld := hHeld2
    clear hHeld2
    try simp only [Act.put, List.setIfInBounds_toArray, List.set_cons_zero, List.set_cons_succ]
    refine wpAnyH_ready (rs := [4]) (by kernel_rfl) (by simp) ?_
    refine AllReadyH.cons (by simp only [List.getElem?_toArray, List.getElem?_cons_zero, List.getElem?_cons_succ]; rfl) (fun K hK => ?_) AllReadyH.nil
    refine step_append_at rfl _ _ 23 rfl w.heap.size 35 i0 _ 5 40 Try.underlying23 hi hz0 hz1 hz2 rfl (by decide) (.slice (some ⟨we.heap.size, 0, none⟩) 0 0) 0 [] rfl ?own ⟨g, 0, none⟩ k cp (flat (xs.take k)) rfl (by rw [flat_len, List.length_take, Nat.min_eq_left hkl]) (own_news_take (unhide HE1) rfl k) (flat_one _) (by unfold maxLen; omega) (by omega) (by simp; omega) ?_
    case own => exact World.ownsRow.drew (World.ownsRow_lit (base := w.heap.size) (size := 5) we #[] 0 (by omega) (Nat.zero_le _) rfl)
    intro v1 w1 hown1 hgrow1 hblk1
    rw [Nat.zero_add, List.nil_append] at hown1
    obtain ⟨a1, c1, rfl⟩ := own_slice hown1
    have hb1 : Below w.heap.size (we.alloc (.cells #[] 35)) w1 := ⟨hgrow1.os, hgrow1.tape, hgrow1.output, hgrow1.size, fun b hb => hgrow1.block b (by simp; omega) (by simp [Value.ownBlock]; omega)⟩
    have z1 := hgrow1.size
    simp at z1
    have HE2 := hide (World.ownsRow.kept (unhide HE1) hgrow1 (by right; simp [Value.ownBlock]; omega))
    have hbe : Below w.heap.size we w1 := (up_alloc (Below.refl _ _) (by omega) _).trans hb1
    have K1 : Kp R w w1 := ke.up hR hbe
    have r1 : Hid (Rd R w1 a len cap (p1 + 1 + 1 + 1)) := hide ((unhide rwe).up (hbe.mono (by omega)))
    have hne1 : ∀ q, (Value.slice a1 k c1).ownBlock = some q → we.heap.size ≤ q := fun q hq => by rcases hblk1 with h9 | h9 <;> rw [hq] at h9 <;> simp [Value.ownBlock] at h9 <;> omega
    refine hK.out _ _ ?_ (fun hHeld2 => ?_)
    · (try dsimp only); omega
    clear hK K hHeld
    have hHeld := hHeld2
    clear hHeld2
    try simp only [Act.put, List.setIfInBounds_toArray, List.set_cons_zero, List.set_cons_succ]
    refine wpAnyH_ready (rs := [6]) (by kernel_rfl) (by simp) ?_
    refine AllReadyH.cons (by simp only [List.getElem?_toArray, List.getElem?_cons_zero, List.getElem?_cons_succ]; rfl) (fun K hK => ?_) AllReadyH.nil
    go_simp
    (go_at_call 18; (with_reducible refine (pick_any R a len cap (p1 + 1 + 1 + 1) 60 _ (by omega) (by omega) (unhide r1)).mono ?_); rintro e w2 ⟨u, rfl, bu1, bu2, kw2, q2⟩; have r2 := hide (q2 (by omega)); clear q2; have hR2 : R < w2.heap.size := (by have h9 := kw2.low.size; omega))
    (try go_wp2_with fail)
    refine hK.out _ _ ?_ (fun hHeld2 => ?_)
    · (try dsimp only); omega
    clear hK K hHeld
    have hHeld := hHeld2
    clear hHeld2
    try simp only [Act.put, List.setIfInBounds_toArray, List.set_cons_zero, List.set_cons_succ]
    have hK2 : Kp R w w2 := K1.trans kw2
    have hOw2 := hide (ownK hown1 hR kw2)
    have HE3 := hide (ownK (unhide HE2) hR kw2)
    have z2 := kw2.low.size
    have hwu : IntKind.i64.wrap (1 + u) = 1 + u := IntWalk.i64_in _ (by omega)
    refine wpAnyH_take (i := 7) (v := ?_) (by simp only [List.getElem?_toArray, List.getElem?_cons_zero, List.getElem?_cons_succ]; rfl) (by kernel_rfl) (by kernel_rfl) (by kernel_rfl) (by intro _ _ _ h; exact h) (Or.inl ⟨by rfl, ?_⟩) (by assumption) ?_
    rotate_left
    · (intro w9 hSw; (try dsimp only at hSw); go_simp <;> with_reducible rfl)
    try simp only [Act.put, List.setIfInBounds_toArray, List.set_cons_zero, List.set_cons_succ]
    refine wpAnyH_take (i := 8) (v := ?_) (by simp only [List.getElem?_toArray, List.getElem?_cons_zero, List.getElem?_cons_succ]; rfl) (by kernel_rfl) (by kernel_rfl) (by kernel_rfl) (by intro _ _ _ h; exact h) (Or.inl ⟨by rfl, ?_⟩) (by assumption) ?_
    rotate_left
    · (intro w9 hSw; (try dsimp only at hSw); go_simp <;> with_reducible rfl)
    try simp only [Act.put, List.setIfInBounds_toArray, List.set_cons_zero, List.set_cons_succ]
    refine wpAnyH_ready (rs := [9]) (by kernel_rfl) (by simp) ?_
    refine AllReadyH.cons (by simp only [List.getElem?_toArray, List.getElem?_cons_zero, List.getElem?_cons_succ]; rfl) (fun K hK => ?_) AllReadyH.nil
    go_simp
    refine hK.out _ _ ?_ (fun hHeld2 => ?_)
    · (try dsimp only); (simp; omega)
    clear hK K hHeld
    have hHeld := hHeld2
    clear hHeld2
    try simp only [Act.put, List.setIfInBounds_toArray, List.set_cons_zero, List.set_cons_succ]
    refine wpAnyH_ready (rs := [10]) (by kernel_rfl) (by simp) ?_
    refine AllReadyH.cons (by simp only [List.getElem?_toArray, List.getElem?_cons_zero, List.getElem?_cons_succ]; rfl) (fun K hK => ?_) AllReadyH.nil
    refine step_append_at rfl _ _ 23 rfl w.heap.size 35 i0 _ 5 40 Try.underlying23 hi hz0 hz1 hz2 rfl (by decide) (.slice a1 k c1) k (flat (xs.take k)) rfl (World.ownsRow.alloc (unhide hOw2) _) ⟨w2.heap.size, 0, none⟩ 1 1 [.int .i64 2, .int .i64 (1 + u), .int .i64 0, .int .i64 0, .int .i64 0] rfl rfl (cells_new5g _ (by simp) _ _ _ _ _ _) (by simp [Value.oneCell']) (by unfold maxLen; omega) (by omega) (by simp; omega) ?_
    intro v2 w3 hown2 hgrow2 hblk2
    obtain ⟨a2, c2, rfl⟩ := own_slice hown2
    have hb2 : Below w.heap.size (w2.alloc (.cells #[.int .i64 2, .int .i64 (1 + u), .int .i64 0, .int .i64 0, .int .i64 0] 35)) w3 := grown_bel hgrow2 (by simp; omega) (fun q hq => by have h9 := hne1 q hq; omega)
    have z3 := hgrow2.size
    simp at z3
    have HE4 := hide (World.ownsRow.kept (World.ownsRow.alloc (unhide HE3) _) hgrow2 (by right; intro h9; have h8 := hne1 g h9.symm; omega))
    have hb23 : Below w.heap.size w2 w3 := (up_alloc (Below.refl _ _) (by omega) _).trans hb2
    have K3 : Kp R w w3 := hK2.up hR hb23
    have r3 : Hid (Rd R w3 a len cap (p1 + 1 + 1 + 1 + 1)) := hide ((unhide r2).up (hb23.mono (by omega)))
    have hne2 : ∀ q, (Value.slice a2 (k + 1) c2).ownBlock = some q → we.heap.size ≤ q := fun q hq => by rcases hblk2 with h9 | h9 <;> rw [hq] at h9; exact hne1 q h9.symm; simp at h9; omega
    refine hK.out _ _ ?_ (fun hHeld2 => ?_)
    · (try dsimp only); omega
    clear hK K hHeld
    have hHeld := hHeld2
    clear hHeld2
    try simp only [Act.put, List.setIfInBounds_toArray, List.set_cons_zero, List.set_cons_succ]
    refine wpAnyH_ready (rs := [14]) (by kernel_rfl) (by simp) ?_
    refine AllReadyH.cons (by simp only [List.getElem?_toArray, List.getElem?_cons_zero, List.getElem?_cons_succ]; rfl) (fun K hK => ?_) AllReadyH.nil
    refine step_append_at rfl _ _ 23 rfl w.heap.size 35 i0 _ 5 40 Try.underlying23 hi hz0 hz1 hz2 rfl (by decide) (.slice a2 (k + 1) c2) (k + 1) (flat (xs.take k) ++ [.int .i64 2, .int .i64 (1 + u), .int .i64 0, .int .i64 0, .int .i64 0]) rfl hown2 ⟨g, k * 5, none⟩ (xs.length - k) (cp - k) (flat (xs.drop k)) rfl (by rw [flat_len, List.length_drop]) (own_news (unhide HE4) rfl k) (flat_one _) (by unfold maxLen; omega) (by omega) (by omega) ?_
    intro v3 w4 hown3 hgrow3 hblk3
    have hb3 : Below w.heap.size w3 w4 := grown_bel hgrow3 (by omega) (fun q hq => by have h9 := hne2 q hq; omega)
    have z4 := hgrow3.size
    have K4 : Kp R w w4 := K3.up hR hb3
    have r4 : Rd R w4 a len cap (p1 + 1 + 1 + 1 + 1) := (unhide r3).up (hb3.mono (by omega))
    have hfin : OwnIts w4 w.heap.size v3 (xs.take k ++ [⟨2, 1 + u, 0, 0, 0⟩] ++ xs.drop k) := its_mid hown3 (by omega)
    refine hK.out _ _ ?_ (fun hHeld2 => ?_)
    · (try dsimp only); omega
    clear hK K hHeld
    have hHeld := hHeld2
    clear hHeld2
    try simp only [Act.put, List.setIfInBounds_toArray, List.set_cons_zero, List.set_cons_succ]
    refine wpAnyH_take (i := 15) (v := ?_) (by simp only [List.getElem?_toArray, List.getElem?_cons_zero, List.getElem?_cons_succ]; rfl) (by kernel_rfl) (by kernel_rfl) (by kernel_rfl) (by intro _ _ _ h; exact h) (Or.inl ⟨by rfl, ?_⟩) (by assumption) ?_
    rotate_left
    · (intro w9 hSw; (try dsimp only at hSw); go_simp <;> with_reducible rfl)
    try simp only [Act.put, List.setIfInBounds_toArray, List.set_cons_zero, List.set_cons_succ]
    refine wpAnyH_done (by kernel_rfl) ?_ _
    go_wp2
    go_ret
    exact ⟨_, _, rfl, hfin, hBd.mid (by refine ⟨⟨?_, ?_⟩, ⟨?_, ?_⟩⟩ <;> omega), by simp; omega, K4, p1 + 1 + 1 + 1 + 1, by omega, r4⟩
  · go_wp2
    go_loopw [5] (fun v' wr => ∃ (ys : List It) (p' : Nat), BdL ys ∧ OwnIts wr w.heap.size v' ys ∧ (1 ≤ ys.length ∧ ys.length ≤ 41) ∧ p' + 4 * (41 - ys.length) ≤ p + 900 ∧ Hid (Rd R wr a len cap p') ∧ Kp R w wr) (fun v' _ => 41 - slLen v')
    case atStart => exact ⟨xs, p1 + 1 + 1 + 1, hBd, unhide HE, ⟨by omega, by omega⟩, by omega, rwe, ke⟩
    case round =>
      obtain ⟨ys, p', hBy, hOy, ⟨hy1, hy2⟩, hpp, rwr, kwr⟩ := hrel
      obtain ⟨g1, c1, rfl, hB1, hg1, hc1⟩ := own_form hOy hy1
      have HY := hide hOy
      have zwr := kwr.low.size
      have hwr : w.heap.size ≤ wr.heap.size := by omega
      clear hOy
      by_cases hle : (ys.length : Int) ≤ 40
      · go_wp2_with fail
        (with_reducible refine (rec_any R a len cap p' _ (by omega) (by omega) (unhide rwr)).mono ?_)
        rintro e wf ⟨t1, k1, v1, rfl, bt, bk, bv, kwf, qwf⟩
        have rwf := hide qwf
        clear qwf
        have zf := kwf.low.size
        have HF := hide (ownK (unhide HY) hR kwf)
        have HF1 := hide (World.ownsRow.alloc (unhide HF) (.cells #[.int .i64 1, .int .i64 t1, .int .i64 k1, .int .i64 v1, .int .i64 0] 35))
        go_wp2_with (at_builtin; go_loud (refine wpList_append_own _ rfl _ _ 23 rfl w.heap.size 35 i0 _ 5 40 Try.underlying23 hi hz0 hz1 hz2 rfl (by decide) (.slice (some ⟨wf.heap.size, 0, none⟩) 1 1) 1 [.int .i64 1, .int .i64 t1, .int .i64 k1, .int .i64 v1, .int .i64 0] rfl (World.ownsRow_lit (base := w.heap.size) (size := 5) wf #[.int .i64 1, .int .i64 t1, .int .i64 k1, .int .i64 v1, .int .i64 0] 1 (by omega) (by unfold maxLen; omega) rfl) ⟨g1, 0, none⟩ ys.length c1 (flat ys) rfl (by rw [flat_len]) (own_news_all (unhide HF1)) (flat_one _) (by unfold maxLen; omega) (by omega) (by simp; omega) ?_); intro v' w5 hown' hgrow _)
        have hO5 : OwnIts w5 w.heap.size v' (⟨1, t1, k1, v1, 0⟩ :: ys) := its_cons hown'
        have hb5 : Below w.heap.size (wf.alloc (.cells #[.int .i64 1, .int .i64 t1, .int .i64 k1, .int .i64 v1, .int .i64 0] 35)) w5 := grown_bel hgrow (by simp; omega) (fun q hq => by simp [Value.ownBlock] at hq; omega)
        have hbf : Below w.heap.size wf w5 := (up_alloc (Below.refl _ _) (by omega) _).trans hb5
        have kf : Kp R w w5 := (kwr.trans kwf).up hR hbf
        obtain ⟨g5, c5, rfl, _⟩ := own_form hO5 (by simp)
        go_roundw
        case rel => exact ⟨_, p' + 4, hBy.cons (by refine ⟨⟨?_, ?_⟩, ⟨?_, ?_⟩⟩ <;> omega), hO5, ⟨by simp, by simp; omega⟩, by simp; omega, hide ((unhide rwf).up (hbf.mono (by omega))), kf⟩
        case measure => simp [slLen]; omega
      · go_wp2
        go_ret
        exact ⟨_, _, rfl, unhide HY, hBy, by omega, kwr, p', by omega, unhide rwr⟩
end Go.Proofs.Ytikhmgkoodoeoaa
