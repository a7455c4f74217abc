/- Proved here: the law on records without others returns true at every code. -/
import Derived.Test.YtlokeogoneoanaaWoutD
import Derived.Test.YtlokeogoneoanaaWoutI
import Derived.Test.YtlokeogoneoanaaWoutS
import Derived.Test.YtlokeogoneoanaaFrItm
import Derived.Test.YtlokeogoneoanaaFrOk
namespace Go.Proofs.Ytlokeogoneoanaa
open Go.ChangeShapes Go.WideShapes Go.ChangeAt Go.RowKit
set_option linter.unusedVariables false

theorem cn_nil (y : IwR) : cnW [] y = 0 := rfl
theorem cn_cons (x : IwR) (t : List IwR) (y : IwR) : cnW (x :: t) y = cnW t y + (if x = y then 1 else 0) := by
  unfold cnW
  rw [List.countP_cons]
  by_cases h : x = y <;> simp [h]
theorem cn_out (g : IwR) : ∀ (xs : List IwR) (y : IwR), cnW (outW g xs) y = cnW xs y - (if y = g then 1 else 0)
  | [], y => by simp [outW, cn_nil]
  | x :: t, y => by
    unfold outW
    by_cases h : x = g
    · subst h
      rw [if_pos rfl, cn_cons]
      by_cases e : y = x
      · subst e; simp
      · rw [if_neg e, if_neg (fun h => e h.symm)]; omega
    · rw [if_neg h, cn_cons, cn_cons, cn_out g t]
      by_cases e : y = g
      · subst e; rw [if_neg h]; simp
      · rw [if_neg e]; omega
theorem cn_wo (gs : List IwR) : ∀ (xs : List IwR) (y : IwR), cnW (woS xs gs) y = cnW xs y - cnW gs y := by
  induction gs with
  | nil => intro xs y; simp [woS, cn_nil]
  | cons g t ih =>
    intro xs y
    show cnW (woS (outW g xs) t) y = _
    rw [ih, cn_out, cn_cons]
    by_cases e : y = g
    · subst e; simp; omega
    · rw [if_neg e, if_neg (fun h => e h.symm)]; omega
theorem nil_of_cn {xs : List IwR} (h : ∀ y, cnW xs y = 0) : xs = [] := by
  cases xs with
  | nil => rfl
  | cons x t => have := h x; rw [cn_cons, if_pos rfl] at this; omega
theorem len_out (g : IwR) : ∀ (xs : List IwR), 0 < cnW xs g → (outW g xs).length + 1 = xs.length
  | [], h => by simp [cn_nil] at h
  | x :: t, h => by
    unfold outW
    by_cases e : x = g
    · rw [if_pos e]; simp
    · rw [if_neg e]
      rw [cn_cons, if_neg e] at h
      have := len_out g t (by omega)
      simp; omega
theorem len_wo (gs : List IwR) : ∀ (xs : List IwR), (∀ y, cnW gs y ≤ cnW xs y) → (woS xs gs).length + gs.length = xs.length := by
  induction gs with
  | nil => intro xs _; simp [woS]
  | cons g t ih =>
    intro xs h
    show (woS (outW g xs) t).length + _ = _
    have h0 := h g
    rw [cn_cons, if_pos rfl] at h0
    have h1 := len_out g xs (by omega)
    have h2 := ih (outW g xs) (fun y => by
      have := h y
      rw [cn_cons] at this
      rw [cn_out]
      by_cases e : y = g
      · subst e; simp at this ⊢; omega
      · rw [if_neg e]; omega)
    simp; omega
theorem wo_self (xs : List IwR) : woS xs xs = [] := nil_of_cn (fun y => by rw [cn_wo]; omega)
theorem wo_taken (xs gs : List IwR) : (woS xs (woS xs gs)).length + (woS xs gs).length = xs.length := len_wo _ _ (fun y => by rw [cn_wo]; omega)
theorem wo_gone (xs gs : List IwR) : woS (woS xs (woS xs gs)) gs = [] := nil_of_cn (fun y => by rw [cn_wo, cn_wo, cn_wo]; omega)
theorem wo_nil (xs : List IwR) : woS xs [] = xs := rfl
theorem ok_wo {xs gs : List IwR} (h : ∀ x ∈ xs, x.ok64) : ∀ x ∈ woS xs gs, x.ok64 := fun x hx => h x (mem_woS hx)
theorem implwo_is (a b : Option Addr) (len cap len2 cap2 : Nat) (xs gs rr : List IwR) (w : World) (h : IwRs w a len xs) (h2 : IwRs w b len2 gs) (hl : len ≤ 1048576) (hl2 : len2 ≤ 1048576) (hx : ∀ x ∈ xs, x.ok64) (hg : ∀ x ∈ gs, x.ok64) (hr : Hid (woS xs gs = rr)) : Calls Try.prog 5 #[.slice a len cap, .slice b len2 cap2] w fun e w' => ∃ ar cr, e = .returned (.slice ar rr.length cr) ∧ IwRs w' ar rr.length rr ∧ Below w.heap.size w w' := by
  refine (implwo_any a b len cap len2 cap2 xs gs w h h2 hl hl2 hx hg).mono ?_
  rintro e w' ⟨v, rfl, hO, hb⟩
  rw [unhide hr] at hO
  have := woS_len xs gs
  rw [unhide hr, h.1] at this
  obtain ⟨ar, cr, rfl, H, _, _⟩ := holdIw hO (by omega)
  exact ⟨ar, cr, rfl, H, hb⟩
theorem specwo_is (g o : Nat) (b : Option Addr) (len cap len2 cap2 : Nat) (xs gs rr : List IwR) (w : World) (h : IwRs w (some ⟨g, o, none⟩) len xs) (h2 : IwRs w b len2 gs) (hl : len ≤ 1048576) (hl2 : len2 ≤ 1048576) (hr : Hid (woS xs gs = rr)) : Calls Try.prog 7 #[.slice (some ⟨g, o, none⟩) len cap, .slice b len2 cap2] w fun e w' => ∃ ar cr, e = .returned (.slice ar rr.length cr) ∧ IwRs w' ar rr.length rr ∧ Below w.heap.size w w' := by
  refine (specwo_any g o len cap b len2 cap2 xs gs w h h2 hl hl2).mono ?_
  rintro e w' ⟨v, rfl, hO, hb⟩
  rw [unhide hr] at hO
  have := woS_len xs gs
  rw [unhide hr, h.1] at this
  obtain ⟨ar, cr, rfl, H, _, _⟩ := holdIw hO (by omega)
  exact ⟨ar, cr, rfl, H, hb⟩
theorem some_slice {W : World} {B : Nat} {v : Value} {ys : List IwR} (h : OwnIw W B v ys) (hn : v ≠ .slice none 0 0) (hl : ys.length ≤ 1048576) : ∃ g cap, v = .slice (some ⟨g, 0, none⟩) ys.length cap ∧ IwRs W (some ⟨g, 0, none⟩) ys.length ys := by
  obtain ⟨a, cap, rfl, H, _, _⟩ := holdIw h hl
  obtain ⟨hlen, h | ⟨g, cap, cur, e, hB, hblk, hnc, hcm, hsz, htk⟩⟩ := h
  · exact absurd h.1 hn
  · simp at e
    obtain ⟨rfl, rfl⟩ := e
    exact ⟨_, _, rfl, H⟩

set_option linter.unusedSimpArgs false in
set_option maxRecDepth 20000 in
set_option maxHeartbeats 4000000 in
theorem lawSpcWithoutP (a : Option Addr) (len cap : Nat) (w : World) (hlc : len ≤ cap) (hm : len ≤ maxLen) (hb : BytesAt w a len) (hl : ∀ g o, a = some ⟨g, o, none⟩ → 0 < len → g < w.heap.size) (hn : a = none → cap = 0) : Calls Try.prog 3 #[.slice a len cap] w fun e w' => e = .returned (.bool true) ∧ Below w.heap.size w w' := by
  unfold maxLen at hm
  by_cases hlen : (len : Int) ≤ 1048576
  rotate_left
  · go_enter Try.func3, Try.ntmps3
    go_wp2
    go_ret
    exact ⟨rfl, Below.refl _ _⟩
  have hd := hide (drawwo_any a len cap w hlc (by omega) hb hl hn)
  clear hb hl hn
  go_enter Try.func3, Try.ntmps3
  go_wp2_with fail
  refine (unhide hd).mono ?_
  rintro e w1 ⟨u, v, xs, gs, rfl, hO, hnn, hO2, hxo, hgo, hxl, hgl, hb1⟩
  clear hd
  obtain ⟨g, cr, rfl, HX⟩ := some_slice hO hnn (by omega)
  obtain ⟨ag, cg, rfl, HG, _, _⟩ := holdIw hO2 (by omega)
  obtain ⟨rr, hrr⟩ : ∃ rr, woS xs gs = rr := ⟨_, rfl⟩
  obtain ⟨tk, htk⟩ : ∃ tk, woS xs rr = tk := ⟨_, rfl⟩
  have h1 : tk.length + rr.length = xs.length := by rw [← htk, ← hrr]; exact wo_taken xs gs
  have h2 : woS tk gs = [] := by rw [← htk, ← hrr]; exact wo_gone xs gs
  have hro : ∀ x ∈ rr, x.ok64 := by rw [← hrr]; exact ok_wo hxo
  have hto : ∀ x ∈ tk, x.ok64 := by rw [← htk]; exact ok_wo hxo
  have HRR := hide hrr
  have HTK := hide htk
  have H2 := hide h2
  have HS := hide (wo_self xs)
  have HN := hide (wo_nil xs)
  have hle : rr.length ≤ 14 := by omega
  have hle2 : tk.length ≤ 14 := by omega
  have h1I : Hid ((tk.length : Int) + (rr.length : Int) = (xs.length : Int)) := hide (by omega)
  clear hO hO2 hnn hrr htk h1 h2
  have HXO := hide hxo
  have HGO := hide hgo
  have HRO := hide hro
  have HTO := hide hto
  clear hxo hgo hro hto
  have HXh := hide HX
  have HGh := hide HG
  clear HX HG
  go_wp2_with fail
  refine (implwo_is _ _ _ _ _ _ xs gs rr _ (unhide HXh) (unhide HGh) (by omega) (by omega) (unhide HXO) (unhide HGO) HRR).mono ?_
  rintro e w2 ⟨a2, c2, rfl, H2r, hb2⟩
  have HX2 := hide ((unhide HXh).below hb2)
  have HG2 := hide ((unhide HGh).below hb2)
  have HR2 := hide H2r
  clear H2r HXh HGh
  go_wp2_with fail
  refine (specwo_is _ _ _ _ _ _ _ xs gs rr _ (unhide HX2) (unhide HG2) (by omega) (by omega) HRR).mono ?_
  rintro e w3 ⟨a3, c3, rfl, H3, hb3⟩
  have HX3 := hide ((unhide HX2).below hb3)
  have HG3 := hide ((unhide HG2).below hb3)
  have HR3 := hide ((unhide HR2).below hb3)
  have HS3 := hide H3
  clear HX2 HG2 HR2 H3
  go_wp2_with fail
  refine (fritems_any _ _ _ _ _ rr _ (unhide HR3) (unhide HS3)).mono ?_
  rintro e w4 ⟨rfl, hb4⟩
  have HX4 := hide ((unhide HX3).below hb4)
  have HG4 := hide ((unhide HG3).below hb4)
  have HR4 := hide ((unhide HR3).below hb4)
  clear HX3 HG3 HR3 HS3
  go_wp2_with fail
  refine (implwo_is _ _ _ _ _ _ xs rr tk _ (unhide HX4) (unhide HR4) (by omega) (by omega) (unhide HXO) (unhide HRO) HTK).mono ?_
  rintro e w5 ⟨a5, c5, rfl, H5, hb5⟩
  have HX5 := hide ((unhide HX4).below hb5)
  have HG5 := hide ((unhide HG4).below hb5)
  have HT5 := hide H5
  clear HX4 HG4 HR4 H5
  have hb05 : Below w.heap.size w w5 := (by repeat (first | (with_reducible exact Below.refl _ _) | (with_reducible assumption) | (with_reducible refine bel_trans ?_ (by with_reducible assumption))))
  clear hb1 hb2 hb3 hb4 hb5
  have hlen1 := unhide h1I
  go_wp2_with fail
  refine (implwo_is _ _ _ _ _ _ tk gs [] _ (unhide HT5) (unhide HG5) (by omega) (by omega) (unhide HTO) (unhide HGO) H2).mono ?_
  rintro e w6 ⟨a6, c6, rfl, H6, hb6⟩
  have HX6 := hide ((unhide HX5).below hb6)
  clear HX5 HG5 HT5 H6
  have hbE : Below w6.heap.size w6 (w6.alloc (.cells #[] 35)) := bel_one _ _
  have HX7 := hide ((unhide HX6).below hbE)
  clear HX6
  go_wp2_with fail
  refine (implwo_is _ _ _ _ 0 _ xs [] xs _ (unhide HX7) ⟨rfl, Nat.zero_le _, Or.inl rfl⟩ (by omega) (by omega) (unhide HXO) (fun x hx => by cases hx) HN).mono ?_
  rintro e w8 ⟨a8, c8, rfl, H8, hb8⟩
  have HX8 := hide ((unhide HX7).below hb8)
  have HY8 := hide H8
  clear HX7 H8
  go_wp2_with fail
  refine (fritems_any _ _ _ _ _ xs _ (unhide HY8) (unhide HX8)).mono ?_
  rintro e w9 ⟨rfl, hb9⟩
  have HX9 := hide ((unhide HX8).below hb9)
  clear HX8 HY8
  go_wp2_with fail
  refine (implwo_is _ _ _ _ _ _ xs xs [] _ (unhide HX9) (unhide HX9) (by omega) (by omega) (unhide HXO) (unhide HXO) HS).mono ?_
  rintro e w10 ⟨a10, c10, rfl, H10, hb10⟩
  clear H10
  go_wp2_with fail
  refine (frok_any _).mono ?_
  rintro e w11 ⟨rfl, hb11⟩
  go_wp2
  go_ret
  exact ⟨rfl, (by repeat (first | (with_reducible exact Below.refl _ _) | (with_reducible assumption) | (with_reducible refine bel_alloc ?_ _) | (with_reducible refine bel_trans ?_ (by with_reducible assumption))))⟩
end Go.Proofs.Ytlokeogoneoanaa
