/- Proved here: the law on LogPunctual returns true at every code. -/
import Derived.Test.YtikhmgkoodoeoaaPunDraw
import Derived.Test.YtikhmgkoodoeoaaPunImpl
import Derived.Test.YtikhmgkoodoeoaaFrOk
namespace Go.Proofs.Ytikhmgkoodoeoaa
open Go.ChangeShapes Go.WideShapes Go.ChangeAt Go.RowKit
set_option linter.unusedVariables false

theorem runP_more {late : Int} (h0 : 0 ≤ late) (h1 : late < 1000) : ∀ (xs : List It) (m : Int), 0 ≤ m → m ≤ 9223372036854775807 → TOk xs → (runP late xs m).isSome = true → (runP (late + 1) xs m).isSome = true := by
  intro xs
  induction xs with
  | nil => intro m _ _ _ _; rfl
  | cons x r ih =>
    intro m hm0 hm1 hT h
    have hx := hT x (by simp)
    have e1 : wrap64 (m - late) = m - late := by unfold wrap64; omega
    have e2 : wrap64 (m - (late + 1)) = m - (late + 1) := by unfold wrap64; omega
    have hbh : 0 ≤ behindI x.q x.t m ∧ behindI x.q x.t m ≤ 9223372036854775807 := by
      unfold behindI hiI; split <;> (try split) <;> omega
    by_cases hc : (x.q == 1 && decide (x.t < wrap64 (m - late))) = true
    · have : stepP late x m = none := by unfold stepP; rw [if_pos hc]
      simp only [runP, this] at h
      exact absurd h (by simp)
    · have hs : stepP late x m = some (behindI x.q x.t m) := by unfold stepP; rw [if_neg hc]
      have hs2 : stepP (late + 1) x m = some (behindI x.q x.t m) := by
        unfold stepP
        rw [if_neg]
        intro hc2
        apply hc
        simp only [Bool.and_eq_true, decide_eq_true_eq] at hc2 ⊢
        refine ⟨hc2.1, ?_⟩
        have := hc2.2
        rw [e2] at this
        rw [e1]
        omega
      have hr : runP late (x :: r) m = runP late r (behindI x.q x.t m) := by show (stepP late x m).bind _ = _; rw [hs]; rfl
      have hr2 : runP (late + 1) (x :: r) m = runP (late + 1) r (behindI x.q x.t m) := by show (stepP (late + 1) x m).bind _ = _; rw [hs2]; rfl
      rw [hr] at h
      rw [hr2]
      exact ih _ hbh.1 hbh.2 (fun y hy => hT y (by simp [hy])) h
theorem pun_more {late : Int} {xs : List It} (hT : TOk xs) (h : punB late xs = true) (hn : late ≠ 1000) : punB (late + 1) xs = true := by
  simp only [punB, Bool.and_eq_true] at h ⊢
  have hi := inB_iff.1 h.1
  exact ⟨inB_iff.2 ⟨by omega, by omega⟩, runP_more hi.1 (by omega) xs 0 (by omega) (by omega) hT h.2⟩
theorem pun_take {late : Int} {xs : List It} (k : Nat) (h : punB late xs = true) : punB late (xs.take k) = true := by
  simp only [punB, Bool.and_eq_true] at h ⊢
  refine ⟨h.1, ?_⟩
  cases hc : runP late (xs.take k) 0 with
  | some m => rfl
  | none =>
    have := runP_none (List.take_prefix k xs) hc
    rw [this] at h
    exact absurd h.2 (by simp)
theorem pun_nil : punB 0 [] = true := by decide
theorem its_nil (W : World) (a : Option Addr) : Its W a 0 [] := ⟨rfl, Nat.zero_le _, Or.inl rfl⟩
theorem its_take {W : World} {a : Option Addr} {xs : List It} (h : Its W a xs.length xs) {k : Nat} (hk : k ≤ xs.length) : Its W a k (xs.take k) := by
  obtain ⟨_, hm, h3⟩ := h
  refine ⟨by simp; omega, by omega, ?_⟩
  rcases h3 with h3 | ⟨g, o, ha, hr⟩
  · exact Or.inl (by omega)
  · refine Or.inr ⟨g, o, ha, fun i x hx => hr i x ?_⟩
    rw [List.getElem?_take] at hx
    split at hx
    · exact hx
    · cases hx

set_option maxRecDepth 20000 in
set_option maxHeartbeats 4000000 in
theorem lawLogPun (a : Option Addr) (len cap : Nat) (w : World) (hlc : len ≤ cap) (hmx : len ≤ maxLen) (hb : BytesAt w a len) (hl : ∀ g o, a = some ⟨g, o, none⟩ → 0 < len → g < w.heap.size) (hn : a = none → cap = 0) : Calls Try.prog 3 #[.slice a len cap] w fun e w' => e = .returned (.bool true) ∧ Below w.heap.size w w' := by
  unfold maxLen at hmx
  by_cases hlen : (len : Int) ≤ 1048576
  rotate_left
  · go_enter Try.func3, Try.ntmps3
    go_wp2
    go_ret
    exact ⟨rfl, Below.refl _ _⟩
  have hd := hide (drawpun_any a len cap w hlc (by omega) hb hl hn)
  clear hb hl hn
  go_enter Try.func3, Try.ntmps3
  go_wp2_with fail
  refine (unhide hd).mono ?_
  rintro e w1 ⟨a1, cap1, xs, late, rfl, hI, hcp, hxl, hT, ⟨hl1, hl2⟩, hb1⟩
  clear hd
  go_wp2_with fail
  refine (implpun_any _ _ _ late xs _ hI).mono ?_
  rintro e w2 ⟨rfl, hb2⟩
  replace hI := hI.below hb2
  go_wp2_with fail
  refine (specpun_any _ _ _ late xs _ hI).mono ?_
  rintro e w3 ⟨rfl, hw⟩
  obtain rfl := hw.symm
  clear hw
  have hb0 : Below w.heap.size w w2 := (by repeat (first | (with_reducible exact Below.refl _ _) | (with_reducible assumption) | (with_reducible refine bel_set ?_ (by first | (simp; done) | (simp; omega)) _) | (with_reducible refine bel_alloc ?_ _) | (with_reducible refine bel_drew ?_) | (with_reducible refine bel_drewN ?_ _) | (with_reducible refine bel_trans ?_ (by with_reducible assumption))))
  obtain ⟨i, him, hil⟩ : ∃ i : Nat, (len : Int) % ((xs.length : Int) + 1) = (i : Int) ∧ i ≤ xs.length := ⟨len % (xs.length + 1), by simp, by have := Nat.mod_lt len (y := xs.length + 1) (by omega); omega⟩
  have hic : i ≤ cap1 := by omega
  have HT : Hid (punB late xs = true → punB late (xs.take i) = true) := hide (pun_take i)
  have hT' := its_take hI hil
  cases hp : punB late xs
  · clear HT
    have HT := hide (rfl : (1 : Nat) = 1)
    have HM := hide (rfl : (1 : Nat) = 1)
    go_wp2_with (first
      | (go_at_call 6; (with_reducible refine (implpun_any _ _ _ (late + 1) xs _ (hI.below (by repeat (first | (with_reducible exact Below.refl _ _) | (with_reducible assumption) | (with_reducible refine bel_set ?_ (by first | (simp; done) | (simp; omega)) _) | (with_reducible refine bel_alloc ?_ _) | (with_reducible refine bel_drew ?_) | (with_reducible refine bel_drewN ?_ _) | (with_reducible refine bel_trans ?_ (by with_reducible assumption)))))).mono ?_); rw [unhide HM]; rintro e w7 ⟨rfl, hb7⟩)
      | (go_at_call 6; (with_reducible refine (implpun_any _ _ _ _ (xs.take i) _ (hT.below (by repeat (first | (with_reducible exact Below.refl _ _) | (with_reducible assumption) | (with_reducible refine bel_set ?_ (by first | (simp; done) | (simp; omega)) _) | (with_reducible refine bel_alloc ?_ _) | (with_reducible refine bel_drew ?_) | (with_reducible refine bel_drewN ?_ _) | (with_reducible refine bel_trans ?_ (by with_reducible assumption)))))).mono ?_); rw [unhide HT]; rintro e w8 ⟨rfl, hb8⟩)
      | (go_at_call 6; (with_reducible refine (implpun_any _ 0 _ 0 [] _ (its_nil _ _)).mono ?_); rw [pun_nil]; rintro e w9 ⟨rfl, hb9⟩)
      | (go_at_call 8; refine (frok_any _).mono ?_; rintro e w10 ⟨rfl, hb10⟩))
    go_ret
    exact ⟨rfl, (by repeat (first | (with_reducible exact Below.refl _ _) | (with_reducible assumption) | (with_reducible refine bel_set ?_ (by first | (simp; done) | (simp; omega)) _) | (with_reducible refine bel_alloc ?_ _) | (with_reducible refine bel_drew ?_) | (with_reducible refine bel_drewN ?_ _) | (with_reducible refine bel_trans ?_ (by with_reducible assumption))))⟩
  · replace HT := hide (unhide HT hp)
    have hTx := hT
    clear hT
    have hT := hT'
    by_cases hk : late = 1000
    · subst hk
      have HM := hide (rfl : (1 : Nat) = 1)
      go_wp2_with (first
        | (go_at_call 6; (with_reducible refine (implpun_any _ _ _ (late + 1) xs _ (hI.below (by repeat (first | (with_reducible exact Below.refl _ _) | (with_reducible assumption) | (with_reducible refine bel_set ?_ (by first | (simp; done) | (simp; omega)) _) | (with_reducible refine bel_alloc ?_ _) | (with_reducible refine bel_drew ?_) | (with_reducible refine bel_drewN ?_ _) | (with_reducible refine bel_trans ?_ (by with_reducible assumption)))))).mono ?_); rw [unhide HM]; rintro e w7 ⟨rfl, hb7⟩)
        | (go_at_call 6; (with_reducible refine (implpun_any _ _ _ _ (xs.take i) _ (hT.below (by repeat (first | (with_reducible exact Below.refl _ _) | (with_reducible assumption) | (with_reducible refine bel_set ?_ (by first | (simp; done) | (simp; omega)) _) | (with_reducible refine bel_alloc ?_ _) | (with_reducible refine bel_drew ?_) | (with_reducible refine bel_drewN ?_ _) | (with_reducible refine bel_trans ?_ (by with_reducible assumption)))))).mono ?_); rw [unhide HT]; rintro e w8 ⟨rfl, hb8⟩)
        | (go_at_call 6; (with_reducible refine (implpun_any _ 0 _ 0 [] _ (its_nil _ _)).mono ?_); rw [pun_nil]; rintro e w9 ⟨rfl, hb9⟩)
        | (go_at_call 8; refine (frok_any _).mono ?_; rintro e w10 ⟨rfl, hb10⟩))
      go_ret
      exact ⟨rfl, (by repeat (first | (with_reducible exact Below.refl _ _) | (with_reducible assumption) | (with_reducible refine bel_set ?_ (by first | (simp; done) | (simp; omega)) _) | (with_reducible refine bel_alloc ?_ _) | (with_reducible refine bel_drew ?_) | (with_reducible refine bel_drewN ?_ _) | (with_reducible refine bel_trans ?_ (by with_reducible assumption))))⟩
    · have hk' : (late == 1000) = false := beq_eq_false_iff_ne.2 hk
      have HM := hide (pun_more hTx hp hk)
      go_wp2_with (first
        | (go_at_call 6; (with_reducible refine (implpun_any _ _ _ (late + 1) xs _ (hI.below (by repeat (first | (with_reducible exact Below.refl _ _) | (with_reducible assumption) | (with_reducible refine bel_set ?_ (by first | (simp; done) | (simp; omega)) _) | (with_reducible refine bel_alloc ?_ _) | (with_reducible refine bel_drew ?_) | (with_reducible refine bel_drewN ?_ _) | (with_reducible refine bel_trans ?_ (by with_reducible assumption)))))).mono ?_); rw [unhide HM]; rintro e w7 ⟨rfl, hb7⟩)
        | (go_at_call 6; (with_reducible refine (implpun_any _ _ _ _ (xs.take i) _ (hT.below (by repeat (first | (with_reducible exact Below.refl _ _) | (with_reducible assumption) | (with_reducible refine bel_set ?_ (by first | (simp; done) | (simp; omega)) _) | (with_reducible refine bel_alloc ?_ _) | (with_reducible refine bel_drew ?_) | (with_reducible refine bel_drewN ?_ _) | (with_reducible refine bel_trans ?_ (by with_reducible assumption)))))).mono ?_); rw [unhide HT]; rintro e w8 ⟨rfl, hb8⟩)
        | (go_at_call 6; (with_reducible refine (implpun_any _ 0 _ 0 [] _ (its_nil _ _)).mono ?_); rw [pun_nil]; rintro e w9 ⟨rfl, hb9⟩)
        | (go_at_call 8; refine (frok_any _).mono ?_; rintro e w10 ⟨rfl, hb10⟩))
      go_ret
      exact ⟨rfl, (by repeat (first | (with_reducible exact Below.refl _ _) | (with_reducible assumption) | (with_reducible refine bel_set ?_ (by first | (simp; done) | (simp; omega)) _) | (with_reducible refine bel_alloc ?_ _) | (with_reducible refine bel_drew ?_) | (with_reducible refine bel_drewN ?_ _) | (with_reducible refine bel_trans ?_ (by with_reducible assumption))))⟩
end Go.Proofs.Ytikhmgkoodoeoaa
