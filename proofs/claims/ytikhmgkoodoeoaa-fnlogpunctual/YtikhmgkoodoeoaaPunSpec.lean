/- Proved here: what the specification says of a log's being punctual. -/
import Derived.Test.YtikhmgkoodoeoaaLogImpl
namespace Go.Proofs.Ytikhmgkoodoeoaa
open Go.ChangeShapes Go.WideShapes Go.ChangeAt Go.RowKit
set_option linter.unusedVariables false

/-- The mark behind an item, if it is not too late. -/
def stepP (late : Int) (x : It) (m : Int) : Option Int := if (x.q == 1 && decide (x.t < wrap64 (m - late))) = true then none else some (behindI x.q x.t m)
def runP (late : Int) : List It → Int → Option Int
  | [], m => some m
  | x :: r, m => (stepP late x m).bind (runP late r)
theorem runP_append (late : Int) (p r : List It) (m : Int) : runP late (p ++ r) m = (runP late p m).bind (runP late r) := by
  induction p generalizing m with
  | nil => rfl
  | cons x p ih =>
    show (stepP late x m).bind (runP late (p ++ r)) = ((stepP late x m).bind (runP late p)).bind (runP late r)
    cases stepP late x m with
    | none => rfl
    | some m' => exact ih m'
theorem runP_snoc (late : Int) (p : List It) (x : It) (m : Int) : runP late (p ++ [x]) m = (runP late p m).bind (stepP late x) := by
  rw [runP_append]
  cases runP late p m with
  | none => rfl
  | some m' =>
    show (stepP late x m').bind (runP late []) = stepP late x m'
    cases stepP late x m' <;> rfl
theorem runP_none {late : Int} {p xs : List It} (h : p <+: xs) (hn : runP late p 0 = none) : runP late xs 0 = none := by
  obtain ⟨r, rfl⟩ := h
  rw [runP_append, hn]; rfl
theorem runP_drop {late : Int} {xs : List It} {k : Nat} {q t kk v nn : Int} (h : xs[k]? = some ⟨q, t, kk, v, nn⟩) (m : Int) : runP late (xs.drop k) m = (stepP late ⟨q, t, kk, v, nn⟩ m).bind (runP late (xs.drop (k + 1))) := by
  obtain ⟨hk, he⟩ := List.getElem?_eq_some_iff.1 h
  rw [List.drop_eq_getElem_cons hk, he]
  rfl
/-- Whether a log is punctual. -/
def punB (late : Int) (xs : List It) : Bool := inB late 0 1000 && (runP late xs 0).isSome

theorem stepP_late {late q t kk v nn m : Int} (h1 : q = 1) (h2 : t < wrap64 (m - late)) : stepP late ⟨q, t, kk, v, nn⟩ m = none := by
  subst h1; unfold stepP; rw [if_pos]; simpa using h2
theorem stepP_rec {late q t kk v nn m : Int} (h1 : q = 1) (h2 : ¬ t < wrap64 (m - late)) : stepP late ⟨q, t, kk, v, nn⟩ m = some m := by
  subst h1; unfold stepP; rw [if_neg]
  · rfl
  · simpa using h2
theorem stepP_other {late q t kk v nn m : Int} (h1 : q ≠ 1) : stepP late ⟨q, t, kk, v, nn⟩ m = some (behindI q t m) := by
  unfold stepP; rw [if_neg]; simp [h1]

set_option maxHeartbeats 1000000 in
theorem specpun_any (a : Option Addr) (len cap : Nat) (late : Int) (xs : List It) (w : World) (h : Its w a len xs) : Calls Try.prog 7 #[.slice a len cap, .int .i64 late] w fun e w' => e = .returned (.bool (punB late xs)) ∧ w' = w := by
  have hm := h.2.1
  unfold maxLen at hm
  cases hin : inB late 0 1000
  · have hq : Hid (punB late xs = false) := hide (by unfold punB; rw [hin]; rfl)
    go_enter Try.func7, Try.ntmps7
    go_wp2_with (go_at_call 23; refine (l1In_any _ _ _ _).mono ?_; rintro e w' ⟨rfl, hw⟩; obtain rfl := hw.symm)
    go_ret
    exact ⟨ret_b (unhide hq).symm, rfl⟩
  have HL : Hid (punB late xs = (runP late xs 0).isSome) := hide (by unfold punB; rw [hin]; rfl)
  go_enter Try.func7, Try.ntmps7
  go_wp2_with (go_at_call 23; refine (l1In_any _ _ _ _).mono ?_; rintro e w' ⟨rfl, hw⟩; obtain rfl := hw.symm)
  go_loop [5, 6] (fun m i => ∃ (k : Nat) (mk : Int), k ≤ len ∧ i = .int .i64 k ∧ m = .int .i64 mk ∧ Hid (runP late xs 0 = runP late (xs.drop k) mk)) (fun _ i => len - (intOf i).toNat)
  case atStart => exact ⟨0, 0, Nat.zero_le _, rfl, rfl, hide (by rw [List.drop_zero])⟩
  case round =>
    obtain ⟨k, mk, hk, rfl, rfl, hlg⟩ := hrel
    by_cases hlt : k < len
    · obtain ⟨hxl, _, hx⟩ := h
      obtain ⟨g, o, rfl, hr⟩ := hx.resolve_left (by omega)
      obtain ⟨x, hxk⟩ : ∃ x, xs[k]? = some x := ⟨_, List.getElem?_eq_getElem (by omega)⟩
      obtain ⟨q, t, kk, v, nn⟩ := x
      obtain ⟨d0, d1, d2, d3, d4⟩ := (hr k _ hxk).get
      have hst := hide (runP_drop (late := late) hxk mk)
      clear hxk hx hin
      by_cases h1 : q = 1
      · by_cases h2 : t < wrap64 (mk - late)
        · have hq : Hid (punB late xs = false) := hide (by rw [unhide HL, unhide hlg, unhide hst, stepP_late h1 h2]; rfl)
          subst h1
          go_wp2
          go_ret
          exact ⟨ret_b (unhide hq).symm, rfl⟩
        · have hq : Hid (runP late xs 0 = runP late (xs.drop (k + 1)) mk) := hide (by rw [unhide hlg, unhide hst, stepP_rec h1 h2]; rfl)
          subst h1
          go_wp2
          go_round
          case rel => exact ⟨k + 1, mk, by omega, by go_num, rfl, hq⟩
          case measure => simp [intOf]; omega
      · have hq : Hid (runP late xs 0 = runP late (xs.drop (k + 1)) (behindI q t mk)) := hide (by rw [unhide hlg, unhide hst, stepP_other h1]; rfl)
        have g1 : (q == 1) = false := by simpa using h1
        by_cases h3 : q = 2
        · subst h3
          clear h1 g1
          by_cases h4 : mk < t
          · have hb : Hid (behindI 2 t mk = t) := hide (hiI_d h4)
            go_wp2
            go_round
            case rel => exact ⟨k + 1, t, by omega, by go_num, rfl, hide (by rw [unhide hq, unhide hb])⟩
            case measure => simp [intOf]; omega
          · have hb : Hid (behindI 2 t mk = mk) := hide (hiI_b h4)
            go_wp2
            go_round
            case rel => exact ⟨k + 1, mk, by omega, by go_num, rfl, hide (by rw [unhide hq, unhide hb])⟩
            case measure => simp [intOf]; omega
        · have hb : Hid (behindI q t mk = mk) := hide (if_neg h3)
          have g2 : (q == 2) = false := by simpa using h3
          clear h1 h3
          go_wp2
          go_round
          case rel => exact ⟨k + 1, mk, by omega, by go_num, rfl, hide (by rw [unhide hq, unhide hb])⟩
          case measure => simp [intOf]; omega
    · have hq : Hid (punB late xs = true) := hide (by rw [unhide HL, unhide hlg, List.drop_of_length_le (by have := h.1; omega)]; rfl)
      go_wp2
      go_ret
      exact ⟨ret_b (unhide hq).symm, rfl⟩
end Go.Proofs.Ytikhmgkoodoeoaa
