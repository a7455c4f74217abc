/- Proved here: the records of a log that the specification tells, in new memory. -/
import Derived.Test.YtikhmgkoodoeoaaLogImpl
import Derived.OwnWalk
namespace Go.Proofs.Ytikhmgkoodoeoaa
open Go.ChangeShapes Go.WideShapes Go.ChangeAt Go.RowKit
set_option linter.unusedVariables false

/-- The cells of items. -/
def It.cells (x : It) : List Value := [.int .i64 x.q, .int .i64 x.t, .int .i64 x.k, .int .i64 x.v, .int .i64 x.n]
def flat (xs : List It) : List Value := xs.flatMap It.cells
theorem flat_snoc (xs : List It) (x : It) : flat (xs ++ [x]) = flat xs ++ x.cells := by simp [flat]
theorem flat_len (xs : List It) : (flat xs).length = xs.length * 5 := by
  induction xs with
  | nil => rfl
  | cons x r ih => show (x.cells ++ flat r).length = _; rw [List.length_append, ih]; simp [It.cells]; omega
theorem flat_get {xs : List It} {i : Nat} {x : It} (h : xs[i]? = some x) : (flat xs)[i * 5]? = some (.int .i64 x.q) ∧ (flat xs)[i * 5 + 1]? = some (.int .i64 x.t) ∧ (flat xs)[i * 5 + 2]? = some (.int .i64 x.k) ∧ (flat xs)[i * 5 + 3]? = some (.int .i64 x.v) ∧ (flat xs)[i * 5 + 4]? = some (.int .i64 x.n) := by
  induction xs generalizing i with
  | nil => simp at h
  | cons y r ih =>
    have hf : flat (y :: r) = y.cells ++ flat r := rfl
    cases i with
    | zero =>
      simp at h
      subst h
      rw [hf]
      exact ⟨rfl, rfl, rfl, rfl, rfl⟩
    | succ i =>
      simp at h
      obtain ⟨h0, h1, h2, h3, h4⟩ := ih h
      have hl : y.cells.length = 5 := rfl
      rw [hf]
      refine ⟨?_, ?_, ?_, ?_, ?_⟩
      · rw [List.getElem?_append_right (by omega), hl, show (i + 1) * 5 - 5 = i * 5 by omega]; exact h0
      · rw [List.getElem?_append_right (by omega), hl, show (i + 1) * 5 + 1 - 5 = i * 5 + 1 by omega]; exact h1
      · rw [List.getElem?_append_right (by omega), hl, show (i + 1) * 5 + 2 - 5 = i * 5 + 2 by omega]; exact h2
      · rw [List.getElem?_append_right (by omega), hl, show (i + 1) * 5 + 3 - 5 = i * 5 + 3 by omega]; exact h3
      · rw [List.getElem?_append_right (by omega), hl, show (i + 1) * 5 + 4 - 5 = i * 5 + 4 by omega]; exact h4

/-- A slice of the call's own holds items. -/
def OwnIts (W : World) (B : Nat) (v : Value) (ys : List It) : Prop := W.ownsRow B 35 5 v ys.length (flat ys)
theorem own_ge {W : World} {B : Nat} {v : Value} {ys : List It} (h : OwnIts W B v ys) : ∀ k, v.ownBlock = some k → B ≤ k := by
  intro k hk
  rcases h.2 with ⟨rfl, _⟩ | ⟨g, cap, cur, rfl, hg, _⟩
  · cases hk
  · simp [Value.ownBlock] at hk; omega

/-- The records that are not too small. -/
def isRec (least : Int) (x : It) : Bool := x.q == 1 && decide (least ≤ x.v)
def recs (least : Int) (xs : List It) : List It := xs.filter (isRec least)
theorem recs_snoc (least : Int) (xs : List It) (x : It) : recs least (xs ++ [x]) = if isRec least x = true then recs least xs ++ [x] else recs least xs := by
  unfold recs
  rw [List.filter_append]
  cases h : isRec least x <;> simp [h]
theorem recs_take {least : Int} {xs : List It} {k : Nat} {x : It} (h : xs[k]? = some x) : recs least (xs.take (k + 1)) = if isRec least x = true then recs least (xs.take k) ++ [x] else recs least (xs.take k) := by
  rw [take_snoc h, recs_snoc]
theorem recs_len (least : Int) (xs : List It) (k : Nat) : (recs least (xs.take k)).length ≤ k := Nat.le_trans (List.length_filter_le _ _) (List.length_take_le _ _)

/-- One item more. -/
theorem own_step {least : Int} {xs : List It} {k : Nat} {x : It} {w1 : World} {B : Nat} {v' : Value} (h : xs[k]? = some x) (hr : isRec least x = true)
    (ho : w1.ownsRow B 35 5 v' ((recs least (xs.take k)).length + 1) (flat (recs least (xs.take k)) ++ x.cells)) : OwnIts w1 B v' (recs least (xs.take (k + 1))) := by
  unfold OwnIts
  rw [recs_take h, if_pos hr, flat_snoc]
  simpa using ho
theorem own_skip {least : Int} {xs : List It} {k : Nat} {x : It} {w1 : World} {B : Nat} {v : Value} (h : xs[k]? = some x) (hr : isRec least x = false) (ho : OwnIts w1 B v (recs least (xs.take k))) : OwnIts w1 B v (recs least (xs.take (k + 1))) := by
  rw [recs_take h, if_neg (by simp [hr])]; exact ho

theorem cells_new5 (w : World) (q t k v n : Int) (ty : Nat) : ∀ j u, ([.int .i64 q, .int .i64 t, .int .i64 k, .int .i64 v, .int .i64 n] : List Value)[j]? = some u → (w.alloc (.cells #[.int .i64 q, .int .i64 t, .int .i64 k, .int .i64 v, .int .i64 n] ty)).cell? ((⟨w.heap.size, 0, none⟩ : Addr).add j) = some u := by
  intro j u hj
  have e : ((⟨w.heap.size, 0, none⟩ : Addr).add j) = ⟨w.heap.size, j, none⟩ := by
    unfold Addr.add
    split
    · rename_i h0; rw [h0]
    · simp
  rw [e]
  simpa [go_sem] using hj

set_option maxHeartbeats 1000000 in
theorem specrecs_any (a : Option Addr) (len cap : Nat) (least : Int) (xs : List It) (w : World) (h : Its w a len xs) (hl : len ≤ 1048576) : Calls Try.prog 12 #[.slice a len cap, .int .i64 least] w fun e w' => ∃ v, e = .returned v ∧ OwnIts w' w.heap.size v (recs least xs) ∧ Below w.heap.size w w' := by
  obtain ⟨i0, hi, hz0, hz1, hz2⟩ := info_parts Try.infoItm
  go_enter Try.func12, Try.ntmps12
  go_wp2
  go_loopw [5, 6] (fun v i wr => ∃ k : Nat, k ≤ len ∧ i = .int .i64 k ∧ OwnIts wr w.heap.size v (recs least (xs.take k)) ∧ Below w.heap.size w wr) (fun _ i _ => len - (intOf i).toNat)
  case atStart => exact ⟨0, Nat.zero_le _, rfl, World.ownsRow_lit (base := w.heap.size) (size := 5) w #[] 0 (Nat.le_refl _) (Nat.zero_le _) rfl, bel_one _ _⟩
  case round =>
    obtain ⟨k, hk, rfl, hO, hbw⟩ := hrel
    by_cases hlt : k < len
    · obtain ⟨hxl, _, hx⟩ := h
      obtain ⟨g, o, rfl, hr⟩ := hx.resolve_left (by omega)
      obtain ⟨x, hxk⟩ : ∃ x, xs[k]? = some x := ⟨_, List.getElem?_eq_getElem (by omega)⟩
      have hg : g < w.heap.size := hr.lt (by omega)
      have hX := hide hxk
      obtain ⟨q, t, kk, v, nn⟩ := x
      obtain ⟨d0, d1, d2, d3, d4⟩ := ((hr k _ hxk).below hbw hg).get
      have hrl := recs_len least xs k
      have hsk := fun hf => hide (own_skip (B := w.heap.size) hxk (least := least) hf hO)
      clear hx hxk
      by_cases h1 : q = 1
      · by_cases h2 : least ≤ v
        · have hrec : Hid (isRec least ⟨q, t, kk, v, nn⟩ = true) := hide (by simp [isRec, h1, h2])
          have hst := fun (w1 : World) (v' : Value) => own_step (w1 := w1) (v' := v') (B := w.heap.size) (unhide hX) (unhide hrec)
          subst h1
          clear hsk
          have HO := hide hO
          have Hst := hide hst
          have hge := hide (own_ge hO)
          clear hst hO
          go_wp2_with (first
            | (at_builtin; refine wpList_append_own _ rfl _ _ 23 rfl w.heap.size 35 i0 _ 5 40 Try.underlying23 hi hz0 hz1 hz2 rfl (by decide) u5 _ _ rfl (World.ownsRow.alloc (unhide HO) _) ⟨wr.heap.size, 0, none⟩ 1 1 [.int .i64 1, .int .i64 t, .int .i64 kk, .int .i64 v, .int .i64 nn] rfl rfl (cells_new5 wr 1 t kk v nn _) (by simp [Value.oneCell']) (by unfold maxLen; omega) (by omega) (by have := hbw.size; simp; omega) ?_; intro v' w1 hown' hgrow _))
          go_roundw
          case rel => exact ⟨k + 1, by omega, by go_num, unhide Hst w1 v' hown', (bel_alloc hbw _).grown hgrow (bel_alloc hbw _).size (unhide hge)⟩
          case measure => simp [intOf]; omega
        · have hs := unhide (hsk (by simp [isRec, h2]))
          subst h1
          have HS := hide hs
          clear hs hsk hO
          go_wp2
          go_roundw
          case rel => exact ⟨k + 1, by omega, by go_num, unhide HS, hbw⟩
          case measure => simp [intOf]; omega
      · have hs := unhide (hsk (by simp [isRec, h1]))
        have HS := hide hs
        have g1 : (q == 1) = false := by simpa using h1
        clear hs hsk hO h1
        go_wp2
        go_roundw
        case rel => exact ⟨k + 1, by omega, by go_num, unhide HS, hbw⟩
        case measure => simp [intOf]; omega
    · have hO' : OwnIts wr w.heap.size u5 (recs least xs) := by rw [List.take_of_length_le (by have := h.1; omega)] at hO; exact hO
      have HO := hide hO'
      clear hO hO'
      go_wp2
      go_ret
      exact ⟨_, rfl, unhide HO, hbw⟩
end Go.Proofs.Ytikhmgkoodoeoaa
