/- Proved here: logs are compared, marked, and found so. -/
import Derived.Test.YtcokdcehjibanaaDoorLgO
import Derived.Test.YtcokdcehjibanaaDoorLogEq
import Derived.BigQuiet
namespace Go.Proofs.YtcokdcehjibanaaDoor
open Go.ChangeShapes Go.WideShapes Go.ChangeAt Go.RowKit
set_option linter.unusedVariables false
set_option linter.unusedSimpArgs false

set_option maxRecDepth 20000 in
set_option maxHeartbeats 2000000 in
theorem eqLg_any {B1 B2 : Nat} {v1 v2 : Value} {us1 us2 : List Value} {Ls : List (List It)} (w : World) (h1 : LgO w B1 v1 us1 Ls) (h2 : LgO w B2 v2 us2 Ls) (hl : ∀ l ∈ Ls, l.length ≤ 1048576) (hn : Ls.length ≤ 1048576) : Calls Tryd.prog 8 #[v1, v2] w fun e w' => e = .returned (.bool true) ∧ Below w.heap.size w w' := by
  obtain ⟨a1, c1, rfl⟩ := h1.slice
  obtain ⟨a2, c2, rfl⟩ := h2.slice
  have HL := hide hl
  clear hl
  generalize hN : Ls.length = n at *
  go_enter Tryd.func8, Tryd.ntmps8
  go_wp2
  go_loopw [5] (fun i wr => ∃ k : Nat, k ≤ n ∧ i = .int .i64 k ∧ Below w.heap.size w wr) (fun i _ => n - (intOf i).toNat)
  case atStart => exact ⟨0, Nat.zero_le _, rfl, Below.refl _ _⟩
  case round =>
    obtain ⟨k, hk, rfl, hbw⟩ := hrel
    by_cases hlt : k < n
    · obtain ⟨l, hlk⟩ : ∃ l, Ls[k]? = some l := ⟨_, List.getElem?_eq_getElem (by omega)⟩
      have hll : l.length ≤ maxLen := Nat.le_trans (unhide HL l (List.mem_of_getElem? hlk)) (by decide)
      obtain ⟨g1, cc1, e1, _, hg1, _⟩ := h1.shape (by omega)
      obtain ⟨g2, cc2, e2, _, hg2, _⟩ := h2.shape (by omega)
      rw [hN] at e1 e2
      simp only [Value.slice.injEq, true_and] at e1 e2
      obtain ⟨rfl, rfl⟩ := e1
      obtain ⟨rfl, rfl⟩ := e2
      subst hN
      obtain ⟨b1, d1, _, s1, I1⟩ := (h1.bel hbw).at_ hlk hll
      obtain ⟨b2, d2, _, s2, I2⟩ := (h2.bel hbw).at_ hlk hll
      have I1' := hide I1
      have I2' := hide I2
      have hs := hbw.size
      have z1 : g1 < wr.heap.size := by omega
      have z2 : g2 < wr.heap.size := by omega
      clear I1 I2 hlk h1 h2
      go_wp2_with fail
      go_region_with (go_at_call 18; refine (eqIts_any b1 b2 l.length d1 d2 l _ ((unhide I1').below (by repeat (first | (with_reducible exact Below.refl _ _) | (with_reducible refine bel_drew ?_) | (with_reducible refine bel_drewN ?_ _)))) ((unhide I2').below (by repeat (first | (with_reducible exact Below.refl _ _) | (with_reducible refine bel_drew ?_) | (with_reducible refine bel_drewN ?_ _))))).mono ?_; rintro e wf ⟨rfl, hb⟩; obtain ⟨hc, hf, hsz⟩ := bcell hb)
      all_goals
        go_wp2
        go_roundw
        case rel => exact ⟨k + 1, by omega, by go_num, (by repeat (first | (with_reducible exact Below.refl _ _) | (with_reducible assumption) | (with_reducible refine bel_drew ?_) | (with_reducible refine bel_drewN ?_ _) | (with_reducible refine bel_trans ?_ (by with_reducible assumption))))⟩
        case measure => simp [intOf]; omega
    · go_wp2
      go_ret
      exact ⟨rfl, hbw⟩

set_option maxRecDepth 20000 in
set_option maxHeartbeats 2000000 in
theorem markLg_any {B : Nat} {v : Value} {us : List Value} {Ls : List (List It)} (w : World) (h : LgO w B v us Ls) (hB : B ≤ w.heap.size) (hl : ∀ l ∈ Ls, l.length ≤ 1048576) (hn : Ls.length ≤ 1048576) : Calls Tryd.prog 11 #[v, .int .i64 1] w fun e w' => e = .returned (.int .i64 (kLg 1 Ls)) ∧ MkLg w' B v us Ls ∧ Below B w w' := by
  obtain ⟨a, c, rfl⟩ := h.slice
  have hlen := h.len
  go_enter Tryd.func11, Tryd.ntmps11
  go_wp2
  go_loopw [1, 5] (fun kv i wr => ∃ k : Nat, k ≤ Ls.length ∧ i = .int .i64 k ∧ kv = .int .i64 (kLg 1 (Ls.take k)) ∧ InvLg w wr B (.slice a Ls.length c) us Ls k) (fun _ i _ => Ls.length - (intOf i).toNat)
  case atStart => exact ⟨0, Nat.zero_le _, rfl, rfl, InvLg.start h⟩
  case round =>
    obtain ⟨k, hk, rfl, rfl, hI⟩ := hrel
    by_cases hlt : k < Ls.length
    · obtain ⟨l, hlk⟩ : ∃ l, Ls[k]? = some l := ⟨_, List.getElem?_eq_getElem (by omega)⟩
      have hll := hl l (List.mem_of_getElem? hlk)
      have hu0 : us[k]? = some us[k] := List.getElem?_eq_getElem (by omega)
      obtain ⟨b, d, e1, _⟩ := own_its (h.own k _ l hu0 hlk) (Nat.le_trans hll (by decide))
      rw [e1] at hu0
      obtain ⟨g, cc, e2, _, hg, _⟩ := h.shape (by omega)
      simp only [Value.slice.injEq, true_and] at e2
      obtain ⟨rfl, rfl⟩ := e2
      have hcell : wr.cell? ⟨g, k, none⟩ = some (.slice b l.length d) := by rw [World.ownsRow.cellAt hI.row k (by omega)]; exact hu0
      have hW := wr_of_own (hI.un k _ l (Nat.le_refl _) hu0 hlk) rfl
      have hkb := kLg_at k hl hn
      have hks := hide (kLg_snoc (K := 1) hlk)
      have hst := hide (fun w2 => InvLg.step (w2 := w2) h hI (Nat.le_trans hB hI.bel.size) hu0 hlk)
      have hz : g < wr.heap.size := Nat.lt_of_lt_of_le hg hI.bel.size
      obtain ⟨Kk, hKk⟩ : ∃ Kk, Kk = kLg 1 (Ls.take k) := ⟨_, rfl⟩
      rw [← hKk] at hks hkb hst
      rw [← hKk]
      have hltI : (k : Int) < (Ls.length : Int) := by omega
      have hLn := hide hn
      clear hKk hu0 e1 hlk hI h hl hlen
      go_wp2_with (go_at_call 20; refine (markKIw_any Kk (by omega) (by omega) b l.length d _ hW hll).mono ?_; rintro e w2 ⟨rfl, m2, g2⟩)
      go_roundw
      case rel => exact ⟨k + 1, by omega, by go_num, by rw [unhide hks], unhide hst w2 m2 g2⟩
      case measure => simp [intOf]; omega
    · have HE : Hid (kLg 1 (Ls.take k) = kLg 1 Ls) := hide (by rw [List.take_of_length_le (by omega)])
      obtain rfl : k = Ls.length := by omega
      have hD := hide (InvLg.done hlen hI)
      have hbl := hI.bel
      clear hI
      go_wp2
      go_ret
      exact ⟨by rw [← unhide HE]; rfl, unhide hD, hbl⟩

set_option maxRecDepth 20000 in
set_option maxHeartbeats 2000000 in
theorem heldLg_any {B : Nat} {v : Value} {us : List Value} {Ls : List (List It)} (w : World) (h : MkLg w B v us Ls) (hl : ∀ l ∈ Ls, l.length ≤ 1048576) (hn : Ls.length ≤ 1048576) : Calls Tryd.prog 12 #[v, .int .i64 1] w fun e w' => e = .returned (.int .i64 (kLg 1 Ls)) ∧ w' = w := by
  obtain ⟨a, c, rfl⟩ := h.slice
  have hlen := h.len
  go_enter Tryd.func12, Tryd.ntmps12
  go_wp2
  go_loopw [1, 5] (fun kv i wr => ∃ k : Nat, k ≤ Ls.length ∧ i = .int .i64 k ∧ kv = .int .i64 (kLg 1 (Ls.take k)) ∧ wr = w) (fun _ i _ => Ls.length - (intOf i).toNat)
  case atStart => exact ⟨0, Nat.zero_le _, rfl, rfl, rfl⟩
  case round =>
    obtain ⟨k, hk, rfl, rfl, hwr⟩ := hrel
    obtain rfl := hwr.symm
    clear hwr
    by_cases hlt : k < Ls.length
    · obtain ⟨l, hlk⟩ : ∃ l, Ls[k]? = some l := ⟨_, List.getElem?_eq_getElem (by omega)⟩
      have hll := hl l (List.mem_of_getElem? hlk)
      obtain ⟨b, d, hu0, hM⟩ := h.mk_ k l hlk
      have hkb := kLg_at k hl hn
      have hks := hide (kLg_snoc (K := 1) hlk)
      obtain ⟨g, cap, cur, e2, _, hblk, _⟩ := h.row.2.resolve_left (fun e9 => by omega)
      simp only [Value.slice.injEq, true_and] at e2
      obtain ⟨rfl, rfl⟩ := e2
      have hcell : w.cell? ⟨g, k, none⟩ = some (.slice b l.length d) := by rw [World.ownsRow.cellAt h.row k (by omega)]; exact hu0
      have hz : g < w.heap.size := (Array.getElem?_eq_some_iff.1 hblk).1
      obtain ⟨Kk, hKk⟩ : ∃ Kk, Kk = kLg 1 (Ls.take k) := ⟨_, rfl⟩
      rw [← hKk] at hks hkb hM
      rw [← hKk]
      have hltI : (k : Int) < (Ls.length : Int) := by omega
      have HM := hide hM
      have n1 : ¬ (Kk + 5 * (l.length : Int)) < 0 := by omega
      clear hKk hu0 hlk h hl hlen hM hblk
      go_wp2_with (go_at_call 21; refine (heldKIw_any Kk (by omega) (by omega) b l.length d _ (unhide HM) hll).mono ?_; rintro e w5 ⟨rfl, hw⟩; obtain rfl := hw.symm; clear hw)
      go_roundw
      case rel => exact ⟨k + 1, by omega, by go_num, by rw [unhide hks], by first | rfl | trivial⟩
      case measure => simp [intOf]; omega
    · have HE : Hid (kLg 1 (Ls.take k) = kLg 1 Ls) := hide (by rw [List.take_of_length_le (by omega)])
      go_wp2
      go_ret
      exact ⟨by rw [← unhide HE]; rfl, rfl⟩
end Go.Proofs.YtcokdcehjibanaaDoor
