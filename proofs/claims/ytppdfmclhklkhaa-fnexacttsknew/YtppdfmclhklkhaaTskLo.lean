/- Proved here: the least mark of a task's channels, and how many are held, in the program and the specification. -/
import Derived.Test.YtppdfmclhklkhaaTskT
namespace Go.Proofs.Ytppdfmclhklkhaa
open Go.ChangeShapes Go.WideShapes Go.ChangeAt Go.RowKit
set_option linter.unusedVariables false

/-- The least mark; how many are held. -/
def lowT (l : List TiD) : Int := l.foldl (fun m x => if x.ma < m then x.ma else m) 1000
def heldT (l : List TiD) : Int := l.foldl (fun n x => if x.hd then n + 1 else n) 0
theorem lowT_snoc {xs : List TiD} {k : Nat} {x : TiD} (h : xs[k]? = some x) : lowT (xs.take (k + 1)) = if x.ma < lowT (xs.take k) then x.ma else lowT (xs.take k) := by
  rw [List.take_add_one, h]
  unfold lowT
  rw [List.foldl_append]
  rfl
theorem heldT_snoc {xs : List TiD} {k : Nat} {x : TiD} (h : xs[k]? = some x) : heldT (xs.take (k + 1)) = if x.hd then heldT (xs.take k) + 1 else heldT (xs.take k) := by
  rw [List.take_add_one, h]
  unfold heldT
  rw [List.foldl_append]
  rfl
theorem heldT_bd (l : List TiD) : 0 ≤ heldT l ∧ heldT l ≤ l.length := by
  have : ∀ (l : List TiD) (n : Int), n ≤ l.foldl (fun n x => if x.hd then n + 1 else n) n ∧ l.foldl (fun n x => if x.hd then n + 1 else n) n ≤ n + l.length := by
    intro l
    induction l with
    | nil => intro n; simp
    | cons x r ih =>
      intro n
      rw [List.foldl_cons, List.length_cons]
      cases hx : x.hd
      · have := ih n
        simp only [Bool.false_eq_true, if_false]
        omega
      · have := ih (n + 1)
        simp only [if_true]
        omega
  have := this l 0
  simp only [heldT]
  omega

set_option maxRecDepth 20000 in
set_option maxHeartbeats 1000000 in
theorem speclow_any (ia : Option Addr) (il ic : Nat) (om : Int) (oa : Option Addr) (ol oc : Nat) (wl pn : Int) (pa : Option Addr) (pl pc : Nat) (la : Option Addr) (ll lc : Nat) (B : Nat) (d : List TiD) (w : World) (h : TiRs w B ia il d) : Calls Try.prog 21 #[.agg #[.slice ia il ic, .int .i64 om, .slice oa ol oc, .int .i64 wl, .int .i64 pn, .slice pa pl pc, .slice la ll lc]] w fun e w' => e = .returned (.int .i64 (lowT d)) ∧ Below w.heap.size w w' := by
  have hm := h.2.1
  unfold maxLen at hm
  have h0 := h.below (bel_one w (.cells #[.slice ia il ic, .int .i64 om, .slice oa ol oc, .int .i64 wl, .int .i64 pn, .slice pa pl pc, .slice la ll lc] 38))
  go_enter Try.func21, Try.ntmps21
  go_wp2
  go_loop [3, 4] (fun m i => ∃ k : Nat, k ≤ il ∧ i = .int .i64 k ∧ m = .int .i64 (lowT (d.take k))) (fun _ i => il - (intOf i).toNat)
  case atStart => exact ⟨0, Nat.zero_le _, rfl, rfl⟩
  case round =>
    obtain ⟨k, hk, rfl, rfl⟩ := hrel
    by_cases hlt : k < il
    · obtain ⟨hxl, hml, hx⟩ := h0
      obtain ⟨g, o, rfl, _, hr⟩ := hx.resolve_left (by omega)
      obtain ⟨x, hxk⟩ : ∃ x, d[k]? = some x := ⟨_, List.getElem?_eq_getElem (by omega)⟩
      obtain ⟨qa, ql, qc, c0, c1, c2, hqi, _⟩ := hr k _ hxk
      clear hx hr hqi h
      by_cases hq : x.ma < lowT (d.take k)
      · have HS : Hid (lowT (d.take (k + 1)) = x.ma) := (lowT_snoc hxk).trans (if_pos hq)
        clear hxk
        generalize lowT (d.take k) = lo at *
        go_wp2
        go_round
        case rel => exact ⟨k + 1, by omega, by go_num, by first | (rw [HS.out]; done) | (rw [HS.out]; go_num)⟩
        case measure => simp [intOf]; omega
      · have HS : Hid (lowT (d.take (k + 1)) = lowT (d.take k)) := (lowT_snoc hxk).trans (if_neg hq)
        clear hxk
        generalize lowT (d.take k) = lo at *
        go_wp2
        go_round
        case rel => exact ⟨k + 1, by omega, by go_num, by first | (rw [HS.out]; done) | (rw [HS.out]; go_num)⟩
        case measure => simp [intOf]; omega
    · obtain rfl : k = il := by omega
      have HE : Hid (lowT (d.take k) = lowT d) := by rw [List.take_of_length_le (by have := h.1; omega)]; exact rfl
      generalize lowT (d.take k) = lo at *
      go_wp2
      go_ret
      exact ⟨ret_i HE.out, (by repeat (first | (with_reducible exact Below.refl _ _) | (with_reducible assumption) | (with_reducible refine bel_set ?_ (by first | (simp; done) | (simp; omega)) _) | (with_reducible refine bel_alloc ?_ _) | (with_reducible refine bel_drew ?_) | (with_reducible refine bel_drewN ?_ _) | (with_reducible refine bel_trans ?_ (by with_reducible assumption))))⟩

set_option maxRecDepth 20000 in
set_option maxHeartbeats 1000000 in
theorem impllow_any (ia : Option Addr) (il ic : Nat) (om : Int) (oa : Option Addr) (ol oc : Nat) (wl pn : Int) (pa : Option Addr) (pl pc : Nat) (la : Option Addr) (ll lc : Nat) (B : Nat) (d : List TiD) (w : World) (h : TiRs w B ia il d) : Calls Try.prog 23 #[.agg #[.slice ia il ic, .int .i64 om, .slice oa ol oc, .int .i64 wl, .int .i64 pn, .slice pa pl pc, .slice la ll lc]] w fun e w' => e = .returned (.int .i64 (lowT d)) ∧ Below w.heap.size w w' := by
  have hm := h.2.1
  unfold maxLen at hm
  have h0 := h.below (bel_one w (.cells #[.slice ia il ic, .int .i64 om, .slice oa ol oc, .int .i64 wl, .int .i64 pn, .slice pa pl pc, .slice la ll lc] 38))
  go_enter Try.func23, Try.ntmps23
  go_wp2
  go_loopw [3, 9] (fun m i wr => ∃ k : Nat, k ≤ il ∧ i = .int .i64 k ∧ m = .int .i64 (lowT (d.take k)) ∧ Below (w.alloc (.cells #[.slice ia il ic, .int .i64 om, .slice oa ol oc, .int .i64 wl, .int .i64 pn, .slice pa pl pc, .slice la ll lc] 38)).heap.size (w.alloc (.cells #[.slice ia il ic, .int .i64 om, .slice oa ol oc, .int .i64 wl, .int .i64 pn, .slice pa pl pc, .slice la ll lc] 38)) wr) (fun _ i _ => il - (intOf i).toNat)
  case atStart => exact ⟨0, Nat.zero_le _, rfl, rfl, Below.refl _ _⟩
  case round =>
    obtain ⟨k, hk, rfl, rfl, hbw⟩ := hrel
    by_cases hlt : k < il
    · obtain ⟨hxl, hml, hx⟩ := h0
      obtain ⟨g, o, rfl, _, hr⟩ := hx.resolve_left (by omega)
      obtain ⟨x, hxk⟩ : ∃ x, d[k]? = some x := ⟨_, List.getElem?_eq_getElem (by omega)⟩
      obtain ⟨qa, ql, qc, c0, c1, c2, hqi, _⟩ := (hr k _ hxk).below hbw
      clear hx hr hqi h
      by_cases hq : x.ma < lowT (d.take k)
      · have HS : Hid (lowT (d.take (k + 1)) = x.ma) := (lowT_snoc hxk).trans (if_pos hq)
        clear hxk
        generalize lowT (d.take k) = lo at *
        go_wp2
        go_roundw
        case rel => exact ⟨k + 1, by omega, by go_num, by first | (rw [HS.out]; done) | (rw [HS.out]; go_num), (by repeat (first | (with_reducible exact Below.refl _ _) | (with_reducible assumption) | (with_reducible refine bel_set ?_ (by first | (simp; done) | (simp; omega)) _) | (with_reducible refine bel_alloc ?_ _) | (with_reducible refine bel_drew ?_) | (with_reducible refine bel_drewN ?_ _) | (with_reducible refine bel_trans ?_ (by with_reducible assumption))))⟩
        case measure => simp [intOf]; omega
      · have HS : Hid (lowT (d.take (k + 1)) = lowT (d.take k)) := (lowT_snoc hxk).trans (if_neg hq)
        clear hxk
        generalize lowT (d.take k) = lo at *
        go_wp2
        go_roundw
        case rel => exact ⟨k + 1, by omega, by go_num, by first | (rw [HS.out]; done) | (rw [HS.out]; go_num), (by repeat (first | (with_reducible exact Below.refl _ _) | (with_reducible assumption) | (with_reducible refine bel_set ?_ (by first | (simp; done) | (simp; omega)) _) | (with_reducible refine bel_alloc ?_ _) | (with_reducible refine bel_drew ?_) | (with_reducible refine bel_drewN ?_ _) | (with_reducible refine bel_trans ?_ (by with_reducible assumption))))⟩
        case measure => simp [intOf]; omega
    · obtain rfl : k = il := by omega
      have HE : Hid (lowT (d.take k) = lowT d) := by rw [List.take_of_length_le (by have := h.1; omega)]; exact rfl
      generalize lowT (d.take k) = lo at *
      go_wp2
      go_ret
      exact ⟨ret_i HE.out, (by repeat (first | (with_reducible exact Below.refl _ _) | (with_reducible assumption) | (with_reducible refine bel_set ?_ (by first | (simp; done) | (simp; omega)) _) | (with_reducible refine bel_alloc ?_ _) | (with_reducible refine bel_drew ?_) | (with_reducible refine bel_drewN ?_ _) | (with_reducible refine bel_trans ?_ (by with_reducible assumption))))⟩

set_option maxRecDepth 20000 in
set_option maxHeartbeats 1000000 in
theorem specheldn_any (ia : Option Addr) (il ic : Nat) (om : Int) (oa : Option Addr) (ol oc : Nat) (wl pn : Int) (pa : Option Addr) (pl pc : Nat) (la : Option Addr) (ll lc : Nat) (B : Nat) (d : List TiD) (w : World) (h : TiRs w B ia il d) : Calls Try.prog 24 #[.agg #[.slice ia il ic, .int .i64 om, .slice oa ol oc, .int .i64 wl, .int .i64 pn, .slice pa pl pc, .slice la ll lc]] w fun e w' => e = .returned (.int .i64 (heldT d)) ∧ Below w.heap.size w w' := by
  have hm := h.2.1
  unfold maxLen at hm
  have h0 := h.below (bel_one w (.cells #[.slice ia il ic, .int .i64 om, .slice oa ol oc, .int .i64 wl, .int .i64 pn, .slice pa pl pc, .slice la ll lc] 38))
  go_enter Try.func24, Try.ntmps24
  go_wp2
  go_loop [3, 4] (fun m i => ∃ k : Nat, k ≤ il ∧ i = .int .i64 k ∧ m = .int .i64 (heldT (d.take k))) (fun _ i => il - (intOf i).toNat)
  case atStart => exact ⟨0, Nat.zero_le _, rfl, rfl⟩
  case round =>
    obtain ⟨k, hk, rfl, rfl⟩ := hrel
    by_cases hlt : k < il
    · obtain ⟨hxl, hml, hx⟩ := h0
      obtain ⟨g, o, rfl, _, hr⟩ := hx.resolve_left (by omega)
      obtain ⟨x, hxk⟩ : ∃ x, d[k]? = some x := ⟨_, List.getElem?_eq_getElem (by omega)⟩
      obtain ⟨qa, ql, qc, c0, c1, c2, hqi, _⟩ := hr k _ hxk
      clear hx hr hqi h
      have hbd := heldT_bd (d.take k)
      have hbl : (d.take k).length ≤ k := List.length_take_le _ _
      have hsn := heldT_snoc hxk
      clear hxk
      obtain ⟨q, ma, hd⟩ := x
      cases hd
      · have HS : Hid (heldT (d.take (k + 1)) = heldT (d.take k)) := hide (by simpa using hsn)
        clear hsn
        generalize heldT (d.take k) = lo at *
        go_wp2
        go_round
        case rel => exact ⟨k + 1, by omega, by go_num, by first | (rw [HS.out]; done) | (rw [HS.out]; go_num)⟩
        case measure => simp [intOf]; omega
      · have HS : Hid (heldT (d.take (k + 1)) = heldT (d.take k) + 1) := hide (by simpa using hsn)
        clear hsn
        generalize heldT (d.take k) = lo at *
        go_wp2
        go_round
        case rel => exact ⟨k + 1, by omega, by go_num, by first | (rw [HS.out]; done) | (rw [HS.out]; go_num)⟩
        case measure => simp [intOf]; omega
    · obtain rfl : k = il := by omega
      have HE : Hid (heldT (d.take k) = heldT d) := by rw [List.take_of_length_le (by have := h.1; omega)]; exact rfl
      generalize heldT (d.take k) = lo at *
      go_wp2
      go_ret
      exact ⟨ret_i HE.out, (by repeat (first | (with_reducible exact Below.refl _ _) | (with_reducible assumption) | (with_reducible refine bel_set ?_ (by first | (simp; done) | (simp; omega)) _) | (with_reducible refine bel_alloc ?_ _) | (with_reducible refine bel_drew ?_) | (with_reducible refine bel_drewN ?_ _) | (with_reducible refine bel_trans ?_ (by with_reducible assumption))))⟩

set_option maxRecDepth 20000 in
set_option maxHeartbeats 1000000 in
theorem implheldn_any (ia : Option Addr) (il ic : Nat) (om : Int) (oa : Option Addr) (ol oc : Nat) (wl pn : Int) (pa : Option Addr) (pl pc : Nat) (la : Option Addr) (ll lc : Nat) (B : Nat) (d : List TiD) (w : World) (h : TiRs w B ia il d) : Calls Try.prog 25 #[.agg #[.slice ia il ic, .int .i64 om, .slice oa ol oc, .int .i64 wl, .int .i64 pn, .slice pa pl pc, .slice la ll lc]] w fun e w' => e = .returned (.int .i64 (heldT d)) ∧ Below w.heap.size w w' := by
  have hm := h.2.1
  unfold maxLen at hm
  have h0 := h.below (bel_one w (.cells #[.slice ia il ic, .int .i64 om, .slice oa ol oc, .int .i64 wl, .int .i64 pn, .slice pa pl pc, .slice la ll lc] 38))
  go_enter Try.func25, Try.ntmps25
  go_wp2
  go_loopw [3, 9] (fun m i wr => ∃ k : Nat, k ≤ il ∧ i = .int .i64 k ∧ m = .int .i64 (heldT (d.take k)) ∧ Below (w.alloc (.cells #[.slice ia il ic, .int .i64 om, .slice oa ol oc, .int .i64 wl, .int .i64 pn, .slice pa pl pc, .slice la ll lc] 38)).heap.size (w.alloc (.cells #[.slice ia il ic, .int .i64 om, .slice oa ol oc, .int .i64 wl, .int .i64 pn, .slice pa pl pc, .slice la ll lc] 38)) wr) (fun _ i _ => il - (intOf i).toNat)
  case atStart => exact ⟨0, Nat.zero_le _, rfl, rfl, Below.refl _ _⟩
  case round =>
    obtain ⟨k, hk, rfl, rfl, hbw⟩ := hrel
    by_cases hlt : k < il
    · obtain ⟨hxl, hml, hx⟩ := h0
      obtain ⟨g, o, rfl, _, hr⟩ := hx.resolve_left (by omega)
      obtain ⟨x, hxk⟩ : ∃ x, d[k]? = some x := ⟨_, List.getElem?_eq_getElem (by omega)⟩
      obtain ⟨qa, ql, qc, c0, c1, c2, hqi, _⟩ := (hr k _ hxk).below hbw
      clear hx hr hqi h
      have hbd := heldT_bd (d.take k)
      have hbl : (d.take k).length ≤ k := List.length_take_le _ _
      have hsn := heldT_snoc hxk
      clear hxk
      obtain ⟨q, ma, hd⟩ := x
      cases hd
      · have HS : Hid (heldT (d.take (k + 1)) = heldT (d.take k)) := hide (by simpa using hsn)
        clear hsn
        generalize heldT (d.take k) = lo at *
        go_wp2
        go_roundw
        case rel => exact ⟨k + 1, by omega, by go_num, by first | (rw [HS.out]; done) | (rw [HS.out]; go_num), (by repeat (first | (with_reducible exact Below.refl _ _) | (with_reducible assumption) | (with_reducible refine bel_set ?_ (by first | (simp; done) | (simp; omega)) _) | (with_reducible refine bel_alloc ?_ _) | (with_reducible refine bel_drew ?_) | (with_reducible refine bel_drewN ?_ _) | (with_reducible refine bel_trans ?_ (by with_reducible assumption))))⟩
        case measure => simp [intOf]; omega
      · have HS : Hid (heldT (d.take (k + 1)) = heldT (d.take k) + 1) := hide (by simpa using hsn)
        clear hsn
        generalize heldT (d.take k) = lo at *
        go_wp2
        go_roundw
        case rel => exact ⟨k + 1, by omega, by go_num, by first | (rw [HS.out]; done) | (rw [HS.out]; go_num), (by repeat (first | (with_reducible exact Below.refl _ _) | (with_reducible assumption) | (with_reducible refine bel_set ?_ (by first | (simp; done) | (simp; omega)) _) | (with_reducible refine bel_alloc ?_ _) | (with_reducible refine bel_drew ?_) | (with_reducible refine bel_drewN ?_ _) | (with_reducible refine bel_trans ?_ (by with_reducible assumption))))⟩
        case measure => simp [intOf]; omega
    · obtain rfl : k = il := by omega
      have HE : Hid (heldT (d.take k) = heldT d) := by rw [List.take_of_length_le (by have := h.1; omega)]; exact rfl
      generalize heldT (d.take k) = lo at *
      go_wp2
      go_ret
      exact ⟨ret_i HE.out, (by repeat (first | (with_reducible exact Below.refl _ _) | (with_reducible assumption) | (with_reducible refine bel_set ?_ (by first | (simp; done) | (simp; omega)) _) | (with_reducible refine bel_alloc ?_ _) | (with_reducible refine bel_drew ?_) | (with_reducible refine bel_drewN ?_ _) | (with_reducible refine bel_trans ?_ (by with_reducible assumption))))⟩
end Go.Proofs.Ytppdfmclhklkhaa
