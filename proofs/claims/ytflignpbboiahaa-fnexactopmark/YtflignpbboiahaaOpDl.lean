/- Proved here: rows that are over for late records, too, are taken out of the map. -/
import Derived.Test.YtflignpbboiahaaOpGa
import Derived.Maps.RangeWalk
namespace Go.Proofs.Ytflignpbboiahaa
open Go.ChangeShapes Go.WideShapes Go.ChangeAt Go.RowKit Go.Shelf Go.Maps
set_option linter.unusedVariables false

set_option linter.unusedSimpArgs false
set_option maxRecDepth 20000 in
set_option maxHeartbeats 2000000 in
theorem shut1_is (Bo Q : Nat) (s t k z q l e : Int) (b : Bool) (v r m : Int) (mb : Nat) (pv lv : Value) (ky st en : Int) (c : Value) (w : World) (hO : w.heap[Bo]? = some (.cells #[.int .i64 s, .int .i64 t, .int .i64 k, .int .i64 z, .int .i64 q, .int .i64 l, .int .i64 e, .bool b, .int .i64 v, .int .i64 r, .int .i64 m, .map (some (mb)), pv, lv] 54 (0, 0))) (hQ : w.heap[Q]? = some (.cells #[.pointer (some ⟨Bo, 0, none⟩)] 47 (0, 0))) (hb : -1000 ≤ en ∧ en ≤ 1000 ∧ 0 ≤ l ∧ l ≤ 20) {o : Bool} (ho : Hid (shutB l m en = o)) : Calls Try.prog 57 #[.agg #[.int .i64 ky, .int .i64 st, .int .i64 en], c, .pointer (some ⟨Q, 0, none⟩)] w fun e' w' => e' = .returned (.bool o) ∧ Below w.heap.size w w' := by
  have hQs : Q < w.heap.size := (Array.getElem?_eq_some_iff.1 hQ).1
  have cQ : w.cell? ⟨Q, 0, none⟩ = some (.pointer (some ⟨Bo, 0, none⟩)) := Joins.cell_of_block hQ 0
  have hOa := (Below.heap_alloc w (.cells #[.int .i64 ky, .int .i64 st, .int .i64 en] 80) Bo (Array.getElem?_eq_some_iff.1 hO).1).trans hO
  have hi := hide (isshut_any Bo s t k z q l e b v r m mb pv lv st en _ hOa hb)
  rw [unhide ho] at hi
  clear hOa hO hQ
  go_enter Try.func57, Try.ntmps57
  go_wp2_with fail
  refine (unhide hi).mono ?_
  rintro e' w2 ⟨rfl, hb2⟩
  go_wp2
  go_ret
  exact ⟨rfl, bel_trans (bel_one _ _) hb2⟩
theorem OpD.congr {D : DataW Value} {m m' : P3 → Option Value} (h : OpD Try.prog 80 v3 ok3 DataW.held D m) (he : ∀ q, ok3 q → m q = m' q) : OpD Try.prog 80 v3 ok3 DataW.held D m' := fun q hq kl hkl => by
  have h9 := h q hq kl hkl
  rw [he q hq] at h9
  exact h9
theorem OpD.del {D : DataW Value} {m : P3 → Option Value} (h : OpD Try.prog 80 v3 ok3 DataW.held D m) (x : P3) {kl : Lit} (hkl : keyOf Try.prog 80 (v3 x) = some kl) : OpD Try.prog 80 v3 ok3 DataW.held (D.del kl) (fun q => if q = x then none else m q) := fun q hq kq hkq => by
  by_cases e : q = x
  · subst e
    rw [hkl] at hkq
    cases hkq
    simp only [if_true]
    exact ⟨fun a' ha' => (by cases ha'), fun _ => has_del_same⟩
  · have hne : kq ≠ kl := fun e' => e (inj3 _ _ (key3.inj (by rw [← e']; exact hkq) hkl))
    simp only [if_neg e]
    obtain ⟨f1, f2⟩ := h q hq kq hkq
    exact ⟨fun a' ha' zd => by rw [atKey_del_other hne]; exact f1 a' ha' zd, fun h9 => by rw [has_del_other hne]; exact f2 h9⟩
theorem same_of {q x : P3} {kq kl : Lit} (hkq : keyOf Try.prog 80 (v3 q) = some kq) (hkl : keyOf Try.prog 80 (v3 x) = some kl) : kq.sameKey kl = decide (q = x) := by
  by_cases e : q = x
  · subst e
    rw [hkl] at hkq
    cases hkq
    simp [WideAt.sameKey_self (key3.key hkl)]
  · have hne : kq ≠ kl := fun e' => e (inj3 _ _ (key3.inj (by rw [← e']; exact hkq) hkl))
    cases h9 : kq.sameKey kl with
    | false => simp [e]
    | true => exact absurd (WideAt.sameKey_eq h9) hne

set_option maxRecDepth 100000 in
set_option maxHeartbeats 4000000 in
theorem deletef_any (Bo Q nn : Nat) (s t k z q l e : Int) (b : Bool) (v r m : Int) (mb : Nat) (pv lv : Value) (m0 : P3 → Option Value) (w : World) (hO : w.heap[Bo]? = some (.cells #[.int .i64 s, .int .i64 t, .int .i64 k, .int .i64 z, .int .i64 q, .int .i64 l, .int .i64 e, .bool b, .int .i64 v, .int .i64 r, .int .i64 m, .map (some (mb)), pv, lv] 54 (0, 0))) (hQ : w.heap[Q]? = some (.cells #[.pointer (some ⟨Bo, 0, none⟩)] 47 (0, 0))) (hl : 0 ≤ l ∧ l ≤ 20) (hown : OwnsV w mb nn m0) (hbd : ∀ q, ok3 q → m0 q ≠ none → -1000 ≤ q.2.2 ∧ q.2.2 ≤ 1000) :
    Calls Try.prog 56 #[.map (some mb), .func (.func 57) #[] #[.pointer (some ⟨Q, 0, none⟩)]] w fun e' w' => e' = .returned (.tuple #[]) ∧ OwnsV w' mb nn (fun q => if shutB l m q.2.2 = true then none else m0 q) ∧ w.grownBy w' (some mb) := by
  have hneO : Bo ≠ mb := hown.ne_cells hO
  have hneQ : Q ≠ mb := hown.ne_cells hQ
  have zO : Bo < w.heap.size := (Array.getElem?_eq_some_iff.1 hO).1
  have zQ : Q < w.heap.size := (Array.getElem?_eq_some_iff.1 hQ).1
  obtain ⟨D0, hD0, hD1⟩ := hown
  have hst0 : ∀ q, ok3 q → ∀ kl, keyOf Try.prog 80 (v3 q) = some kl → has D0 kl = false → m0 q = none := by
    intro q hq kl hkl hh
    cases hm : m0 q with
    | none => rfl
    | some a => rw [has_true_of_atKey ((hD1 q hq kl hkl).1 a hm)] at hh; cases hh
  go_enter Try.func56, Try.ntmps56
  go_wp2_with (first
    | (at_range; refine wpList_range_own _ rfl _ 51 rfl 80 78 key3 Try.underlying51 _ mb nn _ rfl hD0 ?_; intro w0 hrg0 hg0 hs0)
    | go_in)
  go_frame
  go_loopw [4] (fun _ wr => ∃ (left : Lit → Bool) (cnt : Nat) (D : DataW Value) (mc : P3 → Option Value), wr.ranges Try.prog 80 rdV mb w.heap.size nn D left cnt ∧ OpD Try.prog 80 v3 ok3 DataW.held D mc ∧ (∀ q, ok3 q → ∀ kl, keyOf Try.prog 80 (v3 q) = some kl → mc q = if left kl = true then m0 q else if shutB l m q.2.2 = true then none else m0 q) ∧ w.grownBy wr (some mb))
    (fun _ wr => wr.rangeLeft mb w.heap.size)
  case atStart =>
    refine ⟨_, _, D0, m0, hrg0, hD1, fun q hq kl hkl => ?_, hg0.but _⟩
    cases hh : has D0 kl with
    | true => simp
    | false =>
      rw [hst0 q hq kl hkl hh]
      simp
  case round =>
    obtain ⟨left, cnt, D, mc, hrg, hD, hmc, hgw⟩ := hrel
    go_wp2_with (first
      | (at_next; refine wpList_next_ranges _ rfl _ rfl 80 key3 rdV v3 id (fun key kl hk => by obtain ⟨x, hx, _⟩ := inv3 key kl hk; exact ⟨x, hx⟩) (fun v _ _ => ⟨v, rfl⟩) mb w.heap.size nn _ _ _ rfl hrg ?_ ?_)
      | go_in)
    · intro hc0 hl0
      go_wp2
      go_end0
      refine ⟨rfl, ⟨D, hrg.owns, hD.congr (fun q hq => ?_)⟩, hgw⟩
      obtain ⟨kl, hkl⟩ := some3 q hq
      rw [hmc q hq kl hkl, hl0 kl]
      simp
    · intro xa xb xc c kl yd yp w2 cnt2 hkey hlk hv hat hrg2 hlt hg2 hs2 hen
      obtain ⟨x', ex, hx⟩ := inv3 _ kl hkey
      obtain rfl : (xa, xb, xc) = x' := inj3 _ _ ex
      have hmx : mc (xa, xb, xc) = m0 (xa, xb, xc) := by rw [hmc _ hx kl hkey, hlk]; simp
      have hm0x : m0 (xa, xb, xc) ≠ none := by
        intro h9
        have h8 := (hD _ hx kl hkey).2 (by rw [hmx]; exact h9)
        rw [has_true_of_atKey hat] at h8
        cases h8
      have hbx := hbd _ hx hm0x
      dsimp only at hbx
      have hgw2 := hgw.andThen hg2 (fun j hj => by cases hj; exact Or.inl (Nat.le_refl _))
      have hO2 := (hgw2.block Bo zO (fun e9 => hneO (Option.some.inj e9))).trans hO
      have hQ2 := (hgw2.block Q zQ (fun e9 => hneQ (Option.some.inj e9))).trans hQ
      have hOa := (Below.heap_alloc w2 (.cells #[.int .i64 xa, .int .i64 xb, .int .i64 xc] 80) Bo (Array.getElem?_eq_some_iff.1 hO2).1).trans hO2
      have hQa := (Below.heap_alloc w2 (.cells #[.int .i64 xa, .int .i64 xb, .int .i64 xc] 80) Q (Array.getElem?_eq_some_iff.1 hQ2).1).trans hQ2
      have hgwa : w.grownBy (w2.alloc (.cells #[.int .i64 xa, .int .i64 xb, .int .i64 xc] 80)) (some mb) := hgw2.andThen (World.grownBy_alloc w2 _ none) (fun j hj => by cases hj)
      have hrga := hrg2.alloc (.cells #[.int .i64 xa, .int .i64 xb, .int .i64 xc] 80)
      have hkk : w2.heap.size < (w2.alloc (.cells #[.int .i64 xa, .int .i64 xb, .int .i64 xc] 80)).heap.size := by simp
      obtain ⟨o, ho⟩ : ∃ o, shutB l m xc = o := ⟨_, rfl⟩
      have HO := hide ho
      have hcl := hide (shut1_is Bo Q s t k z q l e b v r m mb pv lv xa xb xc c _ hOa hQa ⟨hbx.1, hbx.2, hl.1, hl.2⟩ HO)
      clear hO2 hQ2 hOa hQa hs2 hv
      simp only [v3, id] at hen
      go_wp2_with fail
      refine (unhide hcl).mono ?_
      rintro e9 w3 ⟨rfl, hb3⟩
      have hrg3 := hrga.kept (grown_of0 hb3) (by simp) (by simp)
      have hgw3 : w.grownBy w3 (some mb) := hgwa.andThen (grown_of0 hb3) (fun j hj => by cases hj)
      have kc0 : w3.cell? ⟨w2.heap.size, 0, none⟩ = some (.int .i64 xa) := (hb3.cell (p := ⟨w2.heap.size, 0, none⟩) hkk).trans (by simp [go_sem])
      have kc1 : w3.cell? ⟨w2.heap.size, 1, none⟩ = some (.int .i64 xb) := (hb3.cell (p := ⟨w2.heap.size, 1, none⟩) hkk).trans (by simp [go_sem])
      have kc2 : w3.cell? ⟨w2.heap.size, 2, none⟩ = some (.int .i64 xc) := (hb3.cell (p := ⟨w2.heap.size, 2, none⟩) hkk).trans (by simp [go_sem])
      clear hcl hen hrga hgwa
      cases o with
      | false =>
        go_wp2
        go_roundw
        case rel =>
          refine ⟨_, cnt2, D, mc, hrg3, hD, fun q9 hq9 k9 hk9 => ?_, hgw3⟩
          rw [hmc q9 hq9 k9 hk9, same_of hk9 hkey]
          by_cases e9 : q9 = (xa, xb, xc)
          · subst e9
            rw [hkey] at hk9
            cases hk9
            simp [hlk, unhide HO]
          · simp [e9]
        case measure => rw [hrg3.left_eq, hrg.left_eq]; exact hlt
      | true =>
        go_wp2_with (first
          | (at_delete; refine wpList_delete_ranges _ rfl _ _ 51 80 rfl 78 key3 Try.underlying51 _ mb w.heap.size nn _ _ _ rfl hrg3 _ kl rfl hkey ?_; intro w4 cnt4 hrg4 hle hturn; go_frame)
          | go_in)
        rw [strike_twice] at hrg4
        go_roundw
        case rel =>
          refine ⟨_, cnt4, _, _, hrg4, hD.del (xa, xb, xc) hkey, fun q9 hq9 k9 hk9 => ?_, hgw3.andThen hturn.grown (fun j hj => by cases hj; exact Or.inr rfl)⟩
          rw [same_of hk9 hkey]
          by_cases e9 : q9 = (xa, xb, xc)
          · subst e9
            simp [unhide HO]
          · rw [if_neg e9, hmc q9 hq9 k9 hk9]
            simp [e9]
        case measure => rw [hrg4.left_eq, hrg.left_eq]; omega
/-- The rows that stay. -/
def sEs (l m : Int) (es : List Ent) : List Ent := es.filter (fun e => !shutB l m e.2.en)
theorem mapE_shut (l m : Int) {es : List Ent} (hr : RiseE es) : (fun q : P3 => if shutB l m q.2.2 = true then none else (mapE es q).map Value.pointer) = fun q => (mapE (sEs l m es) q).map Value.pointer := by
  have hr2 : RiseE (sEs l m es) := List.Pairwise.sublist List.filter_sublist hr
  funext q
  cases hm : mapE es q with
  | none =>
    have h1 : mapE (sEs l m es) q = none := mapE_none (fun e he e9 => by
      have h2 := mapE_mem hr (List.mem_filter.1 he).1
      rw [e9, hm] at h2
      cases h2)
    rw [h1]
    simp
  | some a =>
    obtain ⟨e, he, rfl, rfl⟩ := mapE_some hm
    have e1 : (plO e.2).2.2 = e.2.en := rfl
    rw [e1]
    cases hs : shutB l m e.2.en with
    | true =>
      have h1 : mapE (sEs l m es) (plO e.2) = none := mapE_none (fun e8 he8 e9 => by
        have h2 := List.mem_filter.1 he8
        rw [hr.inj h2.1 he e9, hs] at h2
        simp at h2)
      rw [h1]
      simp
    | false =>
      rw [mapE_mem hr2 (List.mem_filter.2 ⟨he, by simp [hs]⟩)]
      simp

set_option maxRecDepth 100000 in
set_option maxHeartbeats 4000000 in
theorem shut_any (u : FrameMode) (Bo B nn : Nat) (s t k z q l e : Int) (b : Bool) (v r m : Int) (mb : Nat) (pv lv : Value) (es : List Ent) (w : World) (hO : w.heap[Bo]? = some (.cells #[.int .i64 s, .int .i64 t, .int .i64 k, .int .i64 z, .int .i64 q, .int .i64 l, .int .i64 e, .bool b, .int .i64 v, .int .i64 r, .int .i64 m, .map (some (mb)), pv, lv] 54 (0, 0))) (hR : RowsI w B mb nn es) (hl : 0 ≤ l ∧ l ≤ 20) (hrise : RiseE es) (hen : ∀ e ∈ es, -1000 ≤ e.2.en ∧ e.2.en ≤ 1000) :
    CallsDIn Fence.wide 25 Try.prog 40 #[.pointer (some ⟨Bo, 0, none⟩)] u w fun e' u' w' => u' = u ∧ (e' = .returned (.tuple #[]) ∧ RowsI w' B mb nn (sEs l m es) ∧ w.grownBy w' (some mb)) := by
  have zO : Bo < w.heap.size := (Array.getElem?_eq_some_iff.1 hO).1
  have c11 : w.cell? ⟨Bo, 11, none⟩ = some (.map (some mb)) := Joins.cell_of_block hO 11
  have hmf : ∀ (fn : Fn) (first cap : Array Value) (w : World), (Instr.makeFunc fn first cap).run Try.prog w = .ok (.func fn first cap) w := fun _ _ _ _ => rfl
  have hOa := (Below.heap_alloc w (.cells #[.pointer (some ⟨Bo, 0, none⟩)] 47) Bo zO).trans hO
  have hQa : (w.alloc (.cells #[.pointer (some ⟨Bo, 0, none⟩)] 47)).heap[w.heap.size]? = some (.cells #[.pointer (some ⟨Bo, 0, none⟩)] 47 (0, 0)) := World.alloc_heap_new w _
  have hd := hide (deletef_any Bo w.heap.size nn s t k z q l e b v r m mb pv lv _ _ hOa hQa hl (hR.map.bel (bel_one w _)) (fun q9 hq9 h9 => by
    cases hm : mapE es q9 with
    | none => rw [hm] at h9; exact absurd rfl h9
    | some a =>
      obtain ⟨e9, he9, rfl, _⟩ := mapE_some hm
      exact hen e9 he9))
  clear hOa hQa
  refine callsDIn_of_wp Try.func40 rfl trivial ?_ rfl
  simp only [Try.ntmps40, List.size_toArray, List.length_cons, List.length_nil, Nat.reduceAdd, Nat.reduceSub, Array.replicate_succ, Array.replicate_zero, List.push_toArray, List.append_toArray, List.nil_append, List.cons_append]
  gi_wp2_with (refine ⟨trivial, ?_⟩; gi_at_call 56; refine (callsIn_wide.2 (unhide hd)).mono ?_; rintro e' w2 ⟨rfl, hO2, hg2⟩)
  go_end0
  have hg3 : w.grownBy w2 (some mb) := (World.grownBy_alloc w _ (some mb)).andThen hg2 (fun j hj => by cases hj; exact Or.inr rfl)
  rw [mapE_shut l m hrise] at hO2
  refine ⟨rfl, ⟨hO2, fun e9 he9 => ?_, fun e9 he9 => hR.ge e9 (List.mem_filter.1 he9).1, ?_⟩, hg3⟩
  · have b9 := hR.box e9 (List.mem_filter.1 he9).1
    exact (hg3.block _ b9.lt (fun e8 => hR.map.ne_cells b9 (Option.some.inj e8))).trans b9
  · exact List.Nodup.sublist (List.Sublist.map _ List.filter_sublist) hR.nd
end Go.Proofs.Ytflignpbboiahaa
