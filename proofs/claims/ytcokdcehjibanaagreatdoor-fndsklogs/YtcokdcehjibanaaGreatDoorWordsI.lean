/- Proved here: the number that a word is, in the specification; the numbers of words, in the program. -/
import Derived.Test.YtcokdcehjibanaaGreatDoorWordsS
import Derived.Test.YtcokdcehjibanaaGreatDoorWinRead
import Derived.Test.YtcokdcehjibanaaGreatDoorReadImpl
namespace Go.Proofs.YtcokdcehjibanaaGreatDoor
open Go.ChangeShapes Go.WideShapes Go.ChangeAt Go.RowKit
set_option linter.unusedVariables false


/-- The number that the k-th word is; 0, if it is none. -/
def atN (L : List ByteArray) (k : Nat) : Int := match L[k]? with
  | some x => (num1 x.data.toList).1
  | none => 0
theorem stL_at {L : List ByteArray} {k : Nat} {x : ByteArray} (h : L[k]? = some x) : (stL L)[k]? = some ⟨x⟩ := by simp [stL, h]
theorem st_cell {W : World} {g o n : Nat} {L : List ByteArray} (h : StRs W (some ⟨g, o, none⟩) n (stL L)) {k : Nat} {x : ByteArray} (hx : L[k]? = some x) : W.cell? ⟨g, o + k, none⟩ = some (.string x) := by
  obtain ⟨h1, h2, h3⟩ := h
  have hk := (List.getElem?_eq_some_iff.1 hx).1
  have hl := stL_len L
  rcases h3 with h3 | ⟨g', o', e, hr⟩
  · omega
  · simp only [Option.some.injEq, Addr.mk.injEq] at e
    obtain ⟨rfl, rfl, _⟩ := e
    have := hr k ⟨x⟩ (stL_at hx)
    simpa [StRAt] using this

set_option maxRecDepth 20000 in
theorem l1at_any (a : Option Addr) (n cap : Nat) (L : List ByteArray) (k : Nat) (w : World) (h : StRs w a n (stL L)) (hx : ∀ x ∈ L, x.size ≤ 100) (hk : k ≤ 10) : Calls Tryz.prog 38 #[.slice a n cap, .int .i64 (k : Int)] w fun e w' => e = .returned (.int .i64 (atN L k)) ∧ w' = w := by
  have hn : L.length = n := by rw [← stL_len]; exact h.1
  by_cases hlt : k < n
  · obtain ⟨x, hxk⟩ : ∃ x, L[k]? = some x := ⟨_, List.getElem?_eq_getElem (by omega)⟩
    have hN : atN L k = (num1 x.data.toList).1 := by simp [atN, hxk]
    obtain ⟨g, o, rfl, _⟩ := h.2.2.resolve_left (by omega)
    have hc := st_cell h hxk
    have hsz := hx x (List.mem_of_getElem? hxk)
    obtain ⟨N, b, hNb⟩ : ∃ N b, num1 x.data.toList = (N, b) := ⟨_, _, rfl⟩
    rw [hN, hNb]
    have hle : ¬ (n : Int) ≤ (k : Int) := by omega
    clear hN hxk hn h hx
    go_enter Tryz.func38, Tryz.ntmps38
    go_wp2_with fail
    refine (number_at hNb _ (by omega)).mono ?_
    rintro e w' ⟨rfl, hw⟩
    obtain rfl := hw.symm
    clear hw
    go_wp2
    go_ret
    exact ⟨rfl, rfl⟩
  · have hN : atN L k = 0 := by
      have : L[k]? = none := List.getElem?_eq_none (by omega)
      simp [atN, this]
    have hle : (n : Int) ≤ (k : Int) := by omega
    rw [hN]
    clear hN hn h hx
    go_enter Tryz.func38, Tryz.ntmps38
    go_wp2
    go_ret
    exact ⟨rfl, rfl⟩

theorem Tryz.infoIntW : (Tryz.prog.info? 3).map (fun i => (i.zero, i.size, i.bytes)) = some (some (.int .i64 0), 1, 8) := by kernel_rfl
def OwnI (W : World) (B : Nat) (v : Value) (ns : List Int) : Prop := W.ownsRow B 3 1 v ns.length (ns.map fun z => .int .i64 z)
theorem cell_1 (w : World) (u : Value) (ty : Nat) : ∀ j x, ([u] : List Value)[j]? = some x → (w.alloc (.cells #[u] ty)).cell? ((⟨w.heap.size, 0, none⟩ : Addr).add j) = some x := by
  intro j x hx
  cases j with
  | zero => simp at hx; subst hx; simp [go_sem, Addr.add]
  | succ j => simp at hx
theorem own_upI {W W' : World} {B : Nat} {v : Value} {ns : List Int} (h : OwnI W B v ns) (hb : Below W.heap.size W W') : OwnI W' B v ns := by
  rcases h with ⟨hl, h | ⟨g, cap, cur, rfl, hB, hblk, r⟩⟩
  · exact ⟨hl, Or.inl h⟩
  · exact ⟨hl, Or.inr ⟨g, cap, cur, rfl, hB, (hb.block g (Array.getElem?_eq_some_iff.1 hblk).1).trans hblk, r⟩⟩
theorem own_geI {W : World} {B : Nat} {v : Value} {ns : List Int} (h : OwnI W B v ns) : ∀ k, v.ownBlock = some k → B ≤ k := fun k hk => (World.ownsRow.lt h k hk).1
/-- Numbers of words: all of them, or one word is none. -/
def NumsP (L : List ByteArray) (w : World) (e : Ending) (w' : World) : Prop := ∃ (v : Value) (ns : List Int) (b : Bool), e = .returned (.tuple #[v, .bool b]) ∧ OwnI w' w.heap.size v ns ∧ (b = true → ns.length = L.length ∧ ∀ (i : Nat) (x : ByteArray) (n : Int), L[i]? = some x → ns[i]? = some n → RdP x n true) ∧ (b = false → ∃ x ∈ L, ∃ n, RdP x n false) ∧ Below w.heap.size w w'

set_option linter.unusedSimpArgs false in
set_option maxRecDepth 20000 in
set_option maxHeartbeats 2000000 in
theorem readnums_any {tp1 tp2 : TypeId} {p1 p2 : Value} {m : Int} (a : Option Addr) (n cap : Nat) (L : List ByteArray) (w : World) (hE : Env tp1 tp2 p1 p2 m w) (h : StRs w a n (stL L)) (hx : ∀ x ∈ L, x.size ≤ 100) (hnl : n ≤ 101) : Calls Tryz.prog 46 #[.slice a n cap] w fun e w' => NumsP L w e w' := by
  obtain ⟨i0, hi, hz0, hz1, hz2⟩ := info_parts Tryz.infoIntW
  have hn : L.length = n := by rw [← stL_len]; exact h.1
  have HE := hide hE
  have HX := hide hx
  clear hE hx
  go_enter Tryz.func46, Tryz.ntmps46
  go_wp2
  go_loopw [4, 11] (fun nv iv wr => ∃ (j : Nat) (ns : List Int), j ≤ n ∧ iv = .int .i64 j ∧ Hid (OwnI wr w.heap.size nv ns) ∧ ns.length ≤ j ∧ Hid (ns.length = j ∧ ∀ (i : Nat) (x : ByteArray) (k : Int), L[i]? = some x → ns[i]? = some k → RdP x k true) ∧ Below w.heap.size w wr) (fun _ i _ => n - (intOf i).toNat)
  case atStart => exact ⟨0, [], Nat.zero_le _, rfl, hide (World.ownsRow_nil _ _ _ _), Nat.le_refl _, hide ⟨rfl, fun i x k _ h => by simp at h⟩, Below.refl _ _⟩
  case round =>
    obtain ⟨j, ns, hj, rfl, HO, hnsl, HN, hbw⟩ := hrel
    have zwr := hbw.size
    by_cases hlt : j < n
    · obtain ⟨x, hxk⟩ : ∃ x, L[j]? = some x := ⟨_, List.getElem?_eq_getElem (by omega)⟩
      obtain ⟨g, o, rfl, _⟩ := h.2.2.resolve_left (by omega)
      have hc : wr.cell? ⟨g, o + j, none⟩ = some (.string x) := st_cell (h.below hbw) hxk
      have hsz := unhide HX x (List.mem_of_getElem? hxk)
      have hxm := hide (List.mem_of_getElem? hxk)
      have hXK := hide hxk
      clear hxk h
      go_wp2_with fail
      refine (rn_any ((unhide HE).bel hbw) (by omega)).mono ?_
      rintro e w2 ⟨k, b, rfl, hR, hb2⟩
      have HR := hide hR
      clear hR hc
      have hbw2 : Below w.heap.size w w2 := bel_trans hbw hb2
      have z2 := hb2.size
      cases b with
      | false =>
        go_wp2
        refine bodyPost_ret (v := .tuple #[.slice none 0 0, .bool false]) (by simp (maxDischargeDepth := 9) [results, Tryz.results46, go_sem, *]) rfl ?_
        exact ⟨_, [], false, rfl, World.ownsRow_nil _ _ _ _, (fun h => by cases h), (fun _ => ⟨x, unhide hxm, k, unhide HR⟩), hbw2⟩
      | true =>
        have HO1 : Hid (OwnI w2 w.heap.size u4 ns) := hide (own_upI (unhide HO) hb2)
        have hge := hide (own_geI (unhide HO1))
        go_wp2_with (at_builtin; go_loud (refine wpList_append_own _ rfl _ _ 58 rfl w.heap.size 3 i0 _ 1 8 Tryz.underlying58 hi hz0 hz1 hz2 rfl (by decide) u4 _ _ rfl (World.ownsRow.alloc (unhide HO1) _) ⟨w2.heap.size, 0, none⟩ 1 1 [.int .i64 k] rfl rfl (cell_1 w2 _ _) (by simp [Value.oneCell']) (by unfold maxLen; omega) (by omega) (by simp; omega) ?_); intro v' w3 hown' hgrow _)
        have hb3 := (hbw2.alloc (by omega) _).grown hgrow (by simp; omega) (unhide hge)
        have HO2 : Hid (OwnI w3 w.heap.size v' (ns ++ [k])) := hide (by unfold OwnI; simpa using hown')
        clear hown'
        refine ⟨⟨j + 1, ns ++ [k], by omega, by first | rfl | (simp; done), HO2, by simp; omega, hide ⟨by simp [(unhide HN).1], fun i y q hy hq => ?_⟩, hb3⟩, ?_⟩
        · by_cases hi9 : i < ns.length
          · rw [List.getElem?_append_left hi9] at hq
            exact (unhide HN).2 i y q hy hq
          · have hie : i = j := by
              have := (List.getElem?_eq_some_iff.1 hq).1
              have := (unhide HN).1
              simp at *
              omega
            subst hie
            rw [unhide hXK] at hy
            cases hy
            rw [List.getElem?_append_right (by omega), (unhide HN).1, Nat.sub_self] at hq
            simp at hq
            subst hq
            exact unhide HR
        · simp [intOf]; omega
    · have hje : j = n := by omega
      have HL : Hid (ns.length = L.length) := hide (by have := (unhide HN).1; omega)
      clear hje
      go_wp2
      refine bodyPost_ret (v := .tuple #[u4, .bool true]) (by simp (maxDischargeDepth := 9) [results, Tryz.results46, go_sem, *]) rfl ?_
      exact ⟨_, ns, true, rfl, unhide HO, fun _ => ⟨unhide HL, (unhide HN).2⟩, (fun h => by cases h), hbw⟩
end Go.Proofs.YtcokdcehjibanaaGreatDoor
