/- Proved here: a slice of texts that came in: read, copied, and how long it all is. -/
import Derived.Test.YtcokdcehjibanaaDoorRwStr2
import Derived.Test.YtcokdcehjibanaaDoorOwnB
import Derived.Test.YtcokdcehjibanaaDoorWordsS
import Derived.ChangeArms
namespace Go.Proofs.YtcokdcehjibanaaDoor
open Go.ChangeShapes Go.WideShapes Go.ChangeAt Go.RowKit Go.Deep
set_option linter.unusedVariables false
set_option linter.unusedSimpArgs false

section
variable {H : Type} {enc : TypeId × Value → H} {P : Program} {w : World} {base : Nat} {spare : Nat → Bool} {held : Bool}

theorem openSt {t e : TypeId} {a : Option Addr} {len cap : Nat} {d : DataW H} {p : List MemPlace} (ht : P.underlying t = some (.slice e)) (he : P.underlying e = some .string) (hC : P.cellsOf e = 1)
    (h : DataW.Trod enc P w base spare held t (.slice a len cap) d p) : ∃ L : List ByteArray, StRs w a len (stL L) ∧ ∀ x ∈ L, x.size ≤ maxLen := by
  obtain ⟨fuel, hf⟩ := h
  rcases open_slice ht hf with ⟨hcs, _⟩ | ⟨a', len', cap', m, n, D, Pl, hcs, _, hl, hm, hmm, _, hx⟩
  · simp [Value.cells] at hcs
    obtain ⟨rfl, rfl, rfl⟩ := hcs
    exact ⟨[], ⟨rfl, Nat.zero_le _, Or.inl rfl⟩, by simp⟩
  · simp [Value.cells] at hcs
    obtain ⟨rfl, rfl, rfl⟩ := hcs
    have hlm : len ≤ m := by rw [hmm]; split <;> omega
    have hall : ∀ i, i < len → ∃ z : ByteArray, (i = 0 → a'.spot = none) ∧ w.cell? ⟨a'.block, a'.off + i, none⟩ = some (.string z) ∧ z.size ≤ maxLen := by
      intro i hi
      obtain ⟨cs', h1, h2⟩ := hx i (by omega)
      rw [hC] at h1
      obtain ⟨z, rfl, _, hw⟩ := DataW.trod_string he h2
      obtain ⟨_, _, hc⟩ := World.cells?_some h1
      have c0 := hc 0 (by omega)
      have hsp : (a'.add (i * 1)).spot = none := World.cell?_spot (w := w) (a := a'.add (i * 1)) (v := .string z) (by simpa [Addr.add] using c0)
      have ha : a'.add (i * 1) = ⟨a'.block, a'.off + i, none⟩ := by
        cases a' with
        | mk g o sp =>
          simp only [Addr.add] at hsp ⊢
          split at hsp <;> simp_all
      refine ⟨z, fun h0 => ?_, ?_, hw⟩
      · subst h0
        simpa [Addr.add] using hsp
      · rw [← ha]
        simpa [Addr.add] using c0
    by_cases h0 : len = 0
    · subst h0
      exact ⟨[], ⟨rfl, Nat.zero_le _, Or.inl rfl⟩, by simp⟩
    have hinh : Inhabited ByteArray := ⟨⟨#[]⟩⟩
    obtain ⟨f, hf'⟩ := choose_lt hall
    have hsp := (hf' 0 (by omega)).1 rfl
    refine ⟨(List.range len).map f, ⟨by simp [stL], by omega, Or.inr ⟨a'.block, a'.off, by cases a'; simp_all, ?_⟩⟩, ?_⟩
    · intro i x hix
      simp only [stL, List.map_map, List.getElem?_map, Option.map_eq_some_iff] at hix
      obtain ⟨j, hj, rfl⟩ := hix
      have hil : i < len := by
        rcases Nat.lt_or_ge i len with h' | h'
        · exact h'
        · rw [List.getElem?_eq_none (by simpa using h')] at hj; cases hj
      rw [List.getElem?_eq_getElem (by simpa using hil)] at hj
      simp at hj
      subst hj
      have := (hf' i hil).2.1
      show w.cell? ⟨a'.block, a'.off + i * 1, none⟩ = _
      rw [Nat.mul_one]; exact this
    · intro x hxm
      simp only [List.mem_map, List.mem_range] at hxm
      obtain ⟨i, hi, rfl⟩ := hxm
      exact (hf' i hi).2.2
end
theorem st_at {W : World} {g o n : Nat} {L : List ByteArray} (h : StRs W (some ⟨g, o, none⟩) n (stL L)) {k : Nat} {x : ByteArray} (hx : L[k]? = some x) : W.cell? ⟨g, o + k, none⟩ = some (.string x) ∧ g < W.heap.size := by
  have hk := (List.getElem?_eq_some_iff.1 hx).1
  have hn : n = L.length := by have := h.1; rw [stL_len] at this; omega
  have hlt := h.lt (by omega)
  obtain ⟨_, _, h3⟩ := h
  obtain ⟨g', o', ha, hr⟩ := h3.resolve_left (by omega)
  simp at ha
  obtain ⟨rfl, rfl⟩ := ha
  have h1 : (stL L)[k]? = some ⟨x⟩ := by simp [stL, hx]
  have h2 := hr k _ h1
  unfold StRAt at h2
  rw [Nat.mul_one] at h2
  exact ⟨h2, hlt⟩
theorem mkSt (len : Nat) (hl : len ≤ 1048576) : ∃ C : Array Value, C.size = len * 1 ∧ ∀ w : World, (Instr.makeSlice 22 (.int .i64 (len : Int)) (.int .i64 (len : Int))).run Tryd.prog w = .ok (.slice (some ⟨w.heap.size, 0, none⟩) len len) (w.alloc (.cells C 9)) := by
  obtain ⟨i0, hi, hz0, hz1, hz2⟩ := info_parts Tryd.infoStrW
  refine ⟨madeCells (Value.string ⟨#[]⟩).cells (len * i0.size), by rw [size_madeCells, hz1], fun w => ?_⟩
  have h := run_make (P := Tryd.prog) w 22 9 i0 _ Tryd.underlying22 hi hz0 .i64 .i64 len len (by omega) (Int.le_refl _) (by rw [hz2]; omega) (by omega)
  simpa using h

set_option maxRecDepth 20000 in
set_option maxHeartbeats 1000000 in
theorem toSt_any (a : Option Addr) (len cap : Nat) (xs : List StR) (w : World) (h : StRs w a len xs) (hl : len ≤ 1048576) : Calls Tryd.prog 6 #[.slice a len cap] w fun e w' => ∃ a', e = .returned (.slice a' len len) ∧ StRs w' a' len xs ∧ WrSt w' a' len len ∧ (∀ g o, 0 < len → a' = some ⟨g, o, none⟩ → w.heap.size ≤ g) ∧ Below w.heap.size w w' := by
  obtain ⟨C, hC, hmk⟩ := mkSt len hl
  go_enter Tryd.func6, Tryd.ntmps6
  go_wp2
  go_loopw [4] (fun i wr => ∃ k : Nat, k ≤ len ∧ i = .int .i64 k ∧ BlkSt wr w.heap.size 9 len ∧ (∀ (i : Nat) (x : StR), i < k → xs[i]? = some x → StRAt wr w.heap.size (i * 1) x) ∧ Below w.heap.size w wr) (fun i _ => len - (intOf i).toNat)
  case atStart => exact ⟨0, Nat.zero_le _, rfl, ⟨C, by show (w.heap.push _)[w.heap.size]? = _; simp, hC⟩, fun i x hi => absurd hi (by omega), bel_one _ _⟩
  case round =>
    obtain ⟨k, hk, rfl, hB, hF, hbw⟩ := hrel
    by_cases hlt : k < len
    · obtain ⟨hxl, hml, hx⟩ := h
      obtain ⟨g, o, rfl, hr⟩ := hx.resolve_left (by omega)
      obtain ⟨x, hxk⟩ : ∃ x, xs[k]? = some x := ⟨_, List.getElem?_eq_getElem (by omega)⟩
      have hg : g < w.heap.size := hr.lt (by omega)
      have hX := hide hxk
      have HF := hide hF
      have HB := hide hB
      have c0 : wr.cell? ⟨g, o + k, none⟩ = some (.string x.s) := by have := (hr k _ hxk).below hbw hg; rw [Nat.mul_one] at this; exact this
      obtain ⟨u, d0⟩ := hB.cell (i := k) (by omega)
      have f0 := hB.frozen (i := k)
      have hz := hB.lt
      have hltI : (k : Int) < (len : Int) := by omega
      clear hx hxk hr hF
      go_wp2
      go_roundw
      case rel =>
        refine ⟨k + 1, by omega, by go_num, (unhide HB).set _, fun i y hi hy => ?_, hbw.setCell (Nat.le_refl _) _⟩
        by_cases he : i = k
        · subst he
          rw [unhide hX] at hy
          cases hy
          have h9 := setSt_this (unhide HB) hlt x
          rw [Nat.mul_one] at h9 ⊢
          exact h9
        · have h9 := setSt_ne (x := x) (k := k) (unhide HF i y (by omega) hy) he
          rw [Nat.mul_one, Nat.mul_one] at h9
          rw [Nat.mul_one]; exact h9
      case measure => simp [intOf]; omega
    · go_wp2
      go_ret
      refine ⟨_, rfl, ⟨h.1, h.2.1, Or.inr ⟨_, 0, rfl, fun i x hx => ?_⟩⟩, Or.inr ⟨_, rfl, hB, Nat.le_refl _⟩, fun g o _ e => by simp at e; omega, hbw⟩
      have hi : i < xs.length := (List.getElem?_eq_some_iff.1 hx).1
      rw [Nat.zero_add]
      exact hF i x (by have := h.1; omega) hx

/-- How long it all is: what is left is not below 0 only where each text, and their number, is small. -/
def SzSt (L : List ByteArray) (w : World) (e : Ending) (w' : World) : Prop := ∃ r : Int, e = .returned (.int .i64 r) ∧ w' = w ∧ (r < 0 ∨ (0 ≤ r ∧ L.length ≤ 1048576 ∧ ∀ x ∈ L, x.size ≤ 1048576))
set_option maxRecDepth 20000 in
set_option maxHeartbeats 1000000 in
theorem szSt_any (a : Option Addr) (len cap : Nat) (L : List ByteArray) (w : World) (h : StRs w a len (stL L)) (hs : ∀ x ∈ L, x.size ≤ maxLen) : Calls Tryd.prog 4 #[.slice a len cap, .int .i64 1048576] w fun e w' => SzSt L w e w' := by
  have hm := h.2.1
  unfold maxLen at hm hs
  have hll : L.length = len := by have := h.1; rw [stL_len] at this; exact this
  by_cases hbig : len ≤ 1048576
  · have w0 : IntKind.i64.wrap (1048576 - (len : Int)) = 1048576 - len := IntWalk.i64_in _ ⟨by omega, by omega⟩
    go_enter Tryd.func4, Tryd.ntmps4
    go_wp2
    go_loopw [1, 5] (fun lv i wr => ∃ (k : Nat) (lf : Int), k ≤ len ∧ i = .int .i64 k ∧ lv = .int .i64 lf ∧ (0 ≤ lf ∧ lf ≤ 1048576) ∧ Hid (∀ x ∈ L.take k, x.size ≤ 1048576) ∧ wr = w) (fun _ i _ => len - (intOf i).toNat)
    case atStart => exact ⟨0, _, Nat.zero_le _, rfl, rfl, ⟨by omega, by omega⟩, hide (by simp), rfl⟩
    case round =>
      obtain ⟨k, lf, hk, rfl, rfl, hlf, hA, rfl⟩ := hrel
      by_cases hlt : k < len
      · obtain ⟨x, hxk⟩ : ∃ x, L[k]? = some x := ⟨_, List.getElem?_eq_getElem (by omega)⟩
        obtain ⟨g, o, rfl⟩ : ∃ g o, a = some ⟨g, o, none⟩ := by
          obtain ⟨g, o, ha, _⟩ := h.2.2.resolve_left (by omega)
          exact ⟨g, o, ha⟩
        have c0 := (st_at h hxk).1
        have hxs := hs x (List.mem_of_getElem? hxk)
        have w1 : IntKind.i64.wrap (lf - (x.size : Int)) = lf - x.size := IntWalk.i64_in _ ⟨by omega, by omega⟩
        have HX := hide hxk
        clear hxk h hs
        by_cases hneg : lf - (x.size : Int) < 0
        · go_wp2
          go_ret
          exact ⟨-1, rfl, rfl, Or.inl (by omega)⟩
        · go_wp2
          go_roundw
          case rel =>
            refine ⟨k + 1, _, by omega, by go_num, rfl, ⟨by omega, by omega⟩, hide ?_, (by first | trivial | rfl)⟩
            intro y hy
            rw [List.take_add_one, unhide HX] at hy
            rcases List.mem_append.1 hy with hy | hy
            · exact unhide hA y hy
            · have : y = x := by simpa using hy
              subst this
              omega
          case measure => simp [intOf]; omega
      · go_wp2
        go_ret
        refine ⟨_, rfl, rfl, Or.inr ⟨hlf.1, by omega, fun x hx => unhide hA x ?_⟩⟩
        rw [List.take_of_length_le (by omega)]; exact hx
  · have w0 : IntKind.i64.wrap (1048576 - (len : Int)) = 1048576 - len := IntWalk.i64_in _ ⟨by omega, by omega⟩
    go_enter Tryd.func4, Tryd.ntmps4
    go_wp2
    go_ret
    exact ⟨-1, rfl, rfl, Or.inl (by omega)⟩
end Go.Proofs.YtcokdcehjibanaaDoor
