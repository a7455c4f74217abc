/- Proved here: slices of structs of 5 ints that came in: read as rows, counted, copied into new memory. -/
import Derived.Test.YtbockbdlojkpiaaGreatGenF
import Derived.Test.YtbockbdlojkpiaaGreatRwItm
namespace Go.Proofs.YtbockbdlojkpiaaGreat
open Go.ChangeShapes Go.WideShapes Go.ChangeAt Go.RowKit Go.Deep
set_option linter.unusedVariables false

/-- Each number is an int. -/
def IwR.ok64 (x : IwR) : Prop := (-9223372036854775808 ≤ x.kd ∧ x.kd ≤ 9223372036854775807) ∧ (-9223372036854775808 ≤ x.tm ∧ x.tm ≤ 9223372036854775807) ∧ (-9223372036854775808 ≤ x.ke ∧ x.ke ≤ 9223372036854775807) ∧ (-9223372036854775808 ≤ x.va ∧ x.va ≤ 9223372036854775807) ∧ (-9223372036854775808 ≤ x.nn ∧ x.nn ≤ 9223372036854775807)
section
variable {H : Type} {enc : TypeId × Value → H} {P : Program} {w : World} {base : Nat} {spare : Nat → Bool} {held : Bool}
theorem cellsIw {a : Addr} {cs : List Value} (h : w.cells? base a 5 = some cs) (f0 : Fits cs [false, false, false, false, false]) : a.spot = none ∧ ∃ x : IwR, IwRAt w a.block a.off x ∧ x.ok64 := by
  obtain ⟨z0, r0, rfl, y0, f1⟩ := fits_int f0
  clear f0
  obtain ⟨z1, r1, rfl, y1, f2⟩ := fits_int f1
  clear f1
  obtain ⟨z2, r2, rfl, y2, f3⟩ := fits_int f2
  clear f2
  obtain ⟨z3, r3, rfl, y3, f4⟩ := fits_int f3
  clear f3
  obtain ⟨z4, r4, rfl, y4, f5⟩ := fits_int f4
  clear f4
  obtain rfl := fits_nil f5
  obtain ⟨_, hlen, hc⟩ := World.cells?_some h
  have c0 := hc 0 (by omega)
  have c1 := hc 1 (by omega)
  have c2 := hc 2 (by omega)
  have c3 := hc 3 (by omega)
  have c4 := hc 4 (by omega)
  obtain ⟨g, o, sp⟩ := a
  have ha0 : (⟨g, o, sp⟩ : Addr).add 0 = ⟨g, o, sp⟩ := by simp [Addr.add]
  have hsp : sp = none := World.cell?_spot (w := w) (a := ⟨g, o, sp⟩) (v := .int .i64 z0) (by rw [← ha0]; simpa using c0)
  subst hsp
  exact ⟨rfl, ⟨z0, z1, z2, z3, z4⟩, ⟨by simpa [Addr.add] using c0, by simpa [Addr.add] using c1, by simpa [Addr.add] using c2, by simpa [Addr.add] using c3, by simpa [Addr.add] using c4⟩, bnd64 y0, bnd64 y1, bnd64 y2, bnd64 y3, bnd64 y4⟩
theorem openIw {t e : TypeId} {a : Option Addr} {len cap : Nat} {d : DataW H} {p : List MemPlace} (ht : P.underlying t = some (.slice e)) (hk : flatK P 5 e = some [false, false, false, false, false]) (hC : P.cellsOf e = 5)
    (h : DataW.Trod enc P w base spare held t (.slice a len cap) d p) : ∃ xs : List IwR, IwRs w a len xs ∧ ∀ x ∈ xs, x.ok64 := by
  obtain ⟨fuel, hf⟩ := h
  rcases open_slice ht hf with ⟨hcs, _⟩ | ⟨a', len', cap', m, n, D, Pl, hcs, _, hl, hm, hmm, _, hx⟩
  · simp [Value.cells] at hcs
    obtain ⟨rfl, rfl, rfl⟩ := hcs
    exact ⟨[], ⟨rfl, Nat.zero_le _, Or.inl rfl⟩, by simp⟩
  · simp [Value.cells] at hcs
    obtain ⟨rfl, rfl, rfl⟩ := hcs
    have hlm : len ≤ m := by rw [hmm]; split <;> omega
    have hall : ∀ i, i < len → ∃ x : IwR, (i = 0 → a'.spot = none) ∧ IwRAt w a'.block (a'.off + i * 5) x ∧ x.ok64 := by
      intro i hi
      obtain ⟨cs', h1, h2⟩ := hx i (by omega)
      rw [hC] at h1
      obtain ⟨hsp, x, hxa, hxo⟩ := cellsIw h1 (fits_trod 5 hk h2)
      have hb : (a'.add (i * 5)).block = a'.block ∧ (a'.add (i * 5)).off = a'.off + i * 5 := by
        unfold Addr.add
        split
        · exact ⟨rfl, by omega⟩
        · exact ⟨rfl, rfl⟩
      rw [hb.1, hb.2] at hxa
      refine ⟨x, fun h0 => ?_, hxa, hxo⟩
      subst h0
      simpa [Addr.add] using hsp
    by_cases h0 : len = 0
    · subst h0
      exact ⟨[], ⟨rfl, Nat.zero_le _, Or.inl rfl⟩, by simp⟩
    have hinh : Inhabited IwR := ⟨⟨0, 0, 0, 0, 0⟩⟩
    obtain ⟨f, hf'⟩ := choose_lt hall
    have hsp := (hf' 0 (by omega)).1 rfl
    refine ⟨(List.range len).map f, ⟨by simp, by omega, Or.inr ⟨a'.block, a'.off, by cases a'; simp_all, ?_⟩⟩, ?_⟩
    · intro i x hix
      simp only [List.getElem?_map, Option.map_eq_some_iff] at hix
      obtain ⟨j, hj, rfl⟩ := hix
      have hil : i < len := by
        rcases Nat.lt_or_ge i len with h' | h'
        · exact h'
        · rw [List.getElem?_eq_none (by simpa using h')] at hj; cases hj
      rw [List.getElem?_eq_getElem (by simpa using hil)] at hj
      simp at hj
      subst hj
      exact (hf' i hil).2.1
    · intro x hxm
      simp only [List.mem_map, List.mem_range] at hxm
      obtain ⟨i, hi, rfl⟩ := hxm
      exact (hf' i hi).2.2
end

theorem Tryz.infoIw : (Tryz.prog.info? 41).map (fun i => (i.zero, i.size, i.bytes)) = some (some (.agg #[.int .i64 0, .int .i64 0, .int .i64 0, .int .i64 0, .int .i64 0]), 5, 40) := by kernel_rfl
theorem mkIw (len : Nat) (hl : len ≤ 1048576) : ∃ C : Array Value, C.size = len * 5 ∧ ∀ w : World, (Instr.makeSlice 25 (.int .i64 (len : Int)) (.int .i64 (len : Int))).run Tryz.prog w = .ok (.slice (some ⟨w.heap.size, 0, none⟩) len len) (w.alloc (.cells C 41)) := by
  obtain ⟨i0, hi, hz0, hz1, hz2⟩ := info_parts Tryz.infoIw
  refine ⟨madeCells (Value.agg #[.int .i64 0, .int .i64 0, .int .i64 0, .int .i64 0, .int .i64 0]).cells (len * i0.size), by rw [size_madeCells, hz1], fun w => ?_⟩
  have h := run_make (P := Tryz.prog) w 25 41 i0 _ Tryz.underlying25 hi hz0 .i64 .i64 len len (by omega) (Int.le_refl _) (by rw [hz2]; omega) (by omega)
  simpa using h
/-- The slice that is being filled. -/
def FillIw (W : World) (g ty len : Nat) (ys : List IwR) : Prop := BlkIw W g ty len ∧ ∀ i x, ys[i]? = some x → IwRAt W g (i * 5) x
theorem FillIw.step {wr w' : World} {g ty len k : Nat} {xs : List IwR} {x : IwR} (h : FillIw wr g ty len (xs.take k)) (hb : Below wr.heap.size wr w') (hk : k < len) (hx : xs[k]? = some x) : FillIw (setIw w' g (k * 5) x) g ty len (xs.take (k + 1)) := by
  have hB := h.1.below hb h.1.lt
  refine ⟨hB.sets x, fun i y hy => ?_⟩
  have hik : i < k + 1 := by
    rcases Nat.lt_or_ge i (k + 1) with h' | h'
    · exact h'
    · rw [List.getElem?_eq_none (by simp; omega)] at hy; cases hy
  rw [List.getElem?_take_of_lt hik] at hy
  by_cases he : i = k
  · subst he
    rw [hx] at hy
    cases hy
    exact setIw_this hB hk x
  · refine setIw_ne ?_ he
    exact (h.2 i y (by rw [List.getElem?_take_of_lt (by omega)]; exact hy)).below hb h.1.lt
theorem FillIw.start {w : World} {ty len : Nat} {C : Array Value} (hC : C.size = len * 5) (xs : List IwR) : FillIw (w.alloc (.cells C ty)) w.heap.size ty len (xs.take 0) :=
  ⟨⟨C, by show (w.heap.push _)[w.heap.size]? = _; simp, hC⟩, fun i x h => by simp at h⟩
theorem FillIw.done {W : World} {g ty len k : Nat} {xs : List IwR} (h : FillIw W g ty len (xs.take k)) (hk : xs.length ≤ k) : IwRsAt W g 0 xs := by
  intro i x hx
  rw [List.take_of_length_le hk] at h
  simpa using h.2 i x hx
theorem below_setIw {B g o : Nat} {W W' : World} {x : IwR} (h : Below B W W') (hg : B ≤ g) : Below B W (setIw W' g o x) := (((((h.setCell hg _).setCell hg _).setCell hg _).setCell hg _).setCell hg _)

theorem IwRs_of {W : World} {g len : Nat} {xs : List IwR} (h1 : xs.length = len) (h2 : len ≤ maxLen) (h : IwRsAt W g 0 xs) : IwRs W (some ⟨g, 0, none⟩) len xs := ⟨h1, h2, Or.inr ⟨g, 0, rfl, h⟩⟩
end Go.Proofs.YtbockbdlojkpiaaGreat
