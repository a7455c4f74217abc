/- Laid together: what the claim needs of the texts that were built one by one. -/
import Derived.Test.YtikidpcgnmffcaaGreatPkBase
import Derived.Test.YtikidpcgnmffcaaGreatPkRwItm
namespace Go.Proofs.YtikidpcgnmffcaaGreat
open Go.ChangeShapes Go.WideShapes Go.ChangeAt Go.RowKit Go.Deep
set_option linter.unusedVariables false

/-- Each number is an int. -/
def IwR.ok64 (x : IwR) : Prop := (-9223372036854775808 ≤ x.kd ∧ x.kd ≤ 9223372036854775807) ∧ (-9223372036854775808 ≤ x.tm ∧ x.tm ≤ 9223372036854775807) ∧ (-9223372036854775808 ≤ x.ke ∧ x.ke ≤ 9223372036854775807) ∧ (-9223372036854775808 ≤ x.va ∧ x.va ≤ 9223372036854775807) ∧ (-9223372036854775808 ≤ x.nn ∧ x.nn ≤ 9223372036854775807)

section
variable {H : Type} {enc : TypeId × Value → H} {P : Program} {w : World} {base : Nat} {spare : Nat → Bool} {held : Bool}
theorem cellsIw {a : Addr} {cs : List Value} (h : w.cells? base a 5 = some cs) (f0 : Fits cs [false, false, false, false, false]) : a.spot = none ∧ ∃ x : IwR, IwRAt w a.block a.off x ∧ x.ok64 := by
  obtain ⟨z0, r0, rfl, y0, f1⟩ := fits_int f0
  clear f0
  obtain ⟨z1, r1, rfl, y1, f2⟩ := fits_int f1
  clear f1
  obtain ⟨z2, r2, rfl, y2, f3⟩ := fits_int f2
  clear f2
  obtain ⟨z3, r3, rfl, y3, f4⟩ := fits_int f3
  clear f3
  obtain ⟨z4, r4, rfl, y4, f5⟩ := fits_int f4
  clear f4
  obtain rfl := fits_nil f5
  obtain ⟨_, hlen, hc⟩ := World.cells?_some h
  have c0 := hc 0 (by omega)
  have c1 := hc 1 (by omega)
  have c2 := hc 2 (by omega)
  have c3 := hc 3 (by omega)
  have c4 := hc 4 (by omega)
  obtain ⟨g, o, sp⟩ := a
  have ha0 : (⟨g, o, sp⟩ : Addr).add 0 = ⟨g, o, sp⟩ := by simp [Addr.add]
  have hsp : sp = none := World.cell?_spot (w := w) (a := ⟨g, o, sp⟩) (v := .int .i64 z0) (by rw [← ha0]; simpa using c0)
  subst hsp
  exact ⟨rfl, ⟨z0, z1, z2, z3, z4⟩, ⟨by simpa [Addr.add] using c0, by simpa [Addr.add] using c1, by simpa [Addr.add] using c2, by simpa [Addr.add] using c3, by simpa [Addr.add] using c4⟩, bnd64 y0, bnd64 y1, bnd64 y2, bnd64 y3, bnd64 y4⟩
theorem openIw {t e : TypeId} {a : Option Addr} {len cap : Nat} {d : DataW H} {p : List MemPlace} (ht : P.underlying t = some (.slice e)) (hk : flatK P 5 e = some [false, false, false, false, false]) (hC : P.cellsOf e = 5)
    (h : DataW.Trod enc P w base spare held t (.slice a len cap) d p) : ∃ xs : List IwR, IwRs w a len xs ∧ ∀ x ∈ xs, x.ok64 := by
  obtain ⟨fuel, hf⟩ := h
  rcases open_slice ht hf with ⟨hcs, _⟩ | ⟨a', len', cap', m, n, D, Pl, hcs, _, hl, hm, hmm, _, hx⟩
  · simp [Value.cells] at hcs
    obtain ⟨rfl, rfl, rfl⟩ := hcs
    exact ⟨[], ⟨rfl, Nat.zero_le _, Or.inl rfl⟩, by simp⟩
  · simp [Value.cells] at hcs
    obtain ⟨rfl, rfl, rfl⟩ := hcs
    have hlm : len ≤ m := by rw [hmm]; split <;> omega
    have hall : ∀ i, i < len → ∃ x : IwR, (i = 0 → a'.spot = none) ∧ IwRAt w a'.block (a'.off + i * 5) x ∧ x.ok64 := by
      intro i hi
      obtain ⟨cs', h1, h2⟩ := hx i (by omega)
      rw [hC] at h1
      obtain ⟨hsp, x, hxa, hxo⟩ := cellsIw h1 (fits_trod 5 hk h2)
      have hb : (a'.add (i * 5)).block = a'.block ∧ (a'.add (i * 5)).off = a'.off + i * 5 := by
        unfold Addr.add
        split
        · exact ⟨rfl, by omega⟩
        · exact ⟨rfl, rfl⟩
      rw [hb.1, hb.2] at hxa
      refine ⟨x, fun h0 => ?_, hxa, hxo⟩
      subst h0
      simpa [Addr.add] using hsp
    by_cases h0 : len = 0
    · subst h0
      exact ⟨[], ⟨rfl, Nat.zero_le _, Or.inl rfl⟩, by simp⟩
    have hinh : Inhabited IwR := ⟨⟨0, 0, 0, 0, 0⟩⟩
    obtain ⟨f, hf'⟩ := choose_lt hall
    have hsp := (hf' 0 (by omega)).1 rfl
    refine ⟨(List.range len).map f, ⟨by simp, by omega, Or.inr ⟨a'.block, a'.off, by cases a'; simp_all, ?_⟩⟩, ?_⟩
    · intro i x hix
      simp only [List.getElem?_map, Option.map_eq_some_iff] at hix
      obtain ⟨j, hj, rfl⟩ := hix
      have hil : i < len := by
        rcases Nat.lt_or_ge i len with h' | h'
        · exact h'
        · rw [List.getElem?_eq_none (by simpa using h')] at hj; cases hj
      rw [List.getElem?_eq_getElem (by simpa using hil)] at hj
      simp at hj
      subst hj
      exact (hf' i hil).2.1
    · intro x hxm
      simp only [List.mem_map, List.mem_range] at hxm
      obtain ⟨i, hi, rfl⟩ := hxm
      exact (hf' i hi).2.2
end


theorem szIw_small (a : Option Addr) (len cap : Nat) (w : World) (h : len ≤ maxLen) (h1 : (len : Int) ≤ 1048576) : Calls Tryz.prog 4 #[.slice a len cap, .int .i64 1048576] w fun e w' => e = .returned (.int .i64 (1048576 - (len : Int))) ∧ w' = w := by
  unfold maxLen at h
  go_enter Tryz.func4, Tryz.ntmps4
  go_wp2
  go_ret
  exact ⟨rfl, rfl⟩

theorem szIw_big (a : Option Addr) (len cap : Nat) (w : World) (h : len ≤ maxLen) (h1 : ¬ (len : Int) ≤ 1048576) : Calls Tryz.prog 4 #[.slice a len cap, .int .i64 1048576] w fun e w' => e = .returned (.int .i64 (-1)) ∧ w' = w := by
  unfold maxLen at h
  go_enter Tryz.func4, Tryz.ntmps4
  go_wp2
  go_ret
  exact ⟨rfl, rfl⟩

theorem Tryz.infoIw : (Tryz.prog.info? 40).map (fun i => (i.zero, i.size, i.bytes)) = some (some (.agg #[.int .i64 0, .int .i64 0, .int .i64 0, .int .i64 0, .int .i64 0]), 5, 40) := by kernel_rfl

theorem mkIw (len : Nat) (hl : len ≤ 1048576) : ∃ C : Array Value, C.size = len * 5 ∧ ∀ w : World, (Instr.makeSlice 30 (.int .i64 (len : Int)) (.int .i64 (len : Int))).run Tryz.prog w = .ok (.slice (some ⟨w.heap.size, 0, none⟩) len len) (w.alloc (.cells C 40)) := by
  obtain ⟨i0, hi, hz0, hz1, hz2⟩ := info_parts Tryz.infoIw
  refine ⟨madeCells (Value.agg #[.int .i64 0, .int .i64 0, .int .i64 0, .int .i64 0, .int .i64 0]).cells (len * i0.size), by rw [size_madeCells, hz1], fun w => ?_⟩
  have h := run_make (P := Tryz.prog) w 30 40 i0 _ Tryz.underlying30 hi hz0 .i64 .i64 len len (by omega) (Int.le_refl _) (by rw [hz2]; omega) (by omega)
  simpa using h

/-- The slice that is being filled. -/
def FillIw (W : World) (g ty len : Nat) (ys : List IwR) : Prop := BlkIw W g ty len ∧ ∀ i x, ys[i]? = some x → IwRAt W g (i * 5) x

theorem FillIw.step {wr w' : World} {g ty len k : Nat} {xs : List IwR} {x : IwR} (h : FillIw wr g ty len (xs.take k)) (hb : Below wr.heap.size wr w') (hk : k < len) (hx : xs[k]? = some x) : FillIw (setIw w' g (k * 5) x) g ty len (xs.take (k + 1)) := by
  have hB := h.1.below hb h.1.lt
  refine ⟨hB.sets x, fun i y hy => ?_⟩
  have hik : i < k + 1 := by
    rcases Nat.lt_or_ge i (k + 1) with h' | h'
    · exact h'
    · rw [List.getElem?_eq_none (by simp; omega)] at hy; cases hy
  rw [List.getElem?_take_of_lt hik] at hy
  by_cases he : i = k
  · subst he
    rw [hx] at hy
    cases hy
    exact setIw_this hB hk x
  · refine setIw_ne ?_ he
    exact (h.2 i y (by rw [List.getElem?_take_of_lt (by omega)]; exact hy)).below hb h.1.lt

theorem FillIw.start {w : World} {ty len : Nat} {C : Array Value} (hC : C.size = len * 5) (xs : List IwR) : FillIw (w.alloc (.cells C ty)) w.heap.size ty len (xs.take 0) :=
  ⟨⟨C, by show (w.heap.push _)[w.heap.size]? = _; simp, hC⟩, fun i x h => by simp at h⟩

theorem FillIw.done {W : World} {g ty len k : Nat} {xs : List IwR} (h : FillIw W g ty len (xs.take k)) (hk : xs.length ≤ k) : IwRsAt W g 0 xs := by
  intro i x hx
  rw [List.take_of_length_le hk] at h
  simpa using h.2 i x hx

theorem below_setIw {B g o : Nat} {W W' : World} {x : IwR} (h : Below B W W') (hg : B ≤ g) : Below B W (setIw W' g o x) := (((((h.setCell hg _).setCell hg _).setCell hg _).setCell hg _).setCell hg _)

set_option maxRecDepth 20000 in
set_option maxHeartbeats 1000000 in
theorem toIw_one (kd tm ke va nn : Int) (w : World) : Calls Tryz.prog 19 #[.agg #[.int .i64 kd, .int .i64 tm, .int .i64 ke, .int .i64 va, .int .i64 nn]] w fun e w' => e = .returned (.agg #[.int .i64 kd, .int .i64 tm, .int .i64 ke, .int .i64 va, .int .i64 nn]) ∧ Below w.heap.size w w' := by
  go_enter Tryz.func19, Tryz.ntmps19
  go_wp2
  refine bodyPost_ret (v := .agg #[.int .i64 kd, .int .i64 tm, .int .i64 ke, .int .i64 va, .int .i64 nn]) (by simp (maxDischargeDepth := 9) [results, Tryz.results19, go_sem, *]) rfl ⟨rfl, ?_⟩
  exact (belB)

set_option maxRecDepth 20000 in
set_option maxHeartbeats 1000000 in
theorem toIw_at (a : Option Addr) (len cap : Nat) (xs : List IwR) (w : World) (h : IwRs w a len xs) (hl : len ≤ 1048576) : Calls Tryz.prog 7 #[.slice a len cap] w fun e w' => e = .returned (.slice (some ⟨w.heap.size, 0, none⟩) len len) ∧ IwRsAt w' w.heap.size 0 xs ∧ BlkIw w' w.heap.size 40 len ∧ Below w.heap.size w w' := by
  obtain ⟨C, hC, hmk⟩ := mkIw len hl
  go_enter Tryz.func7, Tryz.ntmps7
  go_wp2
  go_loopw [4] (fun i wr => ∃ k : Nat, k ≤ len ∧ i = .int .i64 k ∧ FillIw wr w.heap.size 40 len (xs.take k) ∧ Below w.heap.size w wr) (fun i _ => len - (intOf i).toNat)
  case atStart => exact ⟨0, Nat.zero_le _, rfl, FillIw.start hC xs, bel_one _ _⟩
  case round =>
    obtain ⟨k, hk, rfl, hF, hbw⟩ := hrel
    by_cases hlt : k < len
    · obtain ⟨hxl, hml, hx⟩ := h
      obtain ⟨g, o, rfl, hr⟩ := hx.resolve_left (by omega)
      obtain ⟨x, hxk⟩ : ∃ x, xs[k]? = some x := ⟨_, List.getElem?_eq_getElem (by omega)⟩
      have hg : g < w.heap.size := hr.lt (by omega)
      have hX := hide hxk
      obtain ⟨c0, c1, c2, c3, c4⟩ := (hr k _ hxk).below hbw hg
      obtain ⟨⟨u0, d0⟩, ⟨u1, d1⟩, ⟨u2, d2⟩, ⟨u3, d3⟩, ⟨u4, d4⟩⟩ := hF.1.cells hlt
      have f0 := hF.1.frozen (i := k * 5)
      have f1 := hF.1.frozen (i := k * 5 + 1)
      have f2 := hF.1.frozen (i := k * 5 + 2)
      have f3 := hF.1.frozen (i := k * 5 + 3)
      have f4 := hF.1.frozen (i := k * 5 + 4)
      have hz := hF.1.lt
      clear hx hxk
      go_wp2_with (go_at_call 19; refine (toIw_one _ _ _ _ _ _).mono ?_; rintro e w' ⟨rfl, hb⟩; obtain ⟨hc, hf, hs⟩ := bcell hb)
      go_roundw
      case rel => exact ⟨k + 1, by omega, by go_num, hF.step hb hlt (unhide hX), below_setIw (bel_trans hbw hb) (Nat.le_refl _)⟩
      case measure => simp [intOf]; omega
    · go_wp2
      go_ret
      exact ⟨rfl, hF.done (by have := h.1; omega), hF.1, hbw⟩

theorem IwRs_of {W : World} {g len : Nat} {xs : List IwR} (h1 : xs.length = len) (h2 : len ≤ maxLen) (h : IwRsAt W g 0 xs) : IwRs W (some ⟨g, 0, none⟩) len xs := ⟨h1, h2, Or.inr ⟨g, 0, rfl, h⟩⟩

theorem toIw_any (a : Option Addr) (len cap : Nat) (xs : List IwR) (w : World) (h : IwRs w a len xs) (hl : len ≤ 1048576) : Calls Tryz.prog 7 #[.slice a len cap] w fun e w' => ∃ a', e = .returned (.slice a' len len) ∧ IwRs w' a' len xs ∧ WrIw w' a' len len ∧ (∀ g o, 0 < len → a' = some ⟨g, o, none⟩ → w.heap.size ≤ g) ∧ Below w.heap.size w w' :=
  (toIw_at a len cap xs w h hl).mono fun e w' ⟨h1, h2, h3, h4⟩ => ⟨_, h1, IwRs_of h.1 h.2.1 h2, Or.inr ⟨_, rfl, h3, Nat.le_refl _⟩, fun g o _ e' => by simp at e'; omega, h4⟩
end Go.Proofs.YtikidpcgnmffcaaGreat
