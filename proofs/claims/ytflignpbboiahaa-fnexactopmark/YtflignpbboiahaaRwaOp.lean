/- Proved here: slices of structs of 13 ints that came in: read as rows, counted, copied into new memory. -/
import Derived.Test.YtflignpbboiahaaGenF
import Derived.Test.YtflignpbboiahaaRwOp
import Derived.Test.YtflignpbboiahaaAgg
namespace Go.Proofs.Ytflignpbboiahaa
open Go.ChangeShapes Go.WideShapes Go.ChangeAt Go.RowKit Go.Deep
set_option linter.unusedVariables false

/-- Each number is an int. -/
def OrR.ok64 (x : OrR) : Prop := (-9223372036854775808 ≤ x.ky ∧ x.ky ≤ 9223372036854775807) ∧ (-9223372036854775808 ≤ x.st ∧ x.st ≤ 9223372036854775807) ∧ (-9223372036854775808 ≤ x.en ∧ x.en ≤ 9223372036854775807) ∧ (-9223372036854775808 ≤ x.an ∧ x.an ≤ 9223372036854775807) ∧ (-9223372036854775808 ≤ x.asu ∧ x.asu ≤ 9223372036854775807) ∧ (-9223372036854775808 ≤ x.ale ∧ x.ale ≤ 9223372036854775807) ∧ (-9223372036854775808 ≤ x.amo ∧ x.amo ≤ 9223372036854775807) ∧ (-9223372036854775808 ≤ x.fn ∧ x.fn ≤ 9223372036854775807) ∧ (-9223372036854775808 ≤ x.fsu ∧ x.fsu ≤ 9223372036854775807) ∧ (-9223372036854775808 ≤ x.fle ∧ x.fle ≤ 9223372036854775807) ∧ (-9223372036854775808 ≤ x.fmo ∧ x.fmo ≤ 9223372036854775807) ∧ (-9223372036854775808 ≤ x.td ∧ x.td ≤ 9223372036854775807)
section
variable {H : Type} {enc : TypeId × Value → H} {P : Program} {w : World} {base : Nat} {spare : Nat → Bool} {held : Bool}

theorem cellsOr {a : Addr} {cs : List Value} (h : w.cells? base a 13 = some cs) (f0 : Fits cs [false, false, false, false, false, false, false, false, false, false, false, false, true]) : a.spot = none ∧ ∃ x : OrR, OrRAt w a.block a.off x ∧ x.ok64 := by
  obtain ⟨z0, r0, rfl, y0, f1⟩ := fits_int f0
  clear f0
  obtain ⟨z1, r1, rfl, y1, f2⟩ := fits_int f1
  clear f1
  obtain ⟨z2, r2, rfl, y2, f3⟩ := fits_int f2
  clear f2
  obtain ⟨z3, r3, rfl, y3, f4⟩ := fits_int f3
  clear f3
  obtain ⟨z4, r4, rfl, y4, f5⟩ := fits_int f4
  clear f4
  obtain ⟨z5, r5, rfl, y5, f6⟩ := fits_int f5
  clear f5
  obtain ⟨z6, r6, rfl, y6, f7⟩ := fits_int f6
  clear f6
  obtain ⟨z7, r7, rfl, y7, f8⟩ := fits_int f7
  clear f7
  obtain ⟨z8, r8, rfl, y8, f9⟩ := fits_int f8
  clear f8
  obtain ⟨z9, r9, rfl, y9, f10⟩ := fits_int f9
  clear f9
  obtain ⟨z10, r10, rfl, y10, f11⟩ := fits_int f10
  clear f10
  obtain ⟨z11, r11, rfl, y11, f12⟩ := fits_int f11
  clear f11
  obtain ⟨z12, r12, rfl, f13⟩ := fits_bool f12
  clear f12
  obtain rfl := fits_nil f13
  obtain ⟨_, hlen, hc⟩ := World.cells?_some h
  have c0 := hc 0 (by omega)
  have c1 := hc 1 (by omega)
  have c2 := hc 2 (by omega)
  have c3 := hc 3 (by omega)
  have c4 := hc 4 (by omega)
  have c5 := hc 5 (by omega)
  have c6 := hc 6 (by omega)
  have c7 := hc 7 (by omega)
  have c8 := hc 8 (by omega)
  have c9 := hc 9 (by omega)
  have c10 := hc 10 (by omega)
  have c11 := hc 11 (by omega)
  have c12 := hc 12 (by omega)
  obtain ⟨g, o, sp⟩ := a
  have ha0 : (⟨g, o, sp⟩ : Addr).add 0 = ⟨g, o, sp⟩ := by simp [Addr.add]
  have hsp : sp = none := World.cell?_spot (w := w) (a := ⟨g, o, sp⟩) (v := .int .i64 z0) (by rw [← ha0]; simpa using c0)
  subst hsp
  exact ⟨rfl, ⟨z0, z1, z2, z3, z4, z5, z6, z7, z8, z9, z10, z11, z12⟩, ⟨by simpa [Addr.add] using c0, by simpa [Addr.add] using c1, by simpa [Addr.add] using c2, by simpa [Addr.add] using c3, by simpa [Addr.add] using c4, by simpa [Addr.add] using c5, by simpa [Addr.add] using c6, by simpa [Addr.add] using c7, by simpa [Addr.add] using c8, by simpa [Addr.add] using c9, by simpa [Addr.add] using c10, by simpa [Addr.add] using c11, by simpa [Addr.add] using c12⟩, bnd64 y0, bnd64 y1, bnd64 y2, bnd64 y3, bnd64 y4, bnd64 y5, bnd64 y6, bnd64 y7, bnd64 y8, bnd64 y9, bnd64 y10, bnd64 y11⟩

theorem openOr {t e : TypeId} {a : Option Addr} {len cap : Nat} {d : DataW H} {p : List MemPlace} (ht : P.underlying t = some (.slice e)) (hk : flatK P 5 e = some [false, false, false, false, false, false, false, false, false, false, false, false, true]) (hC : P.cellsOf e = 13)
    (h : DataW.Trod enc P w base spare held t (.slice a len cap) d p) : ∃ xs : List OrR, OrRs w a len xs ∧ ∀ x ∈ xs, x.ok64 := by
  obtain ⟨fuel, hf⟩ := h
  rcases open_slice ht hf with ⟨hcs, _⟩ | ⟨a', len', cap', m, n, D, Pl, hcs, _, hl, hm, hmm, _, hx⟩
  · simp [Value.cells] at hcs
    obtain ⟨rfl, rfl, rfl⟩ := hcs
    exact ⟨[], ⟨rfl, Nat.zero_le _, Or.inl rfl⟩, by simp⟩
  · simp [Value.cells] at hcs
    obtain ⟨rfl, rfl, rfl⟩ := hcs
    have hlm : len ≤ m := by rw [hmm]; split <;> omega
    have hall : ∀ i, i < len → ∃ x : OrR, (i = 0 → a'.spot = none) ∧ OrRAt w a'.block (a'.off + i * 13) x ∧ x.ok64 := by
      intro i hi
      obtain ⟨cs', h1, h2⟩ := hx i (by omega)
      rw [hC] at h1
      obtain ⟨hsp, x, hxa, hxo⟩ := cellsOr h1 (fits_trod 5 hk h2)
      have hb : (a'.add (i * 13)).block = a'.block ∧ (a'.add (i * 13)).off = a'.off + i * 13 := by
        unfold Addr.add
        split
        · exact ⟨rfl, by omega⟩
        · exact ⟨rfl, rfl⟩
      rw [hb.1, hb.2] at hxa
      refine ⟨x, fun h0 => ?_, hxa, hxo⟩
      subst h0
      simpa [Addr.add] using hsp
    by_cases h0 : len = 0
    · subst h0
      exact ⟨[], ⟨rfl, Nat.zero_le _, Or.inl rfl⟩, by simp⟩
    have hinh : Inhabited OrR := ⟨⟨0, 0, 0, 0, 0, 0, 0, 0, 0, 0, 0, 0, false⟩⟩
    obtain ⟨f, hf'⟩ := choose_lt hall
    have hsp := (hf' 0 (by omega)).1 rfl
    refine ⟨(List.range len).map f, ⟨by simp, by omega, Or.inr ⟨a'.block, a'.off, by cases a'; simp_all, ?_⟩⟩, ?_⟩
    · intro i x hix
      simp only [List.getElem?_map, Option.map_eq_some_iff] at hix
      obtain ⟨j, hj, rfl⟩ := hix
      have hil : i < len := by
        rcases Nat.lt_or_ge i len with h' | h'
        · exact h'
        · rw [List.getElem?_eq_none (by simpa using h')] at hj; cases hj
      rw [List.getElem?_eq_getElem (by simpa using hil)] at hj
      simp at hj
      subst hj
      exact (hf' i hil).2.1
    · intro x hxm
      simp only [List.mem_map, List.mem_range] at hxm
      obtain ⟨i, hi, rfl⟩ := hxm
      exact (hf' i hi).2.2
end

theorem szOr_small (a : Option Addr) (len cap : Nat) (w : World) (h : len ≤ maxLen) (h1 : (len : Int) ≤ 1048576) : Calls Try.prog 15 #[.slice a len cap, .int .i64 1048576] w fun e w' => e = .returned (.int .i64 (1048576 - (len : Int))) ∧ w' = w := by
  unfold maxLen at h
  go_enter Try.func15, Try.ntmps15
  go_wp2
  go_ret
  exact ⟨rfl, rfl⟩

theorem szOr_big (a : Option Addr) (len cap : Nat) (w : World) (h : len ≤ maxLen) (h1 : ¬ (len : Int) ≤ 1048576) : Calls Try.prog 15 #[.slice a len cap, .int .i64 1048576] w fun e w' => e = .returned (.int .i64 (-1)) ∧ w' = w := by
  unfold maxLen at h
  go_enter Try.func15, Try.ntmps15
  go_wp2
  go_ret
  exact ⟨rfl, rfl⟩

theorem Try.infoOr : (Try.prog.info? 66).map (fun i => (i.zero, i.size, i.bytes)) = some (some (.agg #[.int .i64 0, .int .i64 0, .int .i64 0, .int .i64 0, .int .i64 0, .int .i64 0, .int .i64 0, .int .i64 0, .int .i64 0, .int .i64 0, .int .i64 0, .int .i64 0, .bool false]), 13, 104) := by kernel_rfl

theorem mkOr (len : Nat) (hl : len ≤ 1048576) : ∃ C : Array Value, C.size = len * 13 ∧ ∀ w : World, (Instr.makeSlice 28 (.int .i64 (len : Int)) (.int .i64 (len : Int))).run Try.prog w = .ok (.slice (some ⟨w.heap.size, 0, none⟩) len len) (w.alloc (.cells C 66)) := by
  obtain ⟨i0, hi, hz0, hz1, hz2⟩ := info_parts Try.infoOr
  refine ⟨madeCells (Value.agg #[.int .i64 0, .int .i64 0, .int .i64 0, .int .i64 0, .int .i64 0, .int .i64 0, .int .i64 0, .int .i64 0, .int .i64 0, .int .i64 0, .int .i64 0, .int .i64 0, .bool false]).cells (len * i0.size), by rw [size_madeCells, hz1], fun w => ?_⟩
  have h := run_make (P := Try.prog) w 28 66 i0 _ Try.underlying28 hi hz0 .i64 .i64 len len (by omega) (Int.le_refl _) (by rw [hz2]; omega) (by omega)
  simpa using h

/-- The slice that is being filled. -/
def FillOr (W : World) (g ty len : Nat) (ys : List OrR) : Prop := BlkOr W g ty len ∧ ∀ i x, ys[i]? = some x → OrRAt W g (i * 13) x

theorem FillOr.step {wr w' : World} {g ty len k : Nat} {xs : List OrR} {x : OrR} (h : FillOr wr g ty len (xs.take k)) (hb : Below wr.heap.size wr w') (hk : k < len) (hx : xs[k]? = some x) : FillOr (setOr w' g (k * 13) x) g ty len (xs.take (k + 1)) := by
  have hB := h.1.below hb h.1.lt
  refine ⟨hB.sets x, fun i y hy => ?_⟩
  have hik : i < k + 1 := by
    rcases Nat.lt_or_ge i (k + 1) with h' | h'
    · exact h'
    · rw [List.getElem?_eq_none (by simp; omega)] at hy; cases hy
  rw [List.getElem?_take_of_lt hik] at hy
  by_cases he : i = k
  · subst he
    rw [hx] at hy
    cases hy
    exact setOr_this hB hk x
  · refine setOr_ne ?_ he
    exact (h.2 i y (by rw [List.getElem?_take_of_lt (by omega)]; exact hy)).below hb h.1.lt

theorem FillOr.start {w : World} {ty len : Nat} {C : Array Value} (hC : C.size = len * 13) (xs : List OrR) : FillOr (w.alloc (.cells C ty)) w.heap.size ty len (xs.take 0) :=
  ⟨⟨C, by show (w.heap.push _)[w.heap.size]? = _; simp, hC⟩, fun i x h => by simp at h⟩

theorem FillOr.done {W : World} {g ty len k : Nat} {xs : List OrR} (h : FillOr W g ty len (xs.take k)) (hk : xs.length ≤ k) : OrRsAt W g 0 xs := by
  intro i x hx
  rw [List.take_of_length_le hk] at h
  simpa using h.2 i x hx

theorem below_setOr {B g o : Nat} {W W' : World} {x : OrR} (h : Below B W W') (hg : B ≤ g) : Below B W (setOr W' g o x) := (((((((((((((h.setCell hg _).setCell hg _).setCell hg _).setCell hg _).setCell hg _).setCell hg _).setCell hg _).setCell hg _).setCell hg _).setCell hg _).setCell hg _).setCell hg _).setCell hg _)

set_option maxRecDepth 20000 in
set_option maxHeartbeats 1000000 in
theorem toOr_one (ky : Int) (st : Int) (en : Int) (an : Int) (asu : Int) (ale : Int) (amo : Int) (fn : Int) (fsu : Int) (fle : Int) (fmo : Int) (td : Int) (tm : Bool) (w : World) : Calls Try.prog 35 #[.agg #[.int .i64 ky, .int .i64 st, .int .i64 en, .int .i64 an, .int .i64 asu, .int .i64 ale, .int .i64 amo, .int .i64 fn, .int .i64 fsu, .int .i64 fle, .int .i64 fmo, .int .i64 td, .bool tm]] w fun e w' => e = .returned (.agg #[.int .i64 ky, .int .i64 st, .int .i64 en, .int .i64 an, .int .i64 asu, .int .i64 ale, .int .i64 amo, .int .i64 fn, .int .i64 fsu, .int .i64 fle, .int .i64 fmo, .int .i64 td, .bool tm]) ∧ Below w.heap.size w w' := by
  go_enter Try.func35, Try.ntmps35
  go_wp2_with (first
    | (go_at_call 49; refine (toWin_any _ _ _).mono ?_; rintro e w' ⟨rfl, hb⟩; obtain ⟨hc, hf, hs⟩ := bcell hb; (try have hz0 : w.heap.size < w'.heap.size := (by have h9 := hb.size; (try simp at h9); omega)); (try have hz1 : w.heap.size + 1 < w'.heap.size := (by have h9 := hb.size; (try simp at h9); omega)); (try have hz2 : w.heap.size + 1 + 1 < w'.heap.size := (by have h9 := hb.size; (try simp at h9); omega)))
    | (go_at_call 50; refine (toAgg_any _ _ _ _ _).mono ?_; rintro e w' ⟨rfl, hb⟩; obtain ⟨hc, hf, hs⟩ := bcell hb; (try have hz0 : w.heap.size < w'.heap.size := (by have h9 := hb.size; (try simp at h9); omega)); (try have hz1 : w.heap.size + 1 < w'.heap.size := (by have h9 := hb.size; (try simp at h9); omega)); (try have hz2 : w.heap.size + 1 + 1 < w'.heap.size := (by have h9 := hb.size; (try simp at h9); omega))))
  refine bodyPost_ret (v := .agg #[.int .i64 ky, .int .i64 st, .int .i64 en, .int .i64 an, .int .i64 asu, .int .i64 ale, .int .i64 amo, .int .i64 fn, .int .i64 fsu, .int .i64 fle, .int .i64 fmo, .int .i64 td, .bool tm]) (by simp (maxDischargeDepth := 9) [results, Try.results35, go_sem, *]) rfl ⟨rfl, ?_⟩
  exact (by repeat (first | (with_reducible refine bel_set ?_ (by first | (simp; done) | (simp; omega)) _) | (with_reducible refine bel_alloc ?_ _) | (with_reducible exact Below.refl _ _) | (with_reducible assumption) | (with_reducible refine bel_drew ?_) | (with_reducible refine bel_drewN ?_ _) | (with_reducible refine bel_trans ?_ (by with_reducible assumption))))

set_option maxRecDepth 20000 in
set_option maxHeartbeats 1000000 in
theorem toOr_at (a : Option Addr) (len cap : Nat) (xs : List OrR) (w : World) (h : OrRs w a len xs) (hl : len ≤ 1048576) : Calls Try.prog 20 #[.slice a len cap] w fun e w' => e = .returned (.slice (some ⟨w.heap.size, 0, none⟩) len len) ∧ OrRsAt w' w.heap.size 0 xs ∧ BlkOr w' w.heap.size 66 len ∧ Below w.heap.size w w' := by
  obtain ⟨C, hC, hmk⟩ := mkOr len hl
  go_enter Try.func20, Try.ntmps20
  go_wp2
  go_loopw [4] (fun i wr => ∃ k : Nat, k ≤ len ∧ i = .int .i64 k ∧ FillOr wr w.heap.size 66 len (xs.take k) ∧ Below w.heap.size w wr) (fun i _ => len - (intOf i).toNat)
  case atStart => exact ⟨0, Nat.zero_le _, rfl, FillOr.start hC xs, bel_one _ _⟩
  case round =>
    obtain ⟨k, hk, rfl, hF, hbw⟩ := hrel
    by_cases hlt : k < len
    · obtain ⟨hxl, hml, hx⟩ := h
      obtain ⟨g, o, rfl, hr⟩ := hx.resolve_left (by omega)
      obtain ⟨x, hxk⟩ : ∃ x, xs[k]? = some x := ⟨_, List.getElem?_eq_getElem (by omega)⟩
      have hg : g < w.heap.size := hr.lt (by omega)
      have hX := hide hxk
      obtain ⟨c0, c1, c2, c3, c4, c5, c6, c7, c8, c9, c10, c11, c12⟩ := (hr k _ hxk).below hbw hg
      obtain ⟨⟨u0, d0⟩, ⟨u1, d1⟩, ⟨u2, d2⟩, ⟨u3, d3⟩, ⟨u4, d4⟩, ⟨u5, d5⟩, ⟨u6, d6⟩, ⟨u7, d7⟩, ⟨u8, d8⟩, ⟨u9, d9⟩, ⟨u10, d10⟩, ⟨u11, d11⟩, ⟨u12, d12⟩⟩ := hF.1.cells hlt
      have f0 := hF.1.frozen (i := k * 13)
      have f1 := hF.1.frozen (i := k * 13 + 1)
      have f2 := hF.1.frozen (i := k * 13 + 2)
      have f3 := hF.1.frozen (i := k * 13 + 3)
      have f4 := hF.1.frozen (i := k * 13 + 4)
      have f5 := hF.1.frozen (i := k * 13 + 5)
      have f6 := hF.1.frozen (i := k * 13 + 6)
      have f7 := hF.1.frozen (i := k * 13 + 7)
      have f8 := hF.1.frozen (i := k * 13 + 8)
      have f9 := hF.1.frozen (i := k * 13 + 9)
      have f10 := hF.1.frozen (i := k * 13 + 10)
      have f11 := hF.1.frozen (i := k * 13 + 11)
      have f12 := hF.1.frozen (i := k * 13 + 12)
      have hz := hF.1.lt
      clear hx hxk
      go_wp2_with (go_at_call 35; refine (toOr_one _ _ _ _ _ _ _ _ _ _ _ _ _ _).mono ?_; rintro e w' ⟨rfl, hb⟩; obtain ⟨hc, hf, hs⟩ := bcell hb)
      go_roundw
      case rel => exact ⟨k + 1, by omega, by go_num, hF.step hb hlt (unhide hX), below_setOr (bel_trans hbw hb) (Nat.le_refl _)⟩
      case measure => simp [intOf]; omega
    · go_wp2
      go_ret
      exact ⟨rfl, hF.done (by have := h.1; omega), hF.1, hbw⟩

theorem szOr_le (a : Option Addr) (len cap : Nat) (L : Int) (w : World) (hL : L ≤ 1048576) (h1 : (len : Int) ≤ L) : Calls Try.prog 15 #[.slice a len cap, .int .i64 L] w fun e w' => e = .returned (.int .i64 (L - (len : Int))) ∧ w' = w := by
  go_enter Try.func15, Try.ntmps15
  go_wp2
  go_ret
  exact ⟨rfl, rfl⟩

theorem szOr_gt (a : Option Addr) (len cap : Nat) (L : Int) (w : World) (h : len ≤ maxLen) (h0 : 0 ≤ L) (hL : L ≤ 1048576) (h1 : ¬ (len : Int) ≤ L) : Calls Try.prog 15 #[.slice a len cap, .int .i64 L] w fun e w' => e = .returned (.int .i64 (-1)) ∧ w' = w := by
  unfold maxLen at h
  go_enter Try.func15, Try.ntmps15
  go_wp2
  go_ret
  exact ⟨rfl, rfl⟩

theorem OrRs_of {W : World} {g len : Nat} {xs : List OrR} (h1 : xs.length = len) (h2 : len ≤ maxLen) (h : OrRsAt W g 0 xs) : OrRs W (some ⟨g, 0, none⟩) len xs := ⟨h1, h2, Or.inr ⟨g, 0, rfl, h⟩⟩

theorem toOr_any (a : Option Addr) (len cap : Nat) (xs : List OrR) (w : World) (h : OrRs w a len xs) (hl : len ≤ 1048576) : Calls Try.prog 20 #[.slice a len cap] w fun e w' => ∃ a', e = .returned (.slice a' len len) ∧ OrRs w' a' len xs ∧ WrOr w' a' len len ∧ (∀ g o, 0 < len → a' = some ⟨g, o, none⟩ → w.heap.size ≤ g) ∧ Below w.heap.size w w' :=
  (toOr_at a len cap xs w h hl).mono fun e w' ⟨h1, h2, h3, h4⟩ => ⟨_, h1, OrRs_of h.1 h.2.1 h2, Or.inr ⟨_, rfl, h3, Nat.le_refl _⟩, fun g o _ e' => by simp at e'; omega, h4⟩
end Go.Proofs.Ytflignpbboiahaa
