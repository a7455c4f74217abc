/- Laid together: texts that were built one by one. -/
import Derived.Test.YtbockbdlojkpiaaGreatItm2
import Derived.Test.YtbockbdlojkpiaaGreatWin
import Derived.Test.YtbockbdlojkpiaaGreatEqWA
import Derived.Test.YtbockbdlojkpiaaGreatGenF
import Derived.Test.YtbockbdlojkpiaaGreatPkA1
import Derived.Test.YtbockbdlojkpiaaGreatPkA3
import Derived.Test.YtbockbdlojkpiaaGreatRwaItm
import Derived.Test.YtbockbdlojkpiaaGreatOwnB
import Derived.Test.YtbockbdlojkpiaaGreatPkA0
import Derived.Deep.RegionHeld3
import Derived.Deep.Onto
import Derived.RangeFuncNested
import Derived.RangeFuncBound
import Derived.RangeFuncCalls
import Derived.RangeFuncLeaves
import Derived.RangeFuncBox
import Derived.Shelf.Abstract
import Derived.Shelf.RegionOpen
import Derived.WalkKit
import Derived.OwnWalkIn
import Derived.TacticsInMore
import Derived.LoopNIn
import Derived.LoopIn
/- Proved here: what the program's look at the kind of an item answers. -/
namespace Go.Proofs.YtbockbdlojkpiaaGreat
open Go.ChangeShapes Go.WideShapes Go.ChangeAt Go.RowKit
set_option linter.unusedVariables false

theorem partV_1 (t k v n : Int) : partV 1 t k v n = .iface 118 (.agg #[.int .i64 1, .int .i64 t, .int .i64 k, .int .i64 v, .int .i64 n]) := rfl
theorem partV_2 (t k v n : Int) : partV 2 t k v n = .iface 119 (.agg #[.int .i64 2, .int .i64 t, .int .i64 k, .int .i64 v, .int .i64 n]) := rfl
theorem partV_3 (t k v n : Int) : partV 3 t k v n = .iface 120 (.agg #[.int .i64 3, .int .i64 t, .int .i64 k, .int .i64 v, .int .i64 n]) := rfl
theorem partV_n {q : Int} (h1 : q ≠ 1) (h2 : q ≠ 2) (h3 : q ≠ 3) (t k v n : Int) : partV q t k v n = .iface 121 (.agg #[.int .i64 q, .int .i64 t, .int .i64 k, .int .i64 v, .int .i64 n]) := by unfold partV; rw [if_neg h1, if_neg h2, if_neg h3]

theorem taRR (x : Value) (w : World) : (Instr.typeAssert (.iface 118 x) 106 118 true).run Tryz.prog w = .ok (.tuple #[x, .bool true]) w := by kernel_rfl
theorem taRM (x : Value) (w : World) : (Instr.typeAssert (.iface 118 x) 106 119 true).run Tryz.prog w = .ok (.tuple #[.agg #[.int .i64 0, .int .i64 0, .int .i64 0, .int .i64 0, .int .i64 0], .bool false]) w := by kernel_rfl
theorem taMR (x : Value) (w : World) : (Instr.typeAssert (.iface 119 x) 106 118 true).run Tryz.prog w = .ok (.tuple #[.agg #[.int .i64 0, .int .i64 0, .int .i64 0, .int .i64 0, .int .i64 0], .bool false]) w := by kernel_rfl
theorem taMM (x : Value) (w : World) : (Instr.typeAssert (.iface 119 x) 106 119 true).run Tryz.prog w = .ok (.tuple #[x, .bool true]) w := by kernel_rfl
theorem taWR (x : Value) (w : World) : (Instr.typeAssert (.iface 120 x) 106 118 true).run Tryz.prog w = .ok (.tuple #[.agg #[.int .i64 0, .int .i64 0, .int .i64 0, .int .i64 0, .int .i64 0], .bool false]) w := by kernel_rfl
theorem taWM (x : Value) (w : World) : (Instr.typeAssert (.iface 120 x) 106 119 true).run Tryz.prog w = .ok (.tuple #[.agg #[.int .i64 0, .int .i64 0, .int .i64 0, .int .i64 0, .int .i64 0], .bool false]) w := by kernel_rfl
theorem taNR (x : Value) (w : World) : (Instr.typeAssert (.iface 121 x) 106 118 true).run Tryz.prog w = .ok (.tuple #[.agg #[.int .i64 0, .int .i64 0, .int .i64 0, .int .i64 0, .int .i64 0], .bool false]) w := by kernel_rfl
theorem taNM (x : Value) (w : World) : (Instr.typeAssert (.iface 121 x) 106 119 true).run Tryz.prog w = .ok (.tuple #[.agg #[.int .i64 0, .int .i64 0, .int .i64 0, .int .i64 0, .int .i64 0], .bool false]) w := by kernel_rfl

/-- What recordOf tells. -/
def recIt (q t k v n : Int) : Value := if q = 1 then .agg #[.int .i64 1, .int .i64 t, .int .i64 k, .int .i64 v, .int .i64 n] else .agg #[.int .i64 0, .int .i64 0, .int .i64 0, .int .i64 0, .int .i64 0]
theorem recIt_1 (t k v n : Int) : recIt 1 t k v n = .agg #[.int .i64 1, .int .i64 t, .int .i64 k, .int .i64 v, .int .i64 n] := rfl
theorem recIt_n {q : Int} (h : q ≠ 1) (t k v n : Int) : recIt q t k v n = .agg #[.int .i64 0, .int .i64 0, .int .i64 0, .int .i64 0, .int .i64 0] := if_neg h
theorem ret_rec {a b : Value} {c d : Bool} (h : a = b) (k : c = d) : Ending.returned (.tuple #[a, .bool c]) = .returned (.tuple #[b, .bool d]) := by rw [h, k]

theorem record_any (q t k v n : Int) (w : World) : Calls Tryz.prog 75 #[partV q t k v n] w fun e w' => e = .returned (.tuple #[recIt q t k v n, .bool (q == 1)]) ∧ Below w.heap.size w w' := by
  by_cases h1 : q = 1
  · subst h1
    rw [partV_1]
    have rR := taRR
    have mR := taRM
    go_enter Tryz.func75, Tryz.ntmps75
    go_wp2
    refine bodyPost_ret (v := .tuple #[.agg #[.int .i64 1, .int .i64 t, .int .i64 k, .int .i64 v, .int .i64 n], .bool true]) (by simp [results, Tryz.results75, go_sem]) rfl ⟨rfl, ?_⟩
    exact (by repeat (first | exact Below.refl _ _ | exact bel_one _ _ | assumption | refine bel_alloc ?_ _ | refine bel_set ?_ (by first | (simp; done) | (simp; omega)) _ | refine bel_drew ?_ | refine bel_drewN ?_ _ | refine bel_trans ?_ (by assumption)))
  have hq := hide (recIt_n h1 t k v n)
  have hp : Hid ((q == 1) = false) := hide (by simpa using h1)
  by_cases h2 : q = 2
  · subst h2
    rw [partV_2]
    have rM := taMR
    have mM := taMM
    go_enter Tryz.func75, Tryz.ntmps75
    go_wp2
    refine bodyPost_ret (v := .tuple #[.agg #[.int .i64 0, .int .i64 0, .int .i64 0, .int .i64 0, .int .i64 0], .bool false]) (by simp [results, Tryz.results75, go_sem]) rfl ⟨ret_rec (unhide hq).symm (unhide hp).symm, ?_⟩
    exact (by repeat (first | exact Below.refl _ _ | exact bel_one _ _ | assumption | refine bel_alloc ?_ _ | refine bel_set ?_ (by first | (simp; done) | (simp; omega)) _ | refine bel_drew ?_ | refine bel_drewN ?_ _ | refine bel_trans ?_ (by assumption)))
  by_cases h3 : q = 3
  · subst h3
    rw [partV_3]
    have rW := taWR
    have mW := taWM
    go_enter Tryz.func75, Tryz.ntmps75
    go_wp2
    refine bodyPost_ret (v := .tuple #[.agg #[.int .i64 0, .int .i64 0, .int .i64 0, .int .i64 0, .int .i64 0], .bool false]) (by simp [results, Tryz.results75, go_sem]) rfl ⟨ret_rec (unhide hq).symm (unhide hp).symm, ?_⟩
    exact (by repeat (first | exact Below.refl _ _ | exact bel_one _ _ | assumption | refine bel_alloc ?_ _ | refine bel_set ?_ (by first | (simp; done) | (simp; omega)) _ | refine bel_drew ?_ | refine bel_drewN ?_ _ | refine bel_trans ?_ (by assumption)))
  · rw [partV_n h1 h2 h3]
    have rN := taNR
    have mN := taNM
    clear h1 h2 h3
    go_enter Tryz.func75, Tryz.ntmps75
    go_wp2
    refine bodyPost_ret (v := .tuple #[.agg #[.int .i64 0, .int .i64 0, .int .i64 0, .int .i64 0, .int .i64 0], .bool false]) (by simp [results, Tryz.results75, go_sem]) rfl ⟨ret_rec (unhide hq).symm (unhide hp).symm, ?_⟩
    exact (by repeat (first | exact Below.refl _ _ | exact bel_one _ _ | assumption | refine bel_alloc ?_ _ | refine bel_set ?_ (by first | (simp; done) | (simp; omega)) _ | refine bel_drew ?_ | refine bel_drewN ?_ _ | refine bel_trans ?_ (by assumption)))
end Go.Proofs.YtbockbdlojkpiaaGreat
/- Proved here: whether an item is a record that is ok, and whether a record may have been too late for a window. -/
namespace Go.Proofs.YtbockbdlojkpiaaGreat
open Go.ChangeShapes Go.WideShapes Go.ChangeAt Go.RowKit
set_option linter.unusedVariables false

/-- Whether a time lies in a window; whether an item is a record that is ok; when a pair is ok. -/
def hasW (st en t : Int) : Bool := inB t st (en - 1)
def isRecB (q t k v n : Int) : Bool := (q == 1) && okRec t k v n
def okLat (q t k v n st en : Int) : Bool := isRecB q t k v n && okWin st en && hasW st en t
theorem isRecB_n {q : Int} (h : q ≠ 1) (t k v n : Int) : isRecB q t k v n = false := by simp [isRecB, h]
theorem isRecB_1 (t k v n : Int) : isRecB 1 t k v n = okRec t k v n := by simp [isRecB]
theorem okItm_rec (t k v n : Int) : okItm 1 t k v n = okRec t k v n := rfl

set_option maxHeartbeats 1000000 in
theorem isrec_any (q t k v n : Int) (w : World) : Calls Tryz.prog 66 #[.agg #[.int .i64 q, .int .i64 t, .int .i64 k, .int .i64 v, .int .i64 n]] w fun e' w' => e' = .returned (.bool (isRecB q t k v n)) ∧ Below w.heap.size w w' := by
  by_cases h1 : q = 1
  · subst h1
    have hq := hide ((isRecB_1 t k v n).trans (okItm_rec t k v n).symm)
    have hr := recIt_1 t k v n
    go_enter Tryz.func66, Tryz.ntmps66
    go_wp2_with (first
      | (go_at_call 76; refine (partOf_any _ _ _ _ _ _).mono ?_; rintro e w' ⟨rfl, hb⟩; obtain ⟨hc, hf, hs⟩ := bcell hb; (try have hz0 : w.heap.size < w'.heap.size := (by have h9 := hb.size; (try simp at h9); omega)); (try have hz1 : w.heap.size + 1 < w'.heap.size := (by have h9 := hb.size; (try simp at h9); omega)))
      | (go_at_call 75; refine (record_any _ _ _ _ _ _).mono ?_; rintro e w' ⟨rfl, hb⟩; obtain ⟨hc, hf, hs⟩ := bcell hb; (try have hz0 : w.heap.size < w'.heap.size := (by have h9 := hb.size; (try simp at h9); omega)); (try have hz1 : w.heap.size + 1 < w'.heap.size := (by have h9 := hb.size; (try simp at h9); omega)))
      | (go_at_call 77; refine (implitm_any _ _ _ _ _ _).mono ?_; rintro e w' ⟨rfl, hb⟩; obtain ⟨hc, hf, hs⟩ := bcell hb; (try have hz0 : w.heap.size < w'.heap.size := (by have h9 := hb.size; (try simp at h9); omega)); (try have hz1 : w.heap.size + 1 < w'.heap.size := (by have h9 := hb.size; (try simp at h9); omega))))
    go_ret
    exact ⟨ret_b (unhide hq).symm, (by repeat (first | (with_reducible refine bel_set ?_ (by first | (simp; done) | (simp; omega)) _) | (with_reducible refine bel_alloc ?_ _) | (with_reducible exact Below.refl _ _) | (with_reducible assumption) | (with_reducible refine bel_drew ?_) | (with_reducible refine bel_drewN ?_ _) | (with_reducible refine bel_trans ?_ (by with_reducible assumption))))⟩
  · have hq := hide (isRecB_n h1 t k v n)
    have hr := recIt_n h1 t k v n
    have h1' : (q == 1) = false := by simpa using h1
    clear h1
    go_enter Tryz.func66, Tryz.ntmps66
    go_wp2_with (first
      | (go_at_call 76; refine (partOf_any _ _ _ _ _ _).mono ?_; rintro e w' ⟨rfl, hb⟩; obtain ⟨hc, hf, hs⟩ := bcell hb; (try have hz0 : w.heap.size < w'.heap.size := (by have h9 := hb.size; (try simp at h9); omega)); (try have hz1 : w.heap.size + 1 < w'.heap.size := (by have h9 := hb.size; (try simp at h9); omega)))
      | (go_at_call 75; refine (record_any _ _ _ _ _ _).mono ?_; rintro e w' ⟨rfl, hb⟩; obtain ⟨hc, hf, hs⟩ := bcell hb; (try have hz0 : w.heap.size < w'.heap.size := (by have h9 := hb.size; (try simp at h9); omega)); (try have hz1 : w.heap.size + 1 < w'.heap.size := (by have h9 := hb.size; (try simp at h9); omega)))
      | (go_at_call 77; refine (implitm_any _ _ _ _ _ _).mono ?_; rintro e w' ⟨rfl, hb⟩; obtain ⟨hc, hf, hs⟩ := bcell hb; (try have hz0 : w.heap.size < w'.heap.size := (by have h9 := hb.size; (try simp at h9); omega)); (try have hz1 : w.heap.size + 1 < w'.heap.size := (by have h9 := hb.size; (try simp at h9); omega))))
    go_ret
    exact ⟨ret_b (unhide hq).symm, (by repeat (first | (with_reducible refine bel_set ?_ (by first | (simp; done) | (simp; omega)) _) | (with_reducible refine bel_alloc ?_ _) | (with_reducible exact Below.refl _ _) | (with_reducible assumption) | (with_reducible refine bel_drew ?_) | (with_reducible refine bel_drewN ?_ _) | (with_reducible refine bel_trans ?_ (by with_reducible assumption))))⟩

end Go.Proofs.YtbockbdlojkpiaaGreat
/- Proved here: slices of structs of 7 ints that came in: read as rows, counted, copied into new memory. -/
namespace Go.Proofs.YtbockbdlojkpiaaGreat
open Go.ChangeShapes Go.WideShapes Go.ChangeAt Go.RowKit Go.Deep
set_option linter.unusedVariables false

/-- Each number is an int. -/
def LpR.ok64 (x : LpR) : Prop := (-9223372036854775808 ≤ x.kd ∧ x.kd ≤ 9223372036854775807) ∧ (-9223372036854775808 ≤ x.tm ∧ x.tm ≤ 9223372036854775807) ∧ (-9223372036854775808 ≤ x.ke ∧ x.ke ≤ 9223372036854775807) ∧ (-9223372036854775808 ≤ x.va ∧ x.va ≤ 9223372036854775807) ∧ (-9223372036854775808 ≤ x.nn ∧ x.nn ≤ 9223372036854775807) ∧ (-9223372036854775808 ≤ x.st ∧ x.st ≤ 9223372036854775807) ∧ (-9223372036854775808 ≤ x.en ∧ x.en ≤ 9223372036854775807)
section
variable {H : Type} {enc : TypeId × Value → H} {P : Program} {w : World} {base : Nat} {spare : Nat → Bool} {held : Bool}
theorem cellsLp {a : Addr} {cs : List Value} (h : w.cells? base a 7 = some cs) (f0 : Fits cs [false, false, false, false, false, false, false]) : a.spot = none ∧ ∃ x : LpR, LpRAt w a.block a.off x ∧ x.ok64 := by
  obtain ⟨z0, r0, rfl, y0, f1⟩ := fits_int f0
  clear f0
  obtain ⟨z1, r1, rfl, y1, f2⟩ := fits_int f1
  clear f1
  obtain ⟨z2, r2, rfl, y2, f3⟩ := fits_int f2
  clear f2
  obtain ⟨z3, r3, rfl, y3, f4⟩ := fits_int f3
  clear f3
  obtain ⟨z4, r4, rfl, y4, f5⟩ := fits_int f4
  clear f4
  obtain ⟨z5, r5, rfl, y5, f6⟩ := fits_int f5
  clear f5
  obtain ⟨z6, r6, rfl, y6, f7⟩ := fits_int f6
  clear f6
  obtain rfl := fits_nil f7
  obtain ⟨_, hlen, hc⟩ := World.cells?_some h
  have c0 := hc 0 (by omega)
  have c1 := hc 1 (by omega)
  have c2 := hc 2 (by omega)
  have c3 := hc 3 (by omega)
  have c4 := hc 4 (by omega)
  have c5 := hc 5 (by omega)
  have c6 := hc 6 (by omega)
  obtain ⟨g, o, sp⟩ := a
  have ha0 : (⟨g, o, sp⟩ : Addr).add 0 = ⟨g, o, sp⟩ := by simp [Addr.add]
  have hsp : sp = none := World.cell?_spot (w := w) (a := ⟨g, o, sp⟩) (v := .int .i64 z0) (by rw [← ha0]; simpa using c0)
  subst hsp
  exact ⟨rfl, ⟨z0, z1, z2, z3, z4, z5, z6⟩, ⟨by simpa [Addr.add] using c0, by simpa [Addr.add] using c1, by simpa [Addr.add] using c2, by simpa [Addr.add] using c3, by simpa [Addr.add] using c4, by simpa [Addr.add] using c5, by simpa [Addr.add] using c6⟩, bnd64 y0, bnd64 y1, bnd64 y2, bnd64 y3, bnd64 y4, bnd64 y5, bnd64 y6⟩
theorem openLp {t e : TypeId} {a : Option Addr} {len cap : Nat} {d : DataW H} {p : List MemPlace} (ht : P.underlying t = some (.slice e)) (hk : flatK P 5 e = some [false, false, false, false, false, false, false]) (hC : P.cellsOf e = 7)
    (h : DataW.Trod enc P w base spare held t (.slice a len cap) d p) : ∃ xs : List LpR, LpRs w a len xs ∧ ∀ x ∈ xs, x.ok64 := by
  obtain ⟨fuel, hf⟩ := h
  rcases open_slice ht hf with ⟨hcs, _⟩ | ⟨a', len', cap', m, n, D, Pl, hcs, _, hl, hm, hmm, _, hx⟩
  · simp [Value.cells] at hcs
    obtain ⟨rfl, rfl, rfl⟩ := hcs
    exact ⟨[], ⟨rfl, Nat.zero_le _, Or.inl rfl⟩, by simp⟩
  · simp [Value.cells] at hcs
    obtain ⟨rfl, rfl, rfl⟩ := hcs
    have hlm : len ≤ m := by rw [hmm]; split <;> omega
    have hall : ∀ i, i < len → ∃ x : LpR, (i = 0 → a'.spot = none) ∧ LpRAt w a'.block (a'.off + i * 7) x ∧ x.ok64 := by
      intro i hi
      obtain ⟨cs', h1, h2⟩ := hx i (by omega)
      rw [hC] at h1
      obtain ⟨hsp, x, hxa, hxo⟩ := cellsLp h1 (fits_trod 5 hk h2)
      have hb : (a'.add (i * 7)).block = a'.block ∧ (a'.add (i * 7)).off = a'.off + i * 7 := by
        unfold Addr.add
        split
        · exact ⟨rfl, by omega⟩
        · exact ⟨rfl, rfl⟩
      rw [hb.1, hb.2] at hxa
      refine ⟨x, fun h0 => ?_, hxa, hxo⟩
      subst h0
      simpa [Addr.add] using hsp
    by_cases h0 : len = 0
    · subst h0
      exact ⟨[], ⟨rfl, Nat.zero_le _, Or.inl rfl⟩, by simp⟩
    have hinh : Inhabited LpR := ⟨⟨0, 0, 0, 0, 0, 0, 0⟩⟩
    obtain ⟨f, hf'⟩ := choose_lt hall
    have hsp := (hf' 0 (by omega)).1 rfl
    refine ⟨(List.range len).map f, ⟨by simp, by omega, Or.inr ⟨a'.block, a'.off, by cases a'; simp_all, ?_⟩⟩, ?_⟩
    · intro i x hix
      simp only [List.getElem?_map, Option.map_eq_some_iff] at hix
      obtain ⟨j, hj, rfl⟩ := hix
      have hil : i < len := by
        rcases Nat.lt_or_ge i len with h' | h'
        · exact h'
        · rw [List.getElem?_eq_none (by simpa using h')] at hj; cases hj
      rw [List.getElem?_eq_getElem (by simpa using hil)] at hj
      simp at hj
      subst hj
      exact (hf' i hil).2.1
    · intro x hxm
      simp only [List.mem_map, List.mem_range] at hxm
      obtain ⟨i, hi, rfl⟩ := hxm
      exact (hf' i hi).2.2
end

theorem Tryz.infoLp : (Tryz.prog.info? 57).map (fun i => (i.zero, i.size, i.bytes)) = some (some (.agg #[.int .i64 0, .int .i64 0, .int .i64 0, .int .i64 0, .int .i64 0, .int .i64 0, .int .i64 0]), 7, 56) := by kernel_rfl
theorem mkLp (len : Nat) (hl : len ≤ 1048576) : ∃ C : Array Value, C.size = len * 7 ∧ ∀ w : World, (Instr.makeSlice 32 (.int .i64 (len : Int)) (.int .i64 (len : Int))).run Tryz.prog w = .ok (.slice (some ⟨w.heap.size, 0, none⟩) len len) (w.alloc (.cells C 57)) := by
  obtain ⟨i0, hi, hz0, hz1, hz2⟩ := info_parts Tryz.infoLp
  refine ⟨madeCells (Value.agg #[.int .i64 0, .int .i64 0, .int .i64 0, .int .i64 0, .int .i64 0, .int .i64 0, .int .i64 0]).cells (len * i0.size), by rw [size_madeCells, hz1], fun w => ?_⟩
  have h := run_make (P := Tryz.prog) w 32 57 i0 _ Tryz.underlying32 hi hz0 .i64 .i64 len len (by omega) (Int.le_refl _) (by rw [hz2]; omega) (by omega)
  simpa using h
/-- The slice that is being filled. -/
def FillLp (W : World) (g ty len : Nat) (ys : List LpR) : Prop := BlkLp W g ty len ∧ ∀ i x, ys[i]? = some x → LpRAt W g (i * 7) x
theorem FillLp.step {wr w' : World} {g ty len k : Nat} {xs : List LpR} {x : LpR} (h : FillLp wr g ty len (xs.take k)) (hb : Below wr.heap.size wr w') (hk : k < len) (hx : xs[k]? = some x) : FillLp (setLp w' g (k * 7) x) g ty len (xs.take (k + 1)) := by
  have hB := h.1.below hb h.1.lt
  refine ⟨hB.sets x, fun i y hy => ?_⟩
  have hik : i < k + 1 := by
    rcases Nat.lt_or_ge i (k + 1) with h' | h'
    · exact h'
    · rw [List.getElem?_eq_none (by simp; omega)] at hy; cases hy
  rw [List.getElem?_take_of_lt hik] at hy
  by_cases he : i = k
  · subst he
    rw [hx] at hy
    cases hy
    exact setLp_this hB hk x
  · refine setLp_ne ?_ he
    exact (h.2 i y (by rw [List.getElem?_take_of_lt (by omega)]; exact hy)).below hb h.1.lt
theorem FillLp.start {w : World} {ty len : Nat} {C : Array Value} (hC : C.size = len * 7) (xs : List LpR) : FillLp (w.alloc (.cells C ty)) w.heap.size ty len (xs.take 0) :=
  ⟨⟨C, by show (w.heap.push _)[w.heap.size]? = _; simp, hC⟩, fun i x h => by simp at h⟩
theorem FillLp.done {W : World} {g ty len k : Nat} {xs : List LpR} (h : FillLp W g ty len (xs.take k)) (hk : xs.length ≤ k) : LpRsAt W g 0 xs := by
  intro i x hx
  rw [List.take_of_length_le hk] at h
  simpa using h.2 i x hx
theorem below_setLp {B g o : Nat} {W W' : World} {x : LpR} (h : Below B W W') (hg : B ≤ g) : Below B W (setLp W' g o x) := (((((((h.setCell hg _).setCell hg _).setCell hg _).setCell hg _).setCell hg _).setCell hg _).setCell hg _)

theorem LpRs_of {W : World} {g len : Nat} {xs : List LpR} (h1 : xs.length = len) (h2 : len ≤ maxLen) (h : LpRsAt W g 0 xs) : LpRs W (some ⟨g, 0, none⟩) len xs := ⟨h1, h2, Or.inr ⟨g, 0, rfl, h⟩⟩
end Go.Proofs.YtbockbdlojkpiaaGreat
/- Proved here: all pairs of records and windows, in the specification. -/
namespace Go.Proofs.YtbockbdlojkpiaaGreat
open Go.ChangeShapes Go.WideShapes Go.ChangeAt Go.RowKit
set_option linter.unusedVariables false

theorem hd_10_5 {b0 b1 o0x0 o0x1 o0x2 o0x3 o0x4 o0x5 o0x6 o0x7 o0x8 o0x9 o1x0 o1x1 o1x2 o1x3 o1x4 : Nat} {v0x0 v0x1 v0x2 v0x3 v0x4 v0x5 v0x6 v0x7 v0x8 v0x9 v1x0 v1x1 v1x2 v1x3 v1x4 : Value} {W W' : World} (h : ((W.cell? ⟨b0, o0x0, none⟩ = some (v0x0) ∧ W.cell? ⟨b0, o0x1, none⟩ = some (v0x1) ∧ W.cell? ⟨b0, o0x2, none⟩ = some (v0x2) ∧ W.cell? ⟨b0, o0x3, none⟩ = some (v0x3) ∧ W.cell? ⟨b0, o0x4, none⟩ = some (v0x4) ∧ W.cell? ⟨b0, o0x5, none⟩ = some (v0x5) ∧ W.cell? ⟨b0, o0x6, none⟩ = some (v0x6) ∧ W.cell? ⟨b0, o0x7, none⟩ = some (v0x7) ∧ W.cell? ⟨b0, o0x8, none⟩ = some (v0x8) ∧ W.cell? ⟨b0, o0x9, none⟩ = some (v0x9) ∧ W.cell? ⟨b1, o1x0, none⟩ = some (v1x0) ∧ W.cell? ⟨b1, o1x1, none⟩ = some (v1x1) ∧ W.cell? ⟨b1, o1x2, none⟩ = some (v1x2) ∧ W.cell? ⟨b1, o1x3, none⟩ = some (v1x3) ∧ W.cell? ⟨b1, o1x4, none⟩ = some (v1x4)) ∧ b0 < W.heap.size ∧ b1 < W.heap.size)) (hb : Below W.heap.size W W') : ((W'.cell? ⟨b0, o0x0, none⟩ = some (v0x0) ∧ W'.cell? ⟨b0, o0x1, none⟩ = some (v0x1) ∧ W'.cell? ⟨b0, o0x2, none⟩ = some (v0x2) ∧ W'.cell? ⟨b0, o0x3, none⟩ = some (v0x3) ∧ W'.cell? ⟨b0, o0x4, none⟩ = some (v0x4) ∧ W'.cell? ⟨b0, o0x5, none⟩ = some (v0x5) ∧ W'.cell? ⟨b0, o0x6, none⟩ = some (v0x6) ∧ W'.cell? ⟨b0, o0x7, none⟩ = some (v0x7) ∧ W'.cell? ⟨b0, o0x8, none⟩ = some (v0x8) ∧ W'.cell? ⟨b0, o0x9, none⟩ = some (v0x9) ∧ W'.cell? ⟨b1, o1x0, none⟩ = some (v1x0) ∧ W'.cell? ⟨b1, o1x1, none⟩ = some (v1x1) ∧ W'.cell? ⟨b1, o1x2, none⟩ = some (v1x2) ∧ W'.cell? ⟨b1, o1x3, none⟩ = some (v1x3) ∧ W'.cell? ⟨b1, o1x4, none⟩ = some (v1x4)) ∧ b0 < W'.heap.size ∧ b1 < W'.heap.size) := by
  obtain ⟨⟨h0, h1, h2, h3, h4, h5, h6, h7, h8, h9, h10, h11, h12, h13, h14⟩, s0, s1⟩ := h
  refine ⟨⟨?_, ?_, ?_, ?_, ?_, ?_, ?_, ?_, ?_, ?_, ?_, ?_, ?_, ?_, ?_⟩, Nat.lt_of_lt_of_le s0 hb.size, Nat.lt_of_lt_of_le s1 hb.size⟩
  · rw [hb.cell s0]; exact h0
  · rw [hb.cell s0]; exact h1
  · rw [hb.cell s0]; exact h2
  · rw [hb.cell s0]; exact h3
  · rw [hb.cell s0]; exact h4
  · rw [hb.cell s0]; exact h5
  · rw [hb.cell s0]; exact h6
  · rw [hb.cell s0]; exact h7
  · rw [hb.cell s0]; exact h8
  · rw [hb.cell s0]; exact h9
  · rw [hb.cell s1]; exact h10
  · rw [hb.cell s1]; exact h11
  · rw [hb.cell s1]; exact h12
  · rw [hb.cell s1]; exact h13
  · rw [hb.cell s1]; exact h14

theorem hd_10_5_set {b0 b1 o0x0 o0x1 o0x2 o0x3 o0x4 o0x5 o0x6 o0x7 o0x8 o0x9 o1x0 o1x1 o1x2 o1x3 o1x4 : Nat} {v0x0 v0x1 v0x2 v0x3 v0x4 v0x5 v0x6 v0x7 v0x8 v0x9 v1x0 v1x1 v1x2 v1x3 v1x4 : Value} {W : World} {p : Addr} (h : ((W.cell? ⟨b0, o0x0, none⟩ = some (v0x0) ∧ W.cell? ⟨b0, o0x1, none⟩ = some (v0x1) ∧ W.cell? ⟨b0, o0x2, none⟩ = some (v0x2) ∧ W.cell? ⟨b0, o0x3, none⟩ = some (v0x3) ∧ W.cell? ⟨b0, o0x4, none⟩ = some (v0x4) ∧ W.cell? ⟨b0, o0x5, none⟩ = some (v0x5) ∧ W.cell? ⟨b0, o0x6, none⟩ = some (v0x6) ∧ W.cell? ⟨b0, o0x7, none⟩ = some (v0x7) ∧ W.cell? ⟨b0, o0x8, none⟩ = some (v0x8) ∧ W.cell? ⟨b0, o0x9, none⟩ = some (v0x9) ∧ W.cell? ⟨b1, o1x0, none⟩ = some (v1x0) ∧ W.cell? ⟨b1, o1x1, none⟩ = some (v1x1) ∧ W.cell? ⟨b1, o1x2, none⟩ = some (v1x2) ∧ W.cell? ⟨b1, o1x3, none⟩ = some (v1x3) ∧ W.cell? ⟨b1, o1x4, none⟩ = some (v1x4)) ∧ b0 < W.heap.size ∧ b1 < W.heap.size)) (p0 : p.block ≠ b0) (p1 : p.block ≠ b1) (u : Value) : (((W.setCell p u).cell? ⟨b0, o0x0, none⟩ = some (v0x0) ∧ (W.setCell p u).cell? ⟨b0, o0x1, none⟩ = some (v0x1) ∧ (W.setCell p u).cell? ⟨b0, o0x2, none⟩ = some (v0x2) ∧ (W.setCell p u).cell? ⟨b0, o0x3, none⟩ = some (v0x3) ∧ (W.setCell p u).cell? ⟨b0, o0x4, none⟩ = some (v0x4) ∧ (W.setCell p u).cell? ⟨b0, o0x5, none⟩ = some (v0x5) ∧ (W.setCell p u).cell? ⟨b0, o0x6, none⟩ = some (v0x6) ∧ (W.setCell p u).cell? ⟨b0, o0x7, none⟩ = some (v0x7) ∧ (W.setCell p u).cell? ⟨b0, o0x8, none⟩ = some (v0x8) ∧ (W.setCell p u).cell? ⟨b0, o0x9, none⟩ = some (v0x9) ∧ (W.setCell p u).cell? ⟨b1, o1x0, none⟩ = some (v1x0) ∧ (W.setCell p u).cell? ⟨b1, o1x1, none⟩ = some (v1x1) ∧ (W.setCell p u).cell? ⟨b1, o1x2, none⟩ = some (v1x2) ∧ (W.setCell p u).cell? ⟨b1, o1x3, none⟩ = some (v1x3) ∧ (W.setCell p u).cell? ⟨b1, o1x4, none⟩ = some (v1x4)) ∧ b0 < (W.setCell p u).heap.size ∧ b1 < (W.setCell p u).heap.size) := by
  obtain ⟨⟨h0, h1, h2, h3, h4, h5, h6, h7, h8, h9, h10, h11, h12, h13, h14⟩, s0, s1⟩ := h
  have hb : W.heap.size ≤ (W.setCell p u).heap.size := by simp [World.setCell]
  refine ⟨⟨?_, ?_, ?_, ?_, ?_, ?_, ?_, ?_, ?_, ?_, ?_, ?_, ?_, ?_, ?_⟩, Nat.lt_of_lt_of_le s0 hb, Nat.lt_of_lt_of_le s1 hb⟩
  · rw [cell_set_ne p0]; exact h0
  · rw [cell_set_ne p0]; exact h1
  · rw [cell_set_ne p0]; exact h2
  · rw [cell_set_ne p0]; exact h3
  · rw [cell_set_ne p0]; exact h4
  · rw [cell_set_ne p0]; exact h5
  · rw [cell_set_ne p0]; exact h6
  · rw [cell_set_ne p0]; exact h7
  · rw [cell_set_ne p0]; exact h8
  · rw [cell_set_ne p0]; exact h9
  · rw [cell_set_ne p1]; exact h10
  · rw [cell_set_ne p1]; exact h11
  · rw [cell_set_ne p1]; exact h12
  · rw [cell_set_ne p1]; exact h13
  · rw [cell_set_ne p1]; exact h14

theorem hd_10_5_re {b0 b1 o0x0 o0x1 o0x2 o0x3 o0x4 o0x5 o0x6 o0x7 o0x8 o0x9 o1x0 o1x1 o1x2 o1x3 o1x4 : Nat} {v0x0 v0x1 v0x2 v0x3 v0x4 v0x5 v0x6 v0x7 v0x8 v0x9 v1x0 v1x1 v1x2 v1x3 v1x4 : Value} {W : World} {o o' : Obj} (h : (((W.alloc o).cell? ⟨b0, o0x0, none⟩ = some (v0x0) ∧ (W.alloc o).cell? ⟨b0, o0x1, none⟩ = some (v0x1) ∧ (W.alloc o).cell? ⟨b0, o0x2, none⟩ = some (v0x2) ∧ (W.alloc o).cell? ⟨b0, o0x3, none⟩ = some (v0x3) ∧ (W.alloc o).cell? ⟨b0, o0x4, none⟩ = some (v0x4) ∧ (W.alloc o).cell? ⟨b0, o0x5, none⟩ = some (v0x5) ∧ (W.alloc o).cell? ⟨b0, o0x6, none⟩ = some (v0x6) ∧ (W.alloc o).cell? ⟨b0, o0x7, none⟩ = some (v0x7) ∧ (W.alloc o).cell? ⟨b0, o0x8, none⟩ = some (v0x8) ∧ (W.alloc o).cell? ⟨b0, o0x9, none⟩ = some (v0x9) ∧ (W.alloc o).cell? ⟨b1, o1x0, none⟩ = some (v1x0) ∧ (W.alloc o).cell? ⟨b1, o1x1, none⟩ = some (v1x1) ∧ (W.alloc o).cell? ⟨b1, o1x2, none⟩ = some (v1x2) ∧ (W.alloc o).cell? ⟨b1, o1x3, none⟩ = some (v1x3) ∧ (W.alloc o).cell? ⟨b1, o1x4, none⟩ = some (v1x4)) ∧ b0 < (W.alloc o).heap.size ∧ b1 < (W.alloc o).heap.size)) (p0 : b0 < W.heap.size) (p1 : b1 < W.heap.size) : (((W.alloc o').cell? ⟨b0, o0x0, none⟩ = some (v0x0) ∧ (W.alloc o').cell? ⟨b0, o0x1, none⟩ = some (v0x1) ∧ (W.alloc o').cell? ⟨b0, o0x2, none⟩ = some (v0x2) ∧ (W.alloc o').cell? ⟨b0, o0x3, none⟩ = some (v0x3) ∧ (W.alloc o').cell? ⟨b0, o0x4, none⟩ = some (v0x4) ∧ (W.alloc o').cell? ⟨b0, o0x5, none⟩ = some (v0x5) ∧ (W.alloc o').cell? ⟨b0, o0x6, none⟩ = some (v0x6) ∧ (W.alloc o').cell? ⟨b0, o0x7, none⟩ = some (v0x7) ∧ (W.alloc o').cell? ⟨b0, o0x8, none⟩ = some (v0x8) ∧ (W.alloc o').cell? ⟨b0, o0x9, none⟩ = some (v0x9) ∧ (W.alloc o').cell? ⟨b1, o1x0, none⟩ = some (v1x0) ∧ (W.alloc o').cell? ⟨b1, o1x1, none⟩ = some (v1x1) ∧ (W.alloc o').cell? ⟨b1, o1x2, none⟩ = some (v1x2) ∧ (W.alloc o').cell? ⟨b1, o1x3, none⟩ = some (v1x3) ∧ (W.alloc o').cell? ⟨b1, o1x4, none⟩ = some (v1x4)) ∧ b0 < (W.alloc o').heap.size ∧ b1 < (W.alloc o').heap.size) := by
  obtain ⟨⟨h0, h1, h2, h3, h4, h5, h6, h7, h8, h9, h10, h11, h12, h13, h14⟩, s0, s1⟩ := h
  have hb : Below W.heap.size (W.alloc o) (W.alloc o') := bel_re W o o'
  refine ⟨⟨?_, ?_, ?_, ?_, ?_, ?_, ?_, ?_, ?_, ?_, ?_, ?_, ?_, ?_, ?_⟩, Nat.lt_of_lt_of_le s0 hb.size, Nat.lt_of_lt_of_le s1 hb.size⟩
  · rw [hb.cell p0]; exact h0
  · rw [hb.cell p0]; exact h1
  · rw [hb.cell p0]; exact h2
  · rw [hb.cell p0]; exact h3
  · rw [hb.cell p0]; exact h4
  · rw [hb.cell p0]; exact h5
  · rw [hb.cell p0]; exact h6
  · rw [hb.cell p0]; exact h7
  · rw [hb.cell p0]; exact h8
  · rw [hb.cell p0]; exact h9
  · rw [hb.cell p1]; exact h10
  · rw [hb.cell p1]; exact h11
  · rw [hb.cell p1]; exact h12
  · rw [hb.cell p1]; exact h13
  · rw [hb.cell p1]; exact h14

/-- Whether items are records that may be looked at; a record and a window; all pairs. -/
def IwR.isB (x : IwR) : Bool := isRecB x.kd x.tm x.ke x.va x.nn
def recsB (xs : List IwR) : Bool := decide (xs.length ≤ 120) && xs.all IwR.isB
def mkP (x : IwR) (y : WnR) : LpR := ⟨x.kd, x.tm, x.ke, x.va, x.nn, y.a, y.b⟩
def prsOf (k z p : Int) (x : IwR) : List LpR := (winsOf k z p x.tm).map (mkP x)
def prsT (k z p : Int) (xs : List IwR) : List LpR := xs.flatMap (prsOf k z p)
def pairsT (s t k z p l e v r : Int) (xs : List IwR) : List LpR := if (okJob s t k z p l e v r && recsB xs) = true then prsT k z p xs else []
theorem take_snocI {α : Type} {xs : List α} {k : Nat} {x : α} (h : xs[k]? = some x) : xs.take (k + 1) = xs.take k ++ [x] := by
  obtain ⟨hk, he⟩ := List.getElem?_eq_some_iff.1 h
  rw [List.take_add_one, h]; rfl
theorem all_step {xs : List IwR} {k : Nat} {x : IwR} (h : xs[k]? = some x) (ha : (xs.take k).all IwR.isB = true) (hx : x.isB = true) : (xs.take (k + 1)).all IwR.isB = true := by
  rw [take_snocI h, List.all_append, ha]; simp [hx]
theorem all_no {xs : List IwR} {k : Nat} {x : IwR} (h : xs[k]? = some x) (hx : x.isB = false) : xs.all IwR.isB = false := by
  rw [List.all_eq_false]
  exact ⟨x, List.mem_of_getElem? h, by simp [hx]⟩
theorem recsB_len {xs : List IwR} (h : ¬ xs.length ≤ 120) : recsB xs = false := by simp [recsB, h]
theorem recsB_no {xs : List IwR} (h : xs.all IwR.isB = false) : recsB xs = false := by simp [recsB, h]
theorem recsB_ok {xs : List IwR} (h1 : xs.length ≤ 120) (h : xs.all IwR.isB = true) : recsB xs = true := by simp [recsB, h1, h]
theorem recsB_iff {xs : List IwR} (h : recsB xs = true) : xs.length ≤ 120 ∧ xs.all IwR.isB = true := by simpa [recsB] using h
theorem prsT_snoc {k z p : Int} {xs : List IwR} {i : Nat} {x : IwR} (h : xs[i]? = some x) : prsT k z p (xs.take (i + 1)) = prsT k z p (xs.take i) ++ prsOf k z p x := by
  unfold prsT; rw [take_snocI h, List.flatMap_append]; simp
theorem prsOf_len (k z p : Int) (x : IwR) : (prsOf k z p x).length ≤ 61 := by unfold prsOf; rw [List.length_map]; exact winsOf_len _ _ _ _
theorem prsT_len (k z p : Int) (xs : List IwR) : (prsT k z p xs).length ≤ xs.length * 61 := by
  induction xs with
  | nil => simp [prsT]
  | cons x r ih =>
    have e : prsT k z p (x :: r) = prsOf k z p x ++ prsT k z p r := by simp [prsT]
    have := prsOf_len k z p x
    rw [e, List.length_append, List.length_cons]
    omega
theorem isB_tm {x : IwR} (h : x.isB = true) : 0 ≤ x.tm ∧ x.tm ≤ 60 := by
  unfold IwR.isB isRecB okRec at h
  simp only [Bool.and_eq_true] at h
  exact inB_iff.1 h.2.1.1.1
theorem isB_n1 {x : IwR} (h : ¬ x.kd = 1) : x.isB = false := isRecB_n h _ _ _ _
theorem isB_e1 {x : IwR} (h : x.kd = 1) : x.isB = okItm x.kd x.tm x.ke x.va x.nn := by
  unfold IwR.isB; rw [h, isRecB_1, okItm_rec]

set_option maxRecDepth 20000 in
set_option maxHeartbeats 1000000 in
theorem l6recs_any (a : Option Addr) (len cap : Nat) (xs : List IwR) (w : World) (h : IwRs w a len xs) : Calls Tryz.prog 48 #[.slice a len cap] w fun e w' => e = .returned (.bool (recsB xs)) ∧ Below w.heap.size w w' := by
  have hm := h.2.1
  unfold maxLen at hm
  by_cases h120 : (len : Int) ≤ 120
  case neg =>
    have HV := hide (recsB_len (xs := xs) (by have := h.1; omega))
    go_enter Tryz.func48, Tryz.ntmps48
    go_wp2
    go_ret
    exact ⟨ret_b (unhide HV).symm, (by repeat (first | (with_reducible exact Below.refl _ _) | (with_reducible assumption) | (with_reducible refine bel_set ?_ (by first | (simp; done) | (simp; omega)) _) | (with_reducible refine bel_alloc ?_ _) | (with_reducible refine bel_drew ?_) | (with_reducible refine bel_drewN ?_ _) | (with_reducible refine bel_trans ?_ (by with_reducible assumption))))⟩
  go_enter Tryz.func48, Tryz.ntmps48
  go_wp2
  go_loopw [3] (fun i wr => ∃ j : Nat, j ≤ len ∧ i = .int .i64 j ∧ Hid ((xs.take j).all IwR.isB = true) ∧ Below w.heap.size w wr) (fun i _ => len - (intOf i).toNat)
  case atStart => exact ⟨0, Nat.zero_le _, rfl, hide rfl, Below.refl _ _⟩
  case round =>
    obtain ⟨j, hj, rfl, HA, hbw⟩ := hrel
    by_cases hlt : j < len
    · obtain ⟨hxl, _, hx⟩ := h
      obtain ⟨g, o, rfl, hr⟩ := hx.resolve_left (by omega)
      obtain ⟨x, hxk⟩ : ∃ x, xs[j]? = some x := ⟨_, List.getElem?_eq_getElem (by omega)⟩
      have hg : g < w.heap.size := hr.lt (by omega)
      have hX := hide hxk
      obtain ⟨d0, d1, d2, d3, d4⟩ := (hr j _ hxk).below hbw hg
      clear hx hxk hr
      by_cases k1 : x.kd = 1
      · cases hq : okItm x.kd x.tm x.ke x.va x.nn
        · have HV := hide (recsB_no (all_no (unhide hX) ((isB_e1 k1).trans hq)))
          have hq' : okItm 1 x.tm x.ke x.va x.nn = false := by rw [← k1]; exact hq
          clear hq
          go_wp2_with (go_at_call 69; refine (specitm_any _ _ _ _ _ _).mono ?_; rintro e w' ⟨rfl, hb⟩)
          go_ret
          exact ⟨ret_b (unhide HV).symm, (by repeat (first | (with_reducible exact Below.refl _ _) | (with_reducible assumption) | (with_reducible refine bel_set ?_ (by first | (simp; done) | (simp; omega)) _) | (with_reducible refine bel_alloc ?_ _) | (with_reducible refine bel_drew ?_) | (with_reducible refine bel_drewN ?_ _) | (with_reducible refine bel_trans ?_ (by with_reducible assumption))))⟩
        · have HA2 := hide (all_step (unhide hX) (unhide HA) ((isB_e1 k1).trans hq))
          have hq' : okItm 1 x.tm x.ke x.va x.nn = true := by rw [← k1]; exact hq
          clear hq
          go_wp2_with (go_at_call 69; refine (specitm_any _ _ _ _ _ _).mono ?_; rintro e w' ⟨rfl, hb⟩)
          go_roundw
          case rel => exact ⟨j + 1, by omega, by go_num, HA2, (by repeat (first | (with_reducible exact Below.refl _ _) | (with_reducible assumption) | (with_reducible refine bel_set ?_ (by first | (simp; done) | (simp; omega)) _) | (with_reducible refine bel_alloc ?_ _) | (with_reducible refine bel_drew ?_) | (with_reducible refine bel_drewN ?_ _) | (with_reducible refine bel_trans ?_ (by with_reducible assumption))))⟩
          case measure => simp [intOf]; omega
      · have HV := hide (recsB_no (all_no (unhide hX) (isB_n1 k1)))
        have k1' : (x.kd == 1) = false := by simpa using k1
        go_wp2_with (go_at_call 69; refine (specitm_any _ _ _ _ _ _).mono ?_; rintro e w' ⟨rfl, hb⟩)
        go_ret
        exact ⟨ret_b (unhide HV).symm, (by repeat (first | (with_reducible exact Below.refl _ _) | (with_reducible assumption) | (with_reducible refine bel_set ?_ (by first | (simp; done) | (simp; omega)) _) | (with_reducible refine bel_alloc ?_ _) | (with_reducible refine bel_drew ?_) | (with_reducible refine bel_drewN ?_ _) | (with_reducible refine bel_trans ?_ (by with_reducible assumption))))⟩
    · have HV := hide (recsB_ok (xs := xs) (by have := h.1; omega) (by have e := unhide HA; rw [List.take_of_length_le (by have := h.1; omega)] at e; exact e))
      go_wp2
      go_ret
      exact ⟨ret_b (unhide HV).symm, hbw⟩

theorem l4of_any (s t k z p l e : Int) (b : Bool) (v r : Int) (T : Int) (w : World) (hj : okJob s t k z p l e v r = true) (hT : 0 ≤ T ∧ T ≤ 60) : Calls Tryz.prog 49 #[.agg #[.int .i64 s, .int .i64 t, .int .i64 k, .int .i64 z, .int .i64 p, .int .i64 l, .int .i64 e, .bool b, .int .i64 v, .int .i64 r], .int .i64 T] w fun e' w' => ∃ v', e' = .returned v' ∧ OwnWn w' w.heap.size v' (winsOf k z p T) ∧ Below w.heap.size w w' := by
  obtain ⟨hk, hz, hp⟩ := okJob_parts hj
  rcases (show k = 1 ∨ k = 2 ∨ k = 3 by omega) with rfl | rfl | rfl
  · exact l4_1 s t z p l e b v r T hT hz w
  · rw [winsOf_2]
    exact specslide_any s t 2 z p l e b v r T hT hz (stepB_in hz hp) rfl w
  · exact l4_3 s t z p l e b v r T hT hz w

end Go.Proofs.YtbockbdlojkpiaaGreat
/- Proved here: all pairs of records and windows, in the specification. -/
namespace Go.Proofs.YtbockbdlojkpiaaGreat
open Go.ChangeShapes Go.WideShapes Go.ChangeAt Go.RowKit
set_option linter.unusedVariables false

theorem hd_5_2 {b0 b1 o0x0 o0x1 o0x2 o0x3 o0x4 o1x0 o1x1 : Nat} {v0x0 v0x1 v0x2 v0x3 v0x4 v1x0 v1x1 : Value} {W W' : World} (h : ((W.cell? ⟨b0, o0x0, none⟩ = some (v0x0) ∧ W.cell? ⟨b0, o0x1, none⟩ = some (v0x1) ∧ W.cell? ⟨b0, o0x2, none⟩ = some (v0x2) ∧ W.cell? ⟨b0, o0x3, none⟩ = some (v0x3) ∧ W.cell? ⟨b0, o0x4, none⟩ = some (v0x4) ∧ W.cell? ⟨b1, o1x0, none⟩ = some (v1x0) ∧ W.cell? ⟨b1, o1x1, none⟩ = some (v1x1)) ∧ b0 < W.heap.size ∧ b1 < W.heap.size)) (hb : Below W.heap.size W W') : ((W'.cell? ⟨b0, o0x0, none⟩ = some (v0x0) ∧ W'.cell? ⟨b0, o0x1, none⟩ = some (v0x1) ∧ W'.cell? ⟨b0, o0x2, none⟩ = some (v0x2) ∧ W'.cell? ⟨b0, o0x3, none⟩ = some (v0x3) ∧ W'.cell? ⟨b0, o0x4, none⟩ = some (v0x4) ∧ W'.cell? ⟨b1, o1x0, none⟩ = some (v1x0) ∧ W'.cell? ⟨b1, o1x1, none⟩ = some (v1x1)) ∧ b0 < W'.heap.size ∧ b1 < W'.heap.size) := by
  obtain ⟨⟨h0, h1, h2, h3, h4, h5, h6⟩, s0, s1⟩ := h
  refine ⟨⟨?_, ?_, ?_, ?_, ?_, ?_, ?_⟩, Nat.lt_of_lt_of_le s0 hb.size, Nat.lt_of_lt_of_le s1 hb.size⟩
  · rw [hb.cell s0]; exact h0
  · rw [hb.cell s0]; exact h1
  · rw [hb.cell s0]; exact h2
  · rw [hb.cell s0]; exact h3
  · rw [hb.cell s0]; exact h4
  · rw [hb.cell s1]; exact h5
  · rw [hb.cell s1]; exact h6

theorem hd_5_2_set {b0 b1 o0x0 o0x1 o0x2 o0x3 o0x4 o1x0 o1x1 : Nat} {v0x0 v0x1 v0x2 v0x3 v0x4 v1x0 v1x1 : Value} {W : World} {p : Addr} (h : ((W.cell? ⟨b0, o0x0, none⟩ = some (v0x0) ∧ W.cell? ⟨b0, o0x1, none⟩ = some (v0x1) ∧ W.cell? ⟨b0, o0x2, none⟩ = some (v0x2) ∧ W.cell? ⟨b0, o0x3, none⟩ = some (v0x3) ∧ W.cell? ⟨b0, o0x4, none⟩ = some (v0x4) ∧ W.cell? ⟨b1, o1x0, none⟩ = some (v1x0) ∧ W.cell? ⟨b1, o1x1, none⟩ = some (v1x1)) ∧ b0 < W.heap.size ∧ b1 < W.heap.size)) (p0 : p.block ≠ b0) (p1 : p.block ≠ b1) (u : Value) : (((W.setCell p u).cell? ⟨b0, o0x0, none⟩ = some (v0x0) ∧ (W.setCell p u).cell? ⟨b0, o0x1, none⟩ = some (v0x1) ∧ (W.setCell p u).cell? ⟨b0, o0x2, none⟩ = some (v0x2) ∧ (W.setCell p u).cell? ⟨b0, o0x3, none⟩ = some (v0x3) ∧ (W.setCell p u).cell? ⟨b0, o0x4, none⟩ = some (v0x4) ∧ (W.setCell p u).cell? ⟨b1, o1x0, none⟩ = some (v1x0) ∧ (W.setCell p u).cell? ⟨b1, o1x1, none⟩ = some (v1x1)) ∧ b0 < (W.setCell p u).heap.size ∧ b1 < (W.setCell p u).heap.size) := by
  obtain ⟨⟨h0, h1, h2, h3, h4, h5, h6⟩, s0, s1⟩ := h
  have hb : W.heap.size ≤ (W.setCell p u).heap.size := by simp [World.setCell]
  refine ⟨⟨?_, ?_, ?_, ?_, ?_, ?_, ?_⟩, Nat.lt_of_lt_of_le s0 hb, Nat.lt_of_lt_of_le s1 hb⟩
  · rw [cell_set_ne p0]; exact h0
  · rw [cell_set_ne p0]; exact h1
  · rw [cell_set_ne p0]; exact h2
  · rw [cell_set_ne p0]; exact h3
  · rw [cell_set_ne p0]; exact h4
  · rw [cell_set_ne p1]; exact h5
  · rw [cell_set_ne p1]; exact h6

theorem hd_5_2_re {b0 b1 o0x0 o0x1 o0x2 o0x3 o0x4 o1x0 o1x1 : Nat} {v0x0 v0x1 v0x2 v0x3 v0x4 v1x0 v1x1 : Value} {W : World} {o o' : Obj} (h : (((W.alloc o).cell? ⟨b0, o0x0, none⟩ = some (v0x0) ∧ (W.alloc o).cell? ⟨b0, o0x1, none⟩ = some (v0x1) ∧ (W.alloc o).cell? ⟨b0, o0x2, none⟩ = some (v0x2) ∧ (W.alloc o).cell? ⟨b0, o0x3, none⟩ = some (v0x3) ∧ (W.alloc o).cell? ⟨b0, o0x4, none⟩ = some (v0x4) ∧ (W.alloc o).cell? ⟨b1, o1x0, none⟩ = some (v1x0) ∧ (W.alloc o).cell? ⟨b1, o1x1, none⟩ = some (v1x1)) ∧ b0 < (W.alloc o).heap.size ∧ b1 < (W.alloc o).heap.size)) (p0 : b0 < W.heap.size) (p1 : b1 < W.heap.size) : (((W.alloc o').cell? ⟨b0, o0x0, none⟩ = some (v0x0) ∧ (W.alloc o').cell? ⟨b0, o0x1, none⟩ = some (v0x1) ∧ (W.alloc o').cell? ⟨b0, o0x2, none⟩ = some (v0x2) ∧ (W.alloc o').cell? ⟨b0, o0x3, none⟩ = some (v0x3) ∧ (W.alloc o').cell? ⟨b0, o0x4, none⟩ = some (v0x4) ∧ (W.alloc o').cell? ⟨b1, o1x0, none⟩ = some (v1x0) ∧ (W.alloc o').cell? ⟨b1, o1x1, none⟩ = some (v1x1)) ∧ b0 < (W.alloc o').heap.size ∧ b1 < (W.alloc o').heap.size) := by
  obtain ⟨⟨h0, h1, h2, h3, h4, h5, h6⟩, s0, s1⟩ := h
  have hb : Below W.heap.size (W.alloc o) (W.alloc o') := bel_re W o o'
  refine ⟨⟨?_, ?_, ?_, ?_, ?_, ?_, ?_⟩, Nat.lt_of_lt_of_le s0 hb.size, Nat.lt_of_lt_of_le s1 hb.size⟩
  · rw [hb.cell p0]; exact h0
  · rw [hb.cell p0]; exact h1
  · rw [hb.cell p0]; exact h2
  · rw [hb.cell p0]; exact h3
  · rw [hb.cell p0]; exact h4
  · rw [hb.cell p1]; exact h5
  · rw [hb.cell p1]; exact h6

theorem pr_keep {b0 b1 o0x0 o0x1 o0x2 o0x3 o0x4 o1x0 o1x1 : Nat} {v0x0 v0x1 v0x2 v0x3 v0x4 v1x0 v1x1 : Value} {W W' W2 : World} {row : Option Nat} (h : ((W.cell? ⟨b0, o0x0, none⟩ = some (v0x0) ∧ W.cell? ⟨b0, o0x1, none⟩ = some (v0x1) ∧ W.cell? ⟨b0, o0x2, none⟩ = some (v0x2) ∧ W.cell? ⟨b0, o0x3, none⟩ = some (v0x3) ∧ W.cell? ⟨b0, o0x4, none⟩ = some (v0x4) ∧ W.cell? ⟨b1, o1x0, none⟩ = some (v1x0) ∧ W.cell? ⟨b1, o1x1, none⟩ = some (v1x1)) ∧ b0 < W.heap.size ∧ b1 < W.heap.size)) (hb : Below W.heap.size W W') (hg : W'.grownBy W2 row) (h0 : some b0 ≠ row) (h1 : some b1 ≠ row) : ((W2.cell? ⟨b0, o0x0, none⟩ = some (v0x0) ∧ W2.cell? ⟨b0, o0x1, none⟩ = some (v0x1) ∧ W2.cell? ⟨b0, o0x2, none⟩ = some (v0x2) ∧ W2.cell? ⟨b0, o0x3, none⟩ = some (v0x3) ∧ W2.cell? ⟨b0, o0x4, none⟩ = some (v0x4) ∧ W2.cell? ⟨b1, o1x0, none⟩ = some (v1x0) ∧ W2.cell? ⟨b1, o1x1, none⟩ = some (v1x1)) ∧ b0 < W2.heap.size ∧ b1 < W2.heap.size) := by
  obtain ⟨⟨c0, c1, c2, c3, c4, c5, c6⟩, s0, s1⟩ := hd_5_2 h hb
  have e0 : ∀ o, W2.cell? ⟨b0, o, none⟩ = W'.cell? ⟨b0, o, none⟩ := fun o => World.cell?_of_block (w := W') (hg.block b0 s0 h0)
  have e1 : ∀ o, W2.cell? ⟨b1, o, none⟩ = W'.cell? ⟨b1, o, none⟩ := fun o => World.cell?_of_block (w := W') (hg.block b1 s1 h1)
  exact ⟨⟨(e0 _).trans c0, (e0 _).trans c1, (e0 _).trans c2, (e0 _).trans c3, (e0 _).trans c4, (e1 _).trans c5, (e1 _).trans c6⟩, Nat.lt_of_lt_of_le s0 hg.size, Nat.lt_of_lt_of_le s1 hg.size⟩
theorem keepP {w1 : World} {B : Nat} {v' : Value} {ys : List LpR} {ws : List WnR} {m : Nat} {x : IwR} {y : WnR} (h : ws[m]? = some y) (ho : w1.ownsRow B 57 7 v' ((ys ++ (ws.take m).map (mkP x)).length + 1) (flatLp (ys ++ (ws.take m).map (mkP x)) ++ (mkP x y).cells)) : OwnLp w1 B v' (ys ++ (ws.take (m + 1)).map (mkP x)) := by
  have e : ys ++ (ws.take (m + 1)).map (mkP x) = (ys ++ (ws.take m).map (mkP x)) ++ [mkP x y] := by rw [take_snocI h]; simp
  rw [e]
  exact ownLp_snoc ho

set_option maxRecDepth 20000 in
set_option maxHeartbeats 2000000 in
theorem specpairs_yes (s t k z p l e : Int) (b : Bool) (v r : Int) (a : Option Addr) (len cap : Nat) (xs : List IwR) (w : World) (h : IwRs w a len xs) (hj : okJob s t k z p l e v r = true) (hrB : recsB xs = true) : Calls Tryz.prog 24 #[.agg #[.int .i64 s, .int .i64 t, .int .i64 k, .int .i64 z, .int .i64 p, .int .i64 l, .int .i64 e, .bool b, .int .i64 v, .int .i64 r], .slice a len cap] w fun e' w' => ∃ v', e' = .returned v' ∧ OwnLp w' w.heap.size v' (prsT k z p xs) ∧ Below w.heap.size w w' := by
  obtain ⟨h120, hall⟩ := recsB_iff hrB
  have hlen := h.1
  obtain ⟨i0, hi, hz0, hz1, hz2⟩ := info_parts Tryz.infoLp
  go_enter Tryz.func24, Tryz.ntmps24
  go_wp2_with fail
  refine (specjobok_any _ _ _ _ _ _ _ _ _ _ _).mono ?_
  rintro e' wa ⟨rfl, hba⟩
  have hbA : Below w.heap.size w wa := bel_trans (bel_alloc (bel_one _ _) _) hba
  go_wp2_with fail
  refine (l6recs_any a len cap xs _ (h.below hbA)).mono ?_
  rintro e' wq ⟨rfl, hbq⟩
  have hbB : Below (w.heap.size + 1) (w.alloc (.cells #[.int .i64 s, .int .i64 t, .int .i64 k, .int .i64 z, .int .i64 p, .int .i64 l, .int .i64 e, .bool b, .int .i64 v, .int .i64 r] 24)) wq := ((Below.refl (w.heap.size + 1) (w.alloc (.cells #[.int .i64 s, .int .i64 t, .int .i64 k, .int .i64 z, .int .i64 p, .int .i64 l, .int .i64 e, .bool b, .int .i64 v, .int .i64 r] 24))).alloc (by simp) _).trans ((bel_trans hba hbq).mono (by first | (simp; done) | (simp; omega)))
  have hOq : OwnLp wq (w.heap.size + 1) (.slice (some ⟨w.heap.size + 1, 0, none⟩) 0 0) [] := ownBel (ownLit (W := (w.alloc (.cells #[.int .i64 s, .int .i64 t, .int .i64 k, .int .i64 z, .int .i64 p, .int .i64 l, .int .i64 e, .bool b, .int .i64 v, .int .i64 r] 24))) (B := w.heap.size + 1) (g := w.heap.size + 1) _ _ (by simp) (by simp)) (bel_trans hba hbq)
  go_wp2_with fail
  go_loopw [5, 6] (fun v' iv wr => ∃ i : Nat, i ≤ len ∧ iv = .int .i64 i ∧ OwnLp wr (w.heap.size + 1) v' (prsT k z p (xs.take i)) ∧ Below (w.heap.size + 1) (w.alloc (.cells #[.int .i64 s, .int .i64 t, .int .i64 k, .int .i64 z, .int .i64 p, .int .i64 l, .int .i64 e, .bool b, .int .i64 v, .int .i64 r] 24)) wr) (fun _ iv _ => len - (intOf iv).toNat)
  case atStart => exact ⟨0, Nat.zero_le _, rfl, hOq, hbB⟩
  case round =>
    obtain ⟨i, hil, rfl, hO, hbw⟩ := hrel
    have hb0 : Below w.heap.size w wr := bel_trans (bel_one _ _) (by simpa using hbw)
    have hpl := prsT_len k z p (xs.take i)
    rw [List.length_take] at hpl
    have HO := hide hO
    have hge := hide (ownLp_ge hO)
    have hlt5 := hide (own_lt hO)
    clear hO
    by_cases hlt : i < len
    · obtain ⟨hxl, hmx, hx⟩ := h
      obtain ⟨g, o, rfl, hr⟩ := hx.resolve_left (by omega)
      obtain ⟨x, hxk⟩ : ∃ x, xs[i]? = some x := ⟨_, List.getElem?_eq_getElem (by omega)⟩
      have hg : g < w.heap.size := hr.lt (by omega)
      have hX := hide hxk
      have HR := hide hr
      have htm := isB_tm (List.all_eq_true.1 hall x (List.mem_of_getElem? hxk))
      have HS : ((wr.cell? ⟨w.heap.size, 0, none⟩ = some (.int .i64 s) ∧ wr.cell? ⟨w.heap.size, 1, none⟩ = some (.int .i64 t) ∧ wr.cell? ⟨w.heap.size, 2, none⟩ = some (.int .i64 k) ∧ wr.cell? ⟨w.heap.size, 3, none⟩ = some (.int .i64 z) ∧ wr.cell? ⟨w.heap.size, 4, none⟩ = some (.int .i64 p) ∧ wr.cell? ⟨w.heap.size, 5, none⟩ = some (.int .i64 l) ∧ wr.cell? ⟨w.heap.size, 6, none⟩ = some (.int .i64 e) ∧ wr.cell? ⟨w.heap.size, 7, none⟩ = some (.bool b) ∧ wr.cell? ⟨w.heap.size, 8, none⟩ = some (.int .i64 v) ∧ wr.cell? ⟨w.heap.size, 9, none⟩ = some (.int .i64 r) ∧ wr.cell? ⟨g, o + i * 5, none⟩ = some (.int .i64 x.kd) ∧ wr.cell? ⟨g, o + i * 5 + 1, none⟩ = some (.int .i64 x.tm) ∧ wr.cell? ⟨g, o + i * 5 + 2, none⟩ = some (.int .i64 x.ke) ∧ wr.cell? ⟨g, o + i * 5 + 3, none⟩ = some (.int .i64 x.va) ∧ wr.cell? ⟨g, o + i * 5 + 4, none⟩ = some (.int .i64 x.nn)) ∧ w.heap.size < wr.heap.size ∧ g < wr.heap.size) := by
        obtain ⟨d0, d1, d2, d3, d4⟩ := (hr i _ hxk).below hb0 hg
        exact ⟨⟨(hbw.cell (p := ⟨w.heap.size, 0, none⟩) (by simp)).trans (by simp [go_sem]), (hbw.cell (p := ⟨w.heap.size, 1, none⟩) (by simp)).trans (by simp [go_sem]), (hbw.cell (p := ⟨w.heap.size, 2, none⟩) (by simp)).trans (by simp [go_sem]), (hbw.cell (p := ⟨w.heap.size, 3, none⟩) (by simp)).trans (by simp [go_sem]), (hbw.cell (p := ⟨w.heap.size, 4, none⟩) (by simp)).trans (by simp [go_sem]), (hbw.cell (p := ⟨w.heap.size, 5, none⟩) (by simp)).trans (by simp [go_sem]), (hbw.cell (p := ⟨w.heap.size, 6, none⟩) (by simp)).trans (by simp [go_sem]), (hbw.cell (p := ⟨w.heap.size, 7, none⟩) (by simp)).trans (by simp [go_sem]), (hbw.cell (p := ⟨w.heap.size, 8, none⟩) (by simp)).trans (by simp [go_sem]), (hbw.cell (p := ⟨w.heap.size, 9, none⟩) (by simp)).trans (by simp [go_sem]), d0, d1, d2, d3, d4⟩, by have h9 := hbw.size; simp at h9; omega, Nat.lt_of_lt_of_le hg hb0.size⟩
      clear hx hr
      go_wp2
      go_region_held3 (fun W => ((W.cell? ⟨w.heap.size, 0, none⟩ = some (.int .i64 s) ∧ W.cell? ⟨w.heap.size, 1, none⟩ = some (.int .i64 t) ∧ W.cell? ⟨w.heap.size, 2, none⟩ = some (.int .i64 k) ∧ W.cell? ⟨w.heap.size, 3, none⟩ = some (.int .i64 z) ∧ W.cell? ⟨w.heap.size, 4, none⟩ = some (.int .i64 p) ∧ W.cell? ⟨w.heap.size, 5, none⟩ = some (.int .i64 l) ∧ W.cell? ⟨w.heap.size, 6, none⟩ = some (.int .i64 e) ∧ W.cell? ⟨w.heap.size, 7, none⟩ = some (.bool b) ∧ W.cell? ⟨w.heap.size, 8, none⟩ = some (.int .i64 v) ∧ W.cell? ⟨w.heap.size, 9, none⟩ = some (.int .i64 r) ∧ W.cell? ⟨g, o + i * 5, none⟩ = some (.int .i64 x.kd) ∧ W.cell? ⟨g, o + i * 5 + 1, none⟩ = some (.int .i64 x.tm) ∧ W.cell? ⟨g, o + i * 5 + 2, none⟩ = some (.int .i64 x.ke) ∧ W.cell? ⟨g, o + i * 5 + 3, none⟩ = some (.int .i64 x.va) ∧ W.cell? ⟨g, o + i * 5 + 4, none⟩ = some (.int .i64 x.nn)) ∧ w.heap.size < W.heap.size ∧ g < W.heap.size)) ((first | ((repeat (first | (with_reducible assumption) | (with_reducible refine hd_10_5 ?_ (by with_reducible assumption)) | (with_reducible refine hd_10_5 ?_ (bel_drew (Below.refl _ _))) | (with_reducible exact hd_10_5_re (by with_reducible assumption) (by first | omega | (simp; done) | (simp; omega)) (by first | omega | (simp; done) | (simp; omega))) | (with_reducible refine hd_10_5 ?_ (bel_one _ _)) | (with_reducible refine hd_10_5_set ?_ (by first | omega | (simp; done) | (simp; omega)) (by first | omega | (simp; done) | (simp; omega)) _))); done) | (refine ⟨⟨?_, ?_, ?_, ?_, ?_, ?_, ?_, ?_, ?_, ?_, ?_, ?_, ?_, ?_, ?_⟩, ?_, ?_⟩ <;> first | (go_keep; done) | (simp; done) | (simp; omega) | omega)))
        (first
        | (go_at_call 49; refine (l4of_any _ _ _ _ _ _ _ _ _ _ x.tm _ hj htm).mono ?_; rintro e' wl ⟨vl, rfl, hOl, hbl⟩))
      clear HS
      obtain ⟨al, capl, rfl, HL0, _, gel⟩ := holdWn hOl (Nat.le_trans (winsOf_len _ _ _ _) (by omega))
      have hbl' : Below wr.heap.size wr wl := bel_trans (bel_drew (Below.refl _ _)) hbl
      have hwl := winsOf_len k z p x.tm
      have hOw := ownBel (unhide HO) hbl'
      have hbwl : Below (w.heap.size + 1) (w.alloc (.cells #[.int .i64 s, .int .i64 t, .int .i64 k, .int .i64 z, .int .i64 p, .int .i64 l, .int .i64 e, .bool b, .int .i64 v, .int .i64 r] 24)) wl := hbw.trans (hbl'.mono (by have h9 := hbw.size; simpa using h9))
      have hne0 : ∀ q, u5.ownBlock = some q → ∀ gl ol, 0 < (winsOf k z p x.tm).length → al = some ⟨gl, ol, none⟩ → q ≠ gl := fun q hq gl ol hp ha => by have h1 := unhide hlt5 q hq; have h2 := gel gl ol hp ha; (try simp at h2); omega
      clear hOl hbl HO hge hlt5 gel
      go_wp2
      go_loopw [5, 8] (fun v' mv w2 => ∃ m : Nat, m ≤ (winsOf k z p x.tm).length ∧ mv = .int .i64 m ∧ OwnLp w2 (w.heap.size + 1) v' (prsT k z p (xs.take i) ++ ((winsOf k z p x.tm).take m).map (mkP x)) ∧ WnRs w2 al (winsOf k z p x.tm).length (winsOf k z p x.tm) ∧ (∀ q, v'.ownBlock = some q → ∀ gl ol, 0 < (winsOf k z p x.tm).length → al = some ⟨gl, ol, none⟩ → q ≠ gl) ∧ Below (w.heap.size + 1) (w.alloc (.cells #[.int .i64 s, .int .i64 t, .int .i64 k, .int .i64 z, .int .i64 p, .int .i64 l, .int .i64 e, .bool b, .int .i64 v, .int .i64 r] 24)) w2) (fun _ mv _ => (winsOf k z p x.tm).length - (intOf mv).toNat)
      case atStart => exact ⟨0, Nat.zero_le _, rfl, by rw [List.take_zero, List.map_nil, List.append_nil]; exact hOw, HL0, hne0, hbwl⟩
      case round =>
        obtain ⟨m, hml, rfl, hO, HL, hnb, hb2⟩ := hrel
        have hb02 : Below w.heap.size w wr := bel_trans (bel_one _ _) (by simpa using hb2)
        have HO := hide hO
        have hge := hide (ownLp_ge hO)
        clear hO
        by_cases hmlt : m < (winsOf k z p x.tm).length
        · obtain ⟨hyl, _, hy⟩ := HL
          obtain ⟨gl, ol, rfl, hrl⟩ := hy.resolve_left (by omega)
          obtain ⟨y, hyk⟩ : ∃ y, (winsOf k z p x.tm)[m]? = some y := ⟨_, List.getElem?_eq_getElem hmlt⟩
          have hY := hide hyk
          have hne : Hid (∀ q, u5.ownBlock = some q → q ≠ gl) := hide (fun q hq => hnb q hq gl ol (by omega) rfl)
          have HNB := hide hnb
          have hgl : gl < wr.heap.size := hrl.lt (by omega)
          have HLr := hide hrl
          have hlr : (prsT k z p (xs.take i) ++ ((winsOf k z p x.tm).take m).map (mkP x)).length ≤ 8000 := by
            have h1 := prsT_len k z p (xs.take i)
            rw [List.length_take] at h1
            rw [List.length_append, List.length_map, List.length_take]
            omega
          have HS : ((wr.cell? ⟨g, o + i * 5, none⟩ = some (.int .i64 x.kd) ∧ wr.cell? ⟨g, o + i * 5 + 1, none⟩ = some (.int .i64 x.tm) ∧ wr.cell? ⟨g, o + i * 5 + 2, none⟩ = some (.int .i64 x.ke) ∧ wr.cell? ⟨g, o + i * 5 + 3, none⟩ = some (.int .i64 x.va) ∧ wr.cell? ⟨g, o + i * 5 + 4, none⟩ = some (.int .i64 x.nn) ∧ wr.cell? ⟨gl, ol + m * 2, none⟩ = some (.int .i64 y.a) ∧ wr.cell? ⟨gl, ol + m * 2 + 1, none⟩ = some (.int .i64 y.b)) ∧ g < wr.heap.size ∧ gl < wr.heap.size) := by
            obtain ⟨d0, d1, d2, d3, d4⟩ := (unhide HR i _ hxk).below hb02 hg
            obtain ⟨e0, e1⟩ := hrl m _ hyk
            exact ⟨⟨d0, d1, d2, d3, d4, e0, e1⟩, Nat.lt_of_lt_of_le hg hb02.size, hgl⟩
          clear hnb hrl hyk hy
          go_wp2
          go_region_held3 (fun W => ((W.cell? ⟨g, o + i * 5, none⟩ = some (.int .i64 x.kd) ∧ W.cell? ⟨g, o + i * 5 + 1, none⟩ = some (.int .i64 x.tm) ∧ W.cell? ⟨g, o + i * 5 + 2, none⟩ = some (.int .i64 x.ke) ∧ W.cell? ⟨g, o + i * 5 + 3, none⟩ = some (.int .i64 x.va) ∧ W.cell? ⟨g, o + i * 5 + 4, none⟩ = some (.int .i64 x.nn) ∧ W.cell? ⟨gl, ol + m * 2, none⟩ = some (.int .i64 y.a) ∧ W.cell? ⟨gl, ol + m * 2 + 1, none⟩ = some (.int .i64 y.b)) ∧ g < W.heap.size ∧ gl < W.heap.size)) ((first | ((repeat (first | (with_reducible assumption) | (with_reducible refine hd_5_2 ?_ (by with_reducible assumption)) | (with_reducible refine hd_5_2 ?_ (bel_drew (Below.refl _ _))) | (with_reducible exact hd_5_2_re (by with_reducible assumption) (by first | omega | (simp; done) | (simp; omega)) (by first | omega | (simp; done) | (simp; omega))) | (with_reducible refine hd_5_2 ?_ (bel_one _ _)) | (with_reducible refine hd_5_2_set ?_ (by first | omega | (simp; done) | (simp; omega)) (by first | omega | (simp; done) | (simp; omega)) _))); done) | (refine ⟨⟨?_, ?_, ?_, ?_, ?_, ?_, ?_⟩, ?_, ?_⟩ <;> first | (go_keep; done) | (simp; done) | (simp; omega) | omega)))
            (first
            | (refine step_append_at rfl (.tmp 38) (.tmp 48) 32 rfl (w.heap.size + 1) 57 i0 _ 7 56 Tryz.underlying32 hi hz0 hz1 hz2 rfl (by decide) u5 _ (flatLp (prsT k z p (xs.take i) ++ ((winsOf k z p x.tm).take m).map (mkP x))) (by simp [Act.eval]) (World.ownsRow.alloc (ownBel (unhide HO) (bel_drew (Below.refl _ _))) _) ⟨wr.heap.size, 0, none⟩ 1 1 [.int .i64 x.kd, .int .i64 x.tm, .int .i64 x.ke, .int .i64 x.va, .int .i64 x.nn, .int .i64 y.a, .int .i64 y.b] (by simp [Act.eval]) rfl (cells_atLp _ x.kd x.tm x.ke x.va x.nn y.a y.b _ rfl) (by simp [Value.oneCell']) (by unfold maxLen; omega) (by omega) (by have h9 := hb2.size; simp at h9 ⊢; omega) ?_; intro v' w1 hown' hgrow hblk; have HS1 : ((w1.cell? ⟨g, o + i * 5, none⟩ = some (.int .i64 x.kd) ∧ w1.cell? ⟨g, o + i * 5 + 1, none⟩ = some (.int .i64 x.tm) ∧ w1.cell? ⟨g, o + i * 5 + 2, none⟩ = some (.int .i64 x.ke) ∧ w1.cell? ⟨g, o + i * 5 + 3, none⟩ = some (.int .i64 x.va) ∧ w1.cell? ⟨g, o + i * 5 + 4, none⟩ = some (.int .i64 x.nn) ∧ w1.cell? ⟨gl, ol + m * 2, none⟩ = some (.int .i64 y.a) ∧ w1.cell? ⟨gl, ol + m * 2 + 1, none⟩ = some (.int .i64 y.b)) ∧ g < w1.heap.size ∧ gl < w1.heap.size) := pr_keep HS (show Below wr.heap.size wr _ from (by repeat (first | (with_reducible exact Below.refl _ _) | (with_reducible assumption) | (with_reducible refine bel_set ?_ (by first | (simp; done) | (simp; omega)) _) | (with_reducible refine bel_alloc ?_ _) | (with_reducible refine bel_drew ?_) | (with_reducible refine bel_drewN ?_ _) | (with_reducible refine bel_trans ?_ (by with_reducible assumption))))) hgrow (fun e9 => by have := unhide hge _ e9.symm; omega) (fun e9 => unhide hne gl e9.symm rfl); have hb1 : Below (w.heap.size + 1) (w.alloc (.cells #[.int .i64 s, .int .i64 t, .int .i64 k, .int .i64 z, .int .i64 p, .int .i64 l, .int .i64 e, .bool b, .int .i64 v, .int .i64 r] 24)) w1 := (((hb2.trans ⟨rfl, rfl, rfl, Nat.le_refl _, fun _ _ => rfl⟩ : Below (w.heap.size + 1) (w.alloc (.cells #[.int .i64 s, .int .i64 t, .int .i64 k, .int .i64 z, .int .i64 p, .int .i64 l, .int .i64 e, .bool b, .int .i64 v, .int .i64 r] 24)) wr.drew).alloc (by have h9 := hb2.size; simpa using h9) _)).grown hgrow (by have h9 := hb2.size; simp at h9 ⊢; omega) (unhide hge)))
          all_goals
            go_wp2
            go_roundw
            case rel => exact ⟨m + 1, by omega, by go_num, keepP (unhide hY) hown', ⟨rfl, by unfold maxLen; omega, Or.inr ⟨gl, ol, rfl, fun q y' hy' => ((unhide HLr q y' hy').below (bel_alloc (bel_drew (Below.refl _ _)) _) hgl).grown hgrow (fun e9 => unhide hne gl e9.symm rfl)⟩⟩, (fun q hq gl' ol' hp ha => hblk.elim (fun e => unhide HNB q (by rw [← e]; exact hq) gl' ol' hp ha) (fun e => by rw [e] at hq; simp at hq ha; omega)), hb1⟩
            case measure => simp [intOf]; omega
        · obtain rfl : m = (winsOf k z p x.tm).length := by omega
          have HQ : Hid (prsT k z p (xs.take i) ++ ((winsOf k z p x.tm).take (winsOf k z p x.tm).length).map (mkP x) = prsT k z p (xs.take (i + 1))) := hide (by rw [prsT_snoc hxk, List.take_of_length_le (Nat.le_refl _)]; rfl)
          go_wp2
          go_roundw
          case rel => exact ⟨i + 1, by omega, by go_num, by rw [← unhide HQ]; exact unhide HO, hb2⟩
          case measure => simp [intOf]; omega
    · have HQ : Hid (prsT k z p (xs.take i) = prsT k z p xs) := hide (by rw [List.take_of_length_le (by omega)])
      go_wp2
      go_ret
      refine ⟨_, rfl, ?_, hb0⟩
      rw [← unhide HQ]
      exact World.ownsRow.mono (unhide HO) (by omega)

end Go.Proofs.YtbockbdlojkpiaaGreat
/- Proved here: the program's look whether items are records that may be looked at; all pairs, in the specification, at every argument. -/
namespace Go.Proofs.YtbockbdlojkpiaaGreat
open Go.ChangeShapes Go.WideShapes Go.ChangeAt Go.RowKit
set_option linter.unusedVariables false

theorem all_tt {α : Type} {xs : List α} {p : α → Bool} {k : Nat} {x : α} (h : (xs.take k).all p = true) (hx : xs[k]? = some x) (hp : p x = true) : (xs.take (k + 1)).all p = true := by
  rw [List.take_add_one, hx, List.all_append, h]
  simp [hp]
theorem all_ff {α : Type} {xs : List α} {p : α → Bool} {k : Nat} {x : α} (hx : xs[k]? = some x) (hp : p x = false) : xs.all p = false := by
  rw [List.all_eq_false]
  exact ⟨x, List.mem_of_getElem? hx, by simp [hp]⟩

set_option maxRecDepth 20000 in
set_option maxHeartbeats 1000000 in
theorem everyRec_any (a : Option Addr) (len cap : Nat) (xs : List IwR) (w : World) (h : IwRs w a len xs) : Calls Tryz.prog 65 #[.slice a len cap, .func (.func 66) #[] #[]] w fun e w' => e = .returned (.bool (xs.all IwR.isB)) ∧ Below w.heap.size w w' := by
  have hm := h.2.1
  unfold maxLen at hm
  go_enter Tryz.func65, Tryz.ntmps65
  go_wp2
  go_loopw [9] (fun i wr => ∃ k : Nat, k ≤ len ∧ i = .int .i64 k ∧ Hid ((xs.take k).all IwR.isB = true) ∧ Below w.heap.size w wr) (fun i _ => len - (intOf i).toNat)
  case atStart => exact ⟨0, Nat.zero_le _, rfl, hide (by simp), Below.refl _ _⟩
  case round =>
    obtain ⟨k, hk, rfl, hA, hbw⟩ := hrel
    by_cases hlt : k < len
    · obtain ⟨hxl, _, hx⟩ := h
      obtain ⟨g, o, rfl, hr⟩ := hx.resolve_left (by omega)
      obtain ⟨x, hxk⟩ : ∃ x, xs[k]? = some x := ⟨_, List.getElem?_eq_getElem (by omega)⟩
      have hg : g < w.heap.size := hr.lt (by omega)
      have hX := hide hxk
      obtain ⟨d0, d1, d2, d3, d4⟩ := (hr k _ hxk).below hbw hg
      clear hx hxk hr
      cases hB : isRecB x.kd x.tm x.ke x.va x.nn
      · have HE : Hid (xs.all IwR.isB = false) := hide (all_ff (unhide hX) hB)
        go_wp2_with (go_at_call 66; refine (isrec_any _ _ _ _ _ _).mono ?_; rintro e wf ⟨rfl, hb⟩; obtain ⟨hc, hf, hsz⟩ := bcell hb)
        go_ret
        exact ⟨ret_b (unhide HE).symm, (by repeat (first | (with_reducible exact Below.refl _ _) | (with_reducible assumption) | (with_reducible refine bel_set ?_ (by first | (simp; done) | (simp; omega)) _) | (with_reducible refine bel_alloc ?_ _) | (with_reducible refine bel_drew ?_) | (with_reducible refine bel_drewN ?_ _) | (with_reducible refine bel_trans ?_ (by with_reducible assumption))))⟩
      · have HE : Hid ((xs.take (k + 1)).all IwR.isB = true) := hide (all_tt (unhide hA) (unhide hX) hB)
        go_wp2_with (go_at_call 66; refine (isrec_any _ _ _ _ _ _).mono ?_; rintro e wf ⟨rfl, hb⟩; obtain ⟨hc, hf, hsz⟩ := bcell hb)
        go_roundw
        case rel => exact ⟨k + 1, by omega, by go_num, HE, (by repeat (first | (with_reducible exact Below.refl _ _) | (with_reducible assumption) | (with_reducible refine bel_set ?_ (by first | (simp; done) | (simp; omega)) _) | (with_reducible refine bel_alloc ?_ _) | (with_reducible refine bel_drew ?_) | (with_reducible refine bel_drewN ?_ _) | (with_reducible refine bel_trans ?_ (by with_reducible assumption))))⟩
        case measure => simp [intOf]; omega
    · have HE : Hid (xs.all IwR.isB = true) := hide (by have h1 := unhide hA; rwa [List.take_of_length_le (by have := h.1; omega)] at h1)
      go_wp2
      go_ret
      exact ⟨ret_b (unhide HE).symm, hbw⟩

theorem recsok_any (a : Option Addr) (len cap : Nat) (xs : List IwR) (w : World) (h : IwRs w a len xs) : Calls Tryz.prog 45 #[.slice a len cap] w fun e w' => e = .returned (.bool (recsB xs)) ∧ Below w.heap.size w w' := by
  have hm := h.2.1
  have hle := h.1
  unfold maxLen at hm
  by_cases h120 : (len : Int) ≤ 120
  · have HV : Hid (recsB xs = xs.all IwR.isB) := hide (by unfold recsB; rw [decide_eq_true (by omega), Bool.true_and])
    go_enter Tryz.func45, Tryz.ntmps45
    go_wp2_with (go_at_call 65; refine (everyRec_any a len cap xs _ h).mono ?_; rintro e wf ⟨rfl, hb⟩)
    go_ret
    exact ⟨ret_b (unhide HV).symm, (by repeat (first | (with_reducible exact Below.refl _ _) | (with_reducible assumption) | (with_reducible refine bel_set ?_ (by first | (simp; done) | (simp; omega)) _) | (with_reducible refine bel_alloc ?_ _) | (with_reducible refine bel_drew ?_) | (with_reducible refine bel_drewN ?_ _) | (with_reducible refine bel_trans ?_ (by with_reducible assumption))))⟩
  · have HV := hide (recsB_len (xs := xs) (by omega))
    have hd : decide ((len : Int) ≤ 120) = false := decide_eq_false h120
    go_enter Tryz.func45, Tryz.ntmps45
    go_wp2_with fail
    go_ret
    exact ⟨ret_b (unhide HV).symm, (by repeat (first | (with_reducible exact Below.refl _ _) | (with_reducible assumption) | (with_reducible refine bel_set ?_ (by first | (simp; done) | (simp; omega)) _) | (with_reducible refine bel_alloc ?_ _) | (with_reducible refine bel_drew ?_) | (with_reducible refine bel_drewN ?_ _) | (with_reducible refine bel_trans ?_ (by with_reducible assumption))))⟩

set_option maxRecDepth 20000 in
set_option maxHeartbeats 1000000 in
theorem specpairs_any (s t k z p l e : Int) (b : Bool) (v r : Int) (a : Option Addr) (len cap : Nat) (xs : List IwR) (w : World) (h : IwRs w a len xs) : Calls Tryz.prog 24 #[.agg #[.int .i64 s, .int .i64 t, .int .i64 k, .int .i64 z, .int .i64 p, .int .i64 l, .int .i64 e, .bool b, .int .i64 v, .int .i64 r], .slice a len cap] w fun e' w' => ∃ v', e' = .returned v' ∧ OwnLp w' w.heap.size v' (pairsT s t k z p l e v r xs) ∧ Below w.heap.size w w' := by
  cases hj : okJob s t k z p l e v r
  · have HQ : Hid (pairsT s t k z p l e v r xs = []) := hide (by unfold pairsT; rw [if_neg (by simp [hj])])
    go_enter Tryz.func24, Tryz.ntmps24
    go_wp2_with fail
    refine (specjobok_any _ _ _ _ _ _ _ _ _ _ _).mono ?_
    rintro e' wa ⟨rfl, hba⟩
    go_wp2_with fail
    go_ret
    refine ⟨_, rfl, ?_, (by repeat (first | (with_reducible exact Below.refl _ _) | (with_reducible assumption) | (with_reducible refine bel_set ?_ (by first | (simp; done) | (simp; omega)) _) | (with_reducible refine bel_alloc ?_ _) | (with_reducible refine bel_drew ?_) | (with_reducible refine bel_drewN ?_ _) | (with_reducible refine bel_trans ?_ (by with_reducible assumption))))⟩
    rw [unhide HQ]
    exact World.ownsRow.mono (ownBel (ownLit (W := w.alloc (.cells #[.int .i64 s, .int .i64 t, .int .i64 k, .int .i64 z, .int .i64 p, .int .i64 l, .int .i64 e, .bool b, .int .i64 v, .int .i64 r] 24)) (B := w.heap.size + 1) (g := w.heap.size + 1) _ _ (by simp) (by simp)) hba) (by omega)
  cases hr : recsB xs
  · have HQ : Hid (pairsT s t k z p l e v r xs = []) := hide (by unfold pairsT; rw [if_neg (by simp [hr])])
    go_enter Tryz.func24, Tryz.ntmps24
    go_wp2_with fail
    refine (specjobok_any _ _ _ _ _ _ _ _ _ _ _).mono ?_
    rintro e' wa ⟨rfl, hba⟩
    go_wp2_with fail
    refine (l6recs_any a len cap xs _ (h.below (bel_trans (bel_alloc (bel_one _ _) _) hba))).mono ?_
    rintro e' wq ⟨rfl, hbq⟩
    go_wp2_with fail
    go_ret
    refine ⟨_, rfl, ?_, (by repeat (first | (with_reducible exact Below.refl _ _) | (with_reducible assumption) | (with_reducible refine bel_set ?_ (by first | (simp; done) | (simp; omega)) _) | (with_reducible refine bel_alloc ?_ _) | (with_reducible refine bel_drew ?_) | (with_reducible refine bel_drewN ?_ _) | (with_reducible refine bel_trans ?_ (by with_reducible assumption))))⟩
    rw [unhide HQ]
    exact World.ownsRow.mono (ownBel (ownLit (W := w.alloc (.cells #[.int .i64 s, .int .i64 t, .int .i64 k, .int .i64 z, .int .i64 p, .int .i64 l, .int .i64 e, .bool b, .int .i64 v, .int .i64 r] 24)) (B := w.heap.size + 1) (g := w.heap.size + 1) _ _ (by simp) (by simp)) (bel_trans hba hbq)) (by omega)
  · have HQ : pairsT s t k z p l e v r xs = prsT k z p xs := by unfold pairsT; rw [if_pos (by simp [hj, hr])]
    rw [HQ]
    exact specpairs_yes s t k z p l e b v r a len cap xs w h hj hr

end Go.Proofs.YtbockbdlojkpiaaGreat
/- Proved here: the iterator over all pairs of records and windows tells them, one behind the other. -/
namespace Go.Proofs.YtbockbdlojkpiaaGreat
open Go.RowKit Go.Shelf
set_option linter.unusedVariables false
attribute [local go_sem] Oper.semAt_some

/-- What a round leaves as it was: what is old, and every block of windows and of items. -/
def KpW (n₀ : Nat) (W W' : World) : Prop := Below n₀ W W' ∧ ∀ (b : Nat) (cs : Array Value) (ty : TypeId), (ty = 35 ∨ ty = 41) → W.heap[b]? = some (Obj.cells cs ty (0, 0)) → W'.heap[b]? = some (Obj.cells cs ty (0, 0))
theorem KpW.rfl' (n₀ : Nat) (W : World) : KpW n₀ W W := ⟨Below.refl _ _, fun _ _ _ _ h => h⟩
theorem KpW.trans {n₀ : Nat} {A B C : World} (h : KpW n₀ A B) (k : KpW n₀ B C) : KpW n₀ A C := ⟨h.1.trans k.1, fun b cs ty ht hb => k.2 b cs ty ht (h.2 b cs ty ht hb)⟩
theorem KpW.put {n₀ : Nat} {w : World} (hn : n₀ ≤ w.heap.size) (W : World) (l : Nat) (o o' : Obj) (hl : w.heap.size ≤ l) (h : W.heap[l]? = some o) (hc : o.isCells = false) (hw : o.isWalk = false) : KpW n₀ W (W.putObj l o') := by
  refine ⟨belowK_b hn W l o o' hl h hc hw, fun b cs ty _ hb => ?_⟩
  have hne : b ≠ l := by
    rintro rfl
    rw [hb] at h
    cases h
    cases hc
  rw [World.putObj_heap_other hne]
  exact hb
theorem KpW.of_bel {n₀ : Nat} {W W' : World} (hb : Below W.heap.size W W') (hn : n₀ ≤ W.heap.size) : KpW n₀ W W' := ⟨hb.mono hn, fun b cs ty _ h => (hb.block b (Array.getElem?_eq_some_iff.1 h).1).trans h⟩
theorem ownWn_kp {n₀ B : Nat} {W W' : World} {v : Value} {ys : List WnR} (h : OwnWn W B v ys) (hk : KpW n₀ W W') : OwnWn W' B v ys := by
  rcases h with ⟨hl, h | ⟨g, cap, cur, hv, hB, hblk, r⟩⟩
  · exact ⟨hl, Or.inl h⟩
  · exact ⟨hl, Or.inr ⟨g, cap, cur, hv, hB, hk.2 g cur _ (Or.inl rfl) hblk, r⟩⟩
def BxI (W : World) (q : Nat) (x : IwR) : Prop := W.heap[q]? = some (.cells #[.int .i64 x.kd, .int .i64 x.tm, .int .i64 x.ke, .int .i64 x.va, .int .i64 x.nn] 41 (0, 0))
theorem BxI.kp {n₀ q : Nat} {W W' : World} {x : IwR} (h : BxI W q x) (hk : KpW n₀ W W') : BxI W' q x := hk.2 q _ _ (Or.inr rfl) h
theorem BxI.new (W : World) (x : IwR) : BxI (W.alloc (.cells #[.int .i64 x.kd, .int .i64 x.tm, .int .i64 x.ke, .int .i64 x.va, .int .i64 x.nn] 41)) W.heap.size x := World.alloc_heap_new W _
theorem BxI.cells {W : World} {q : Nat} {x : IwR} (h : BxI W q x) : W.cell? ⟨q, 0, none⟩ = some (.int .i64 x.kd) ∧ W.cell? ⟨q, 1, none⟩ = some (.int .i64 x.tm) ∧ W.cell? ⟨q, 2, none⟩ = some (.int .i64 x.ke) ∧ W.cell? ⟨q, 3, none⟩ = some (.int .i64 x.va) ∧ W.cell? ⟨q, 4, none⟩ = some (.int .i64 x.nn) := ⟨(Joins.cell_of_block h 0), (Joins.cell_of_block h 1), (Joins.cell_of_block h 2), (Joins.cell_of_block h 3), (Joins.cell_of_block h 4)⟩
theorem grown_of {W W' : World} (h : Below W.heap.size W W') : W.grownBy W' none := ⟨h.os, h.tape, h.output, h.size, fun k hk _ => h.block k hk⟩

/-- All pairs, as the program tells them. -/
def prsI (s t k z p l e v r : Int) (xs : List IwR) : List LpR := xs.flatMap fun x => (winsAll s t k z p l e v r x.tm).map (mkP x)
def pairsI (s t k z p l e v r : Int) (xs : List IwR) : List LpR := if recsB xs = true then prsI s t k z p l e v r xs else []
theorem prsI_snoc {s t k z p l e v r : Int} {xs : List IwR} {i : Nat} {x : IwR} (h : xs[i]? = some x) : prsI s t k z p l e v r (xs.take (i + 1)) = prsI s t k z p l e v r (xs.take i) ++ (winsAll s t k z p l e v r x.tm).map (mkP x) := by
  unfold prsI; rw [take_snocI h, List.flatMap_append]; simp
theorem prsI_len (s t k z p l e v r : Int) (xs : List IwR) : (prsI s t k z p l e v r xs).length ≤ xs.length * 61 := by
  induction xs with
  | nil => simp [prsI]
  | cons x q ih =>
    have e1 : prsI s t k z p l e v r (x :: q) = (winsAll s t k z p l e v r x.tm).map (mkP x) ++ prsI s t k z p l e v r q := by simp [prsI]
    have := winsAll_len s t k z p l e v r x.tm
    rw [e1, List.length_append, List.length_cons, List.length_map]
    omega
theorem prsI_pre (s t k z p l e v r : Int) (xs : List IwR) (i : Nat) : prsI s t k z p l e v r (xs.take i) <+: prsI s t k z p l e v r xs := by
  refine ⟨prsI s t k z p l e v r (xs.drop i), ?_⟩
  unfold prsI
  rw [← List.flatMap_append, List.take_append_drop]
theorem prsI_in {s t k z p l e v r : Int} {xs : List IwR} {i m : Nat} {x : IwR} (h : xs[i]? = some x) : prsI s t k z p l e v r (xs.take i) ++ ((winsAll s t k z p l e v r x.tm).take m).map (mkP x) <+: prsI s t k z p l e v r xs := by
  refine List.IsPrefix.trans ?_ (prsI_pre s t k z p l e v r xs (i + 1))
  rw [prsI_snoc h]
  refine List.prefix_append_right_inj _ |>.2 ?_
  rw [List.map_take]
  exact List.take_prefix _ _
theorem pairsI_eq (s t k z p l e v r : Int) (xs : List IwR) : pairsI s t k z p l e v r xs = pairsT s t k z p l e v r xs := by
  unfold pairsI pairsT
  cases hr : recsB xs
  · simp
  cases hj : okJob s t k z p l e v r
  · simp only [Bool.false_and]
    rw [if_pos trivial, if_neg (by simp)]
    unfold prsI winsAll
    simp [hj]
  · simp only [Bool.and_self]
    rw [if_pos trivial, if_pos trivial]
    have hall := (recsB_iff hr).2
    unfold prsI prsT prsOf winsAll
    have hin : ∀ x ∈ xs, inB x.tm 0 60 = true := fun x hx => inB_iff.2 (isB_tm (List.all_eq_true.1 hall x hx))
    clear hr hall
    induction xs with
    | nil => rfl
    | cons x q ih =>
      rw [List.flatMap_cons, List.flatMap_cons, ih (fun y hy => hin y (by simp [hy]))]
      simp [hj, hin x (by simp)]
theorem take_snocM {ws : List WnR} {m : Nat} {x : IwR} {y : WnR} {ys : List LpR} (h : ws[m]? = some y) : ys ++ (ws.take (m + 1)).map (mkP x) = (ys ++ (ws.take m).map (mkP x)) ++ [mkP x y] := by rw [take_snocI h]; simp

set_option maxRecDepth 100000 in
set_option maxHeartbeats 4000000 in
theorem pairs1_in (n : Nat) (hn : 2 ≤ n) (lb0 Br Bj n₀ len cap : Nat) (a : Option Addr) (xs : List IwR) (s t k z p l e : Int) (b : Bool) (v r : Int) (J Jx : List LpR → World → Prop)
    (hY : ∀ pre x W, J pre W → pre.length < 10000 → YieldAt Fence.wide (n - 1) Tryz.prog lb0 #[.agg #[.int .i64 x.kd, .int .i64 x.tm, .int .i64 x.ke, .int .i64 x.va, .int .i64 x.nn, .int .i64 x.st, .int .i64 x.en]] W fun e W' =>
      (e = .returned (.bool true) ∧ J (pre ++ [x]) W' ∧ KpW n₀ W W') ∨ (e = .returned (.bool false) ∧ Jx (pre ++ [x]) W'))
    (W : World) (hJ : AbidesFrom W.heap.size J) (hJx : AbidesFrom W.heap.size Jx) (hnW : n₀ ≤ W.heap.size) (hBr : W.cell? ⟨Br, 0, none⟩ = some (.slice a len cap)) (hrn : Br < n₀) (hBj : W.cell? ⟨Bj, 0, none⟩ = some (.int .i64 s) ∧ W.cell? ⟨Bj, 1, none⟩ = some (.int .i64 t) ∧ W.cell? ⟨Bj, 2, none⟩ = some (.int .i64 k) ∧ W.cell? ⟨Bj, 3, none⟩ = some (.int .i64 z) ∧ W.cell? ⟨Bj, 4, none⟩ = some (.int .i64 p) ∧ W.cell? ⟨Bj, 5, none⟩ = some (.int .i64 l) ∧ W.cell? ⟨Bj, 6, none⟩ = some (.int .i64 e) ∧ W.cell? ⟨Bj, 7, none⟩ = some (.bool b) ∧ W.cell? ⟨Bj, 8, none⟩ = some (.int .i64 v) ∧ W.cell? ⟨Bj, 9, none⟩ = some (.int .i64 r)) (hjn : Bj < n₀) (hI : IwRs W a len xs) (hlow : ∀ g o, 0 < len → a = some ⟨g, o, none⟩ → g < n₀) (h0 : J [] W) :
    CallsIn Fence.wide n Tryz.prog 44 #[.func (.yield lb0) #[] #[], .pointer (some ⟨Br, 0, none⟩), .pointer (some ⟨Bj, 0, none⟩)] W fun e' W' => (∃ v', e' = .returned v') ∧
      ((∃ ys, ys = pairsI s t k z p l e v r xs ∧ J ys W') ∨ (∃ pre, pre <+: pairsI s t k z p l e v r xs ∧ Jx pre W')) := by
  have hm := hI.2.1
  unfold maxLen at hm
  refine callsIn_of_wp Tryz.func44 rfl trivial ?_ rfl
  simp only [Tryz.ntmps44, List.size_toArray, List.length_cons, List.length_nil, Nat.reduceAdd, Nat.reduceSub, Array.replicate_succ, Array.replicate_zero, List.push_toArray, List.append_toArray, List.nil_append, List.cons_append]
  cases hrB : recsB xs
  · have HQ : Hid (pairsI s t k z p l e v r xs = []) := hide (by unfold pairsI; rw [if_neg (by simp [hrB])])
    gi_wp2_with (refine ⟨trivial, fun _ => (by omega), ?_⟩; gi_at_call 45; refine (callsIn_wide.2 (recsok_any _ _ _ xs _ hI)).mono ?_; rintro e' w' ⟨rfl, hb⟩)
    refine bodyPost_ret (results_none rfl _ _ _) rfl ?_
    exact ⟨⟨_, rfl⟩, .inl ⟨_, (unhide HQ).symm, hJ _ W w' none h0 (grown_of hb) (fun r e => by cases e)⟩⟩
  · have HQ : Hid (pairsI s t k z p l e v r xs = prsI s t k z p l e v r xs) := hide (by unfold pairsI; rw [if_pos hrB])
    obtain ⟨h120, _⟩ := recsB_iff hrB
    have hxl := hI.1
    gi_wp2_with (refine ⟨trivial, fun _ => (by omega), ?_⟩; gi_at_call 45; refine (callsIn_wide.2 (recsok_any _ _ _ xs _ hI)).mono ?_; rintro e' w0 ⟨rfl, hb0⟩; have hBr0 := (hb0.cell (p := ⟨Br, 0, none⟩) (Nat.lt_of_lt_of_le hrn hnW)).trans hBr)
    have hJ0 := hJ _ W w0 none h0 (grown_of hb0) (fun r e => by cases e)
    gi_loopw [13] (fun iv wr => ∃ i : Nat, i ≤ len ∧ iv = .int .i64 i ∧ J (prsI s t k z p l e v r (xs.take i)) wr ∧ Below n₀ W wr) (fun iv _ => len - (intOf iv).toNat)
    case atStart => exact ⟨0, Nat.zero_le _, rfl, hJ0, hb0.mono hnW⟩
    case round =>
      obtain ⟨i, hil, rfl, hJs, hnx⟩ := hrel
      by_cases hlt : i < len
      · obtain ⟨_, _, hx⟩ := hI
        obtain ⟨g, o, rfl, hr⟩ := hx.resolve_left (by omega)
        obtain ⟨x, hxk⟩ : ∃ x, xs[i]? = some x := ⟨_, List.getElem?_eq_getElem (by omega)⟩
        have hX := hide hxk
        have hg : g < n₀ := hlow g o (by omega) rfl
        obtain ⟨c0, c1, c2, c3, c4⟩ := (hr i _ hxk).below hnx hg
        obtain ⟨q0, q1, q2, q3, q4, q5, q6, q7, q8, q9⟩ := hBj
        have z0 := (hnx.cell (p := ⟨Bj, 0, none⟩) hjn).trans q0
        have z1 := (hnx.cell (p := ⟨Bj, 1, none⟩) hjn).trans q1
        have z2 := (hnx.cell (p := ⟨Bj, 2, none⟩) hjn).trans q2
        have z3 := (hnx.cell (p := ⟨Bj, 3, none⟩) hjn).trans q3
        have z4 := (hnx.cell (p := ⟨Bj, 4, none⟩) hjn).trans q4
        have z5 := (hnx.cell (p := ⟨Bj, 5, none⟩) hjn).trans q5
        have z6 := (hnx.cell (p := ⟨Bj, 6, none⟩) hjn).trans q6
        have z7 := (hnx.cell (p := ⟨Bj, 7, none⟩) hjn).trans q7
        have z8 := (hnx.cell (p := ⟨Bj, 8, none⟩) hjn).trans q8
        have z9 := (hnx.cell (p := ⟨Bj, 9, none⟩) hjn).trans q9
        have hwj : Bj < wr.heap.size := Nat.lt_of_lt_of_le hjn (Nat.le_trans hnW hnx.size)
        have hwl := winsAll_len s t k z p l e v r x.tm
        have hpl := prsI_len s t k z p l e v r (xs.take i)
        rw [List.length_take] at hpl
        clear hx hxk hr q0 q1 q2 q3 q4 q5 q6 q7 q8 q9
        gi_wp2_with (refine ⟨trivial, fun _ => (by omega), ?_⟩; gi_at_call 19; refine (callsIn_wide.2 (implwinof_any _ _ _ _ _ _ _ _ _ _ x.tm _)).mono ?_; rintro e' wl ⟨vl, rfl, hOl, hbl⟩; obtain ⟨al, capl, rfl, HL0, _, _⟩ := holdWn hOl (Nat.le_trans hwl (by omega)))
        have hbl' : Below wr.heap.size wr wl := bel_trans (bel_one _ _) hbl
        have hJl := hJ _ wr wl none hJs (grown_of hbl') (fun r e => by cases e)
        have hBX : BxI wl wr.heap.size x := (BxI.new wr x).kp (KpW.of_bel (n₀ := n₀) hbl (by have := hnx.size; simp; omega))
        have hnl : Below n₀ W wl := hnx.trans (hbl'.mono (Nat.le_trans hnW hnx.size))
        clear HL0 hbl hbl' hJs hnx c0 c1 c2 c3 c4 z0 z1 z2 z3 z4 z5 z6 z7 z8 z9
        gi_loopw [22] (fun mv w2 => ∃ m : Nat, m ≤ (winsAll s t k z p l e v r x.tm).length ∧ mv = .int .i64 m ∧ J (prsI s t k z p l e v r (xs.take i) ++ ((winsAll s t k z p l e v r x.tm).take m).map (mkP x)) w2 ∧ Below n₀ W w2 ∧ BxI w2 wr.heap.size x ∧ OwnWn w2 (wr.alloc (.cells #[.int .i64 x.kd, .int .i64 x.tm, .int .i64 x.ke, .int .i64 x.va, .int .i64 x.nn] 41)).heap.size (.slice al (winsAll s t k z p l e v r x.tm).length capl) (winsAll s t k z p l e v r x.tm)) (fun mv _ => (winsAll s t k z p l e v r x.tm).length - (intOf mv).toNat)
        case atStart => exact ⟨0, Nat.zero_le _, rfl, by rw [List.take_zero, List.map_nil, List.append_nil]; exact hJl, hnl, hBX, hOl⟩
        case round =>
          obtain ⟨m, hml, rfl, hJm, hn2, hBX2, hO2⟩ := hrel
          by_cases hmlt : m < (winsAll s t k z p l e v r x.tm).length
          · obtain ⟨a', cap', e9, HL, _, _⟩ := holdWn hO2 (Nat.le_trans hwl (by omega))
            simp at e9
            obtain ⟨rfl, rfl⟩ := e9
            obtain ⟨_, _, hy⟩ := HL
            obtain ⟨gl, ol, rfl, hrl⟩ := hy.resolve_left (by omega)
            obtain ⟨y, hyk⟩ : ∃ y, (winsAll s t k z p l e v r x.tm)[m]? = some y := ⟨_, List.getElem?_eq_getElem hmlt⟩
            have hYk := hide hyk
            obtain ⟨b0, b1⟩ := hrl m _ hyk
            obtain ⟨x0, x1, x2, x3, x4⟩ := hBX2.cells
            have hlq := (Array.getElem?_eq_some_iff.1 hBX2).1
            have hJa := hJ _ wr (wr.alloc (.cells #[.int .i64 y.a, .int .i64 y.b] 35)) none hJm (grown_of (bel_one _ _)) (fun r e => by cases e)
            obtain ⟨fn, tmps, assign, body, hyl, hR⟩ := hY _ (mkP x y) _ hJa (by rw [List.length_append, List.length_map, List.length_take]; omega)
            dsimp only [mkP] at hyl hR
            have HB2 := hide hBX2
            have HO2 := hide hO2
            clear hy hyk hrl hJa hBX2 hO2
            gi_wp2
            refine ⟨fun _ => (by omega), hR.mono ?_⟩
            rintro e' W3 (⟨rfl, hJ3, hk3⟩ | ⟨rfl, hJx3⟩)
            · gi_wp2
              go_roundw
              case rel => exact ⟨m + 1, by omega, by go_num, by rw [take_snocM (unhide hYk)]; exact hJ3, (hn2.trans ((bel_one _ _).mono (Nat.le_trans hnW hn2.size))).trans hk3.1, ((unhide HB2).kp (KpW.of_bel (n₀ := n₀) (bel_one _ _) (Nat.le_trans hnW hn2.size))).kp hk3, ownWn_kp (ownBel (unhide HO2) (bel_one _ _)) hk3⟩
              case measure => simp [intOf]; omega
            · gi_wp2
              refine bodyPost_ret (results_none rfl _ _ _) rfl ?_
              exact ⟨⟨_, rfl⟩, .inr ⟨_, by rw [unhide HQ]; exact (take_snocM (unhide hYk)) ▸ prsI_in (unhide hX), hJx3⟩⟩
          · obtain rfl : m = (winsAll s t k z p l e v r x.tm).length := by omega
            have HQ2 : Hid (prsI s t k z p l e v r (xs.take i) ++ ((winsAll s t k z p l e v r x.tm).take (winsAll s t k z p l e v r x.tm).length).map (mkP x) = prsI s t k z p l e v r (xs.take (i + 1))) := hide (by rw [prsI_snoc (unhide hX), List.take_of_length_le (Nat.le_refl _)])
            rw [unhide HQ2] at hJm
            gi_wp2
            go_roundw
            case rel => exact ⟨i + 1, by omega, by go_num, hJm, hn2⟩
            case measure => simp [intOf]; omega
      · gi_wp2
        go_end0
        exact ⟨⟨_, rfl⟩, .inl ⟨_, by rw [unhide HQ, List.take_of_length_le (by omega)], hJs⟩⟩
end Go.Proofs.YtbockbdlojkpiaaGreat
/- Proved here: all pairs of records and windows, in the program: what the iterator tells is gathered. -/
namespace Go.Proofs.YtbockbdlojkpiaaGreat
open Go.RowKit Go.Shelf
set_option linter.unusedVariables false
attribute [local go_sem] Oper.semAt_some

theorem pairs_stops (n : Nat) (hn : 2 ≤ n) (Br Bj len cap : Nat) (a : Option Addr) (xs : List IwR) (s t k z p l e : Int) (b : Bool) (v r : Int) (w : World) (n₀ : Nat) (hn₀ : n₀ ≤ w.heap.size) (hBr : w.cell? ⟨Br, 0, none⟩ = some (.slice a len cap)) (hrn : Br < n₀) (hBj : w.cell? ⟨Bj, 0, none⟩ = some (.int .i64 s) ∧ w.cell? ⟨Bj, 1, none⟩ = some (.int .i64 t) ∧ w.cell? ⟨Bj, 2, none⟩ = some (.int .i64 k) ∧ w.cell? ⟨Bj, 3, none⟩ = some (.int .i64 z) ∧ w.cell? ⟨Bj, 4, none⟩ = some (.int .i64 p) ∧ w.cell? ⟨Bj, 5, none⟩ = some (.int .i64 l) ∧ w.cell? ⟨Bj, 6, none⟩ = some (.int .i64 e) ∧ w.cell? ⟨Bj, 7, none⟩ = some (.bool b) ∧ w.cell? ⟨Bj, 8, none⟩ = some (.int .i64 v) ∧ w.cell? ⟨Bj, 9, none⟩ = some (.int .i64 r)) (hjn : Bj < n₀) (hI : IwRs w a len xs) (hlow : ∀ g o, 0 < len → a = some ⟨g, o, none⟩ → g < n₀) :
    SeqStopsK Fence.wide n Tryz.prog 44 #[.pointer (some ⟨Br, 0, none⟩), .pointer (some ⟨Bj, 0, none⟩)] (fun x : LpR => #[.agg #[.int .i64 x.kd, .int .i64 x.tm, .int .i64 x.ke, .int .i64 x.va, .int .i64 x.nn, .int .i64 x.st, .int .i64 x.en]]) (KpW n₀) (fun ys => ys = pairsI s t k z p l e v r xs) (fun pre => pre <+: pairsI s t k z p l e v r xs) 10000 w := fun lb0 J Jx W hW hJ hJx hY h0 => by
  obtain ⟨q0, q1, q2, q3, q4, q5, q6, q7, q8, q9⟩ := hBj
  have hB := Nat.lt_of_lt_of_le hjn hn₀
  exact pairs1_in n hn lb0 Br Bj n₀ len cap a xs s t k z p l e b v r J Jx hY W hJ hJx (Nat.le_trans hn₀ hW.size) ((hW.cell (p := ⟨Br, 0, none⟩) (Nat.lt_of_lt_of_le hrn hn₀)).trans hBr) hrn ⟨(hW.cell (p := ⟨Bj, 0, none⟩) hB).trans q0, (hW.cell (p := ⟨Bj, 1, none⟩) hB).trans q1, (hW.cell (p := ⟨Bj, 2, none⟩) hB).trans q2, (hW.cell (p := ⟨Bj, 3, none⟩) hB).trans q3, (hW.cell (p := ⟨Bj, 4, none⟩) hB).trans q4, (hW.cell (p := ⟨Bj, 5, none⟩) hB).trans q5, (hW.cell (p := ⟨Bj, 6, none⟩) hB).trans q6, (hW.cell (p := ⟨Bj, 7, none⟩) hB).trans q7, (hW.cell (p := ⟨Bj, 8, none⟩) hB).trans q8, (hW.cell (p := ⟨Bj, 9, none⟩) hB).trans q9⟩ hjn (hI.below hW) hlow h0

def BxL (W : World) (q : Nat) (x : LpR) : Prop := W.heap[q]? = some (.cells #[.int .i64 x.kd, .int .i64 x.tm, .int .i64 x.ke, .int .i64 x.va, .int .i64 x.nn, .int .i64 x.st, .int .i64 x.en] 57 (0, 0))
theorem BxL.new (W : World) (x : LpR) : BxL (W.alloc (.cells #[.int .i64 x.kd, .int .i64 x.tm, .int .i64 x.ke, .int .i64 x.va, .int .i64 x.nn, .int .i64 x.st, .int .i64 x.en] 57)) W.heap.size x := World.alloc_heap_new W _
theorem BxL.cells {W : World} {q : Nat} {x : LpR} (h : BxL W q x) : W.cell? ⟨q, 0, none⟩ = some (.int .i64 x.kd) ∧ W.cell? ⟨q, 1, none⟩ = some (.int .i64 x.tm) ∧ W.cell? ⟨q, 2, none⟩ = some (.int .i64 x.ke) ∧ W.cell? ⟨q, 3, none⟩ = some (.int .i64 x.va) ∧ W.cell? ⟨q, 4, none⟩ = some (.int .i64 x.nn) ∧ W.cell? ⟨q, 5, none⟩ = some (.int .i64 x.st) ∧ W.cell? ⟨q, 6, none⟩ = some (.int .i64 x.en) := ⟨(Joins.cell_of_block h 0), (Joins.cell_of_block h 1), (Joins.cell_of_block h 2), (Joins.cell_of_block h 3), (Joins.cell_of_block h 4), (Joins.cell_of_block h 5), (Joins.cell_of_block h 6)⟩
theorem kp_app {W w1 : World} {n₀ B : Nat} {v v' : Value} {q : Nat} {ys : List Value} {tmp : Obj} (hv : Boxed W B 32 v) (hrow : W.ownsRow n₀ 57 7 v q ys) (hgrow : (W.alloc tmp).grownBy w1 v.ownBlock) (hb : Below n₀ W (w1.setCell ⟨B, 0, none⟩ v')) : KpW n₀ W (w1.setCell ⟨B, 0, none⟩ v') := by
  refine ⟨hb, fun bl cs ty ht hbl => ?_⟩
  have hlt := (Array.getElem?_eq_some_iff.1 hbl).1
  have h1 : bl ≠ B := by
    rintro rfl
    have := hv
    unfold Boxed at this
    rw [hbl] at this
    simp only [Option.some.injEq, Obj.cells.injEq] at this
    rcases ht with rfl | rfl
    · exact absurd this.2.1 (by decide)
    · exact absurd this.2.1 (by decide)
  have h2 : some bl ≠ v.ownBlock := by
    rcases hrow.2 with ⟨rfl, _⟩ | ⟨g, cp, cur, rfl, _, hgb, _⟩
    · simp [Value.ownBlock]
    · intro e9
      simp [Value.ownBlock] at e9
      subst e9
      rw [hbl] at hgb
      simp only [Option.some.injEq, Obj.cells.injEq] at hgb
      rcases ht with rfl | rfl
      · exact absurd hgb.2.1 (by decide)
      · exact absurd hgb.2.1 (by decide)
  rw [Below.heap_setCell w1 _ v' bl h1, hgrow.block bl (by simp; omega) h2, Below.heap_alloc _ _ _ hlt]
  exact hbl
/-- The frame of a round. -/
def actC (w : World) (Br Bj : Nat) (x : LpR) (q : Nat) : Act := { tmps := #[.slice none 0 0, .func (.func 44) #[] #[.pointer (some ⟨Br, 0, none⟩), .pointer (some ⟨Bj, 0, none⟩)], .pointer (some ⟨w.heap.size, 0, none⟩), undef, .slice none 0 0, .pointer (some ⟨q, 0, none⟩), .func (.func 44) #[] #[.pointer (some ⟨Br, 0, none⟩), .pointer (some ⟨Bj, 0, none⟩)], .agg #[.int .i64 x.kd, .int .i64 x.tm, .int .i64 x.ke, .int .i64 x.va, .int .i64 x.nn, .int .i64 x.st, .int .i64 x.en], undef, undef, undef, undef, undef], defers := [] }

set_option maxRecDepth 100000 in
set_option maxHeartbeats 4000000 in
theorem appendseq_any (Br Bj len cap : Nat) (a : Option Addr) (xs : List IwR) (s t k z p l e : Int) (b : Bool) (v r : Int) (w : World) (h : IwRs w a len xs) (hBr : w.cell? ⟨Br, 0, none⟩ = some (.slice a len cap)) (hrn : Br < w.heap.size) (hBj : w.cell? ⟨Bj, 0, none⟩ = some (.int .i64 s) ∧ w.cell? ⟨Bj, 1, none⟩ = some (.int .i64 t) ∧ w.cell? ⟨Bj, 2, none⟩ = some (.int .i64 k) ∧ w.cell? ⟨Bj, 3, none⟩ = some (.int .i64 z) ∧ w.cell? ⟨Bj, 4, none⟩ = some (.int .i64 p) ∧ w.cell? ⟨Bj, 5, none⟩ = some (.int .i64 l) ∧ w.cell? ⟨Bj, 6, none⟩ = some (.int .i64 e) ∧ w.cell? ⟨Bj, 7, none⟩ = some (.bool b) ∧ w.cell? ⟨Bj, 8, none⟩ = some (.int .i64 v) ∧ w.cell? ⟨Bj, 9, none⟩ = some (.int .i64 r)) (hjn : Bj < w.heap.size) : Calls Tryz.prog 55 #[.slice none 0 0, .func (.func 44) #[] #[.pointer (some ⟨Br, 0, none⟩), .pointer (some ⟨Bj, 0, none⟩)]] w fun e' w' => ∃ v', e' = .returned v' ∧ OwnLp w' w.heap.size v' (pairsI s t k z p l e v r xs) ∧ Below w.heap.size w w' := by
  obtain ⟨i0, hi, hz0', hz1', hz2'⟩ := info_parts Tryz.infoLp
  have hlow : ∀ g' o', 0 < len → a = some ⟨g', o', none⟩ → g' < w.heap.size := fun g' o' hp ha => by subst ha; exact h.lt hp
  refine (callsIn_wide (n := 6)).1 ?_
  refine callsIn_of_wp_marks Tryz.func55 rfl trivial ?_ rfl
  simp only [Tryz.ntmps55, List.size_toArray, List.length_cons, List.length_nil, Nat.reduceAdd, Nat.reduceSub, Array.replicate_succ, Array.replicate_zero, List.push_toArray, List.append_toArray, List.nil_append, List.cons_append]
  gi_wp2
  have bS := Boxed.new w 32 (.slice none 0 0)
  have hB0 : Below w.heap.size w (w.alloc (.cells #[.slice none 0 0] 32)) := bel_one _ _
  have hbj : (w.alloc (.cells #[.slice none 0 0] 32)).cell? ⟨Bj, 0, none⟩ = some (.int .i64 s) ∧ (w.alloc (.cells #[.slice none 0 0] 32)).cell? ⟨Bj, 1, none⟩ = some (.int .i64 t) ∧ (w.alloc (.cells #[.slice none 0 0] 32)).cell? ⟨Bj, 2, none⟩ = some (.int .i64 k) ∧ (w.alloc (.cells #[.slice none 0 0] 32)).cell? ⟨Bj, 3, none⟩ = some (.int .i64 z) ∧ (w.alloc (.cells #[.slice none 0 0] 32)).cell? ⟨Bj, 4, none⟩ = some (.int .i64 p) ∧ (w.alloc (.cells #[.slice none 0 0] 32)).cell? ⟨Bj, 5, none⟩ = some (.int .i64 l) ∧ (w.alloc (.cells #[.slice none 0 0] 32)).cell? ⟨Bj, 6, none⟩ = some (.int .i64 e) ∧ (w.alloc (.cells #[.slice none 0 0] 32)).cell? ⟨Bj, 7, none⟩ = some (.bool b) ∧ (w.alloc (.cells #[.slice none 0 0] 32)).cell? ⟨Bj, 8, none⟩ = some (.int .i64 v) ∧ (w.alloc (.cells #[.slice none 0 0] 32)).cell? ⟨Bj, 9, none⟩ = some (.int .i64 r) := by
    obtain ⟨q0, q1, q2, q3, q4, q5, q6, q7, q8, q9⟩ := hBj
    exact ⟨(hB0.cell (p := ⟨Bj, 0, none⟩) hjn).trans q0, (hB0.cell (p := ⟨Bj, 1, none⟩) hjn).trans q1, (hB0.cell (p := ⟨Bj, 2, none⟩) hjn).trans q2, (hB0.cell (p := ⟨Bj, 3, none⟩) hjn).trans q3, (hB0.cell (p := ⟨Bj, 4, none⟩) hjn).trans q4, (hB0.cell (p := ⟨Bj, 5, none⟩) hjn).trans q5, (hB0.cell (p := ⟨Bj, 6, none⟩) hjn).trans q6, (hB0.cell (p := ⟨Bj, 7, none⟩) hjn).trans q7, (hB0.cell (p := ⟨Bj, 8, none⟩) hjn).trans q8, (hB0.cell (p := ⟨Bj, 9, none⟩) hjn).trans q9⟩
  refine wpIn_rangeFunc_ownH rfl (by omega) (gf := 44) (lb := #[.pointer (some ⟨Br, 0, none⟩), .pointer (some ⟨Bj, 0, none⟩)]) rfl trivial (enters_of Tryz.func44 (by kernel_rfl) rfl)
    (pairs_stops _ (by omega) Br Bj len cap a xs s t k z p l e b v r _ w.heap.size (by simp) ((hB0.cell (p := ⟨Br, 0, none⟩) hrn).trans hBr) hrn hbj hjn (h.below hB0) hlow) KpW.trans (KpW.put (by simp)) (Below.refl _ _) (fun _ => rfl)
    (fun pre W => (∃ v, Boxed W w.heap.size 32 v ∧ W.ownsRow w.heap.size 57 7 v pre.length (flatLp pre) ∧ True) ∧ Below w.heap.size w W)
    (fun _ _ _ => False)
    (OwnFrom.and (Own.from (holdsRow_own w.heap.size w.heap.size 32 57 7 (fun pre : List LpR => pre.length) (fun pre => flatLp pre) (fun _ _ => True)) _) (ownFrom_below (Nat.le_refl _) (by simp)))
    (fun _ _ _ _ _ hs _ _ => hs)
    ⟨⟨_, bS, World.ownsRow_nil _ _ _ _, trivial⟩, hB0⟩
    (fun x a' W => ∃ q, a' = actC w Br Bj x q ∧ BxL W q x)
    (fun x a' _ W W' row hs hg hr => by
      obtain ⟨q, e1, hq⟩ := hs
      refine ⟨q, e1, (hg.block q (Array.getElem?_eq_some_iff.1 hq).1 (fun e9 => ?_)).trans hq⟩
      obtain ⟨_, o, ho, hc⟩ := hr q e9.symm
      rw [hq] at ho
      cases ho
      cases hc) ?assign ?body ?done ?stop
  case assign =>
    rintro lb0 pre x W K ⟨⟨rv, hv, hrow, _⟩, hB⟩ hK
    have HK := hK (actC w Br Bj x W.heap.size) (W.alloc (.cells #[.int .i64 x.kd, .int .i64 x.tm, .int .i64 x.ke, .int .i64 x.va, .int .i64 x.nn, .int .i64 x.st, .int .i64 x.en] 57)) ((KeepsOthers.of_grownBy (grown_of (bel_one W _)) (fun _ _ e => by cases e)).from _) (KpW.of_bel (bel_one _ _) hB.size) ⟨⟨rv, hv.alloc _, hrow.alloc _, trivial⟩, bel_alloc hB _⟩ ⟨_, rfl, BxL.new W x⟩
    clear hK
    unfold actC at HK
    gi_wp2
    exact HK
  case body =>
    rintro lb0 pre x a' W hlb _ ⟨⟨rv, hv, hrow, _⟩, hB⟩ ⟨q, rfl, hq⟩ hpl
    have hcv := hv.cell
    have hz1 := hv.lt
    have hfv := hv.frozen
    have HR := hide hrow
    have HV := hide hv
    obtain ⟨x0, x1, x2, x3, x4, x5, x6⟩ := hq.cells
    have hlq := (Array.getElem?_eq_some_iff.1 hq).1
    clear h hlow hB0 bS hrow hv hbj hBj hq
    unfold actC
    gi_wp2_with (gi_at_builtin; go_loud (refine wpListIn_append_own _ rfl _ _ 32 rfl w.heap.size 57 i0 _ 7 56 Tryz.underlying32 hi hz0' hz1' hz2' rfl (by decide) rv _ _ rfl (World.ownsRow.alloc (unhide HR) _) ⟨W.heap.size, 0, none⟩ 1 1 [.int .i64 x.kd, .int .i64 x.tm, .int .i64 x.ke, .int .i64 x.va, .int .i64 x.nn, .int .i64 x.st, .int .i64 x.en] rfl rfl (cells_newLp W x.kd x.tm x.ke x.va x.nn x.st x.en _) (by simp [Value.oneCell']) (by unfold maxLen; omega) (by omega) (by simp; omega) ?_); intro v' w2 hown' hgrow _; obtain ⟨g', cap', rfl⟩ := ownsRow_succ hown'; obtain ⟨hv1, hv2, hr2, hk2, hb2⟩ := Boxed.appended (unhide HV) (by decide) (unhide HR) (by omega) (Nat.le_refl _) hown' hgrow; have hkp := kp_app (unhide HV) (unhide HR) hgrow hb2; have hcc := hv1.cell; have hff := hv1.frozen; have HV3 := hide hv2; have HR3 := hide hr2; clear hv1 hv2 hr2 hown' hgrow)
    exact ⟨hk2.from _, hkp, ⟨_, unhide HV3, by rw [flatLp_snoc, List.length_append]; exact unhide HR3, trivial⟩, hB.trans hb2⟩
  case done =>
    rintro D ys W hD hys ⟨⟨rv, hv, hrow, _⟩, hB⟩ hK
    obtain rfl := hys.symm
    have hcv := hv.cell
    have HR := hide hrow
    clear hrow
    gi_wp2
    refine ⟨by simp, .inl ⟨_, _, rfl, run_takeDeferred hK, ?_⟩⟩
    exact ⟨_, results_tmp rfl _ _ _, rv, rfl, ownsRow_putObj (unhide HR) _ hK rfl, hB.trans (belowK_b (w := w) (Nat.le_refl _) W D _ _ (by simp at hD; omega) hK rfl rfl)⟩
  case stop =>
    rintro D c pre W _ _ hx _
    exact hx.elim

theorem collect_any (Br Bj len cap : Nat) (a : Option Addr) (xs : List IwR) (s t k z p l e : Int) (b : Bool) (v r : Int) (w : World) (h : IwRs w a len xs) (hBr : w.cell? ⟨Br, 0, none⟩ = some (.slice a len cap)) (hrn : Br < w.heap.size) (hBj : w.cell? ⟨Bj, 0, none⟩ = some (.int .i64 s) ∧ w.cell? ⟨Bj, 1, none⟩ = some (.int .i64 t) ∧ w.cell? ⟨Bj, 2, none⟩ = some (.int .i64 k) ∧ w.cell? ⟨Bj, 3, none⟩ = some (.int .i64 z) ∧ w.cell? ⟨Bj, 4, none⟩ = some (.int .i64 p) ∧ w.cell? ⟨Bj, 5, none⟩ = some (.int .i64 l) ∧ w.cell? ⟨Bj, 6, none⟩ = some (.int .i64 e) ∧ w.cell? ⟨Bj, 7, none⟩ = some (.bool b) ∧ w.cell? ⟨Bj, 8, none⟩ = some (.int .i64 v) ∧ w.cell? ⟨Bj, 9, none⟩ = some (.int .i64 r)) (hjn : Bj < w.heap.size) : Calls Tryz.prog 29 #[.func (.func 44) #[] #[.pointer (some ⟨Br, 0, none⟩), .pointer (some ⟨Bj, 0, none⟩)]] w fun e' w' => ∃ v', e' = .returned v' ∧ OwnLp w' w.heap.size v' (pairsI s t k z p l e v r xs) ∧ Below w.heap.size w w' := by
  go_enter Tryz.func29, Tryz.ntmps29
  go_wp2_with fail
  refine (appendseq_any Br Bj len cap a xs s t k z p l e b v r _ h hBr hrn hBj hjn).mono ?_
  rintro e' w' ⟨v', rfl, hO, hb⟩
  go_wp2_with fail
  go_ret
  exact ⟨_, rfl, hO, hb⟩
theorem pairsOf_any (s t k z p l e : Int) (b : Bool) (v r : Int) (a : Option Addr) (len cap : Nat) (w : World) : Calls Tryz.prog 22 #[.agg #[.int .i64 s, .int .i64 t, .int .i64 k, .int .i64 z, .int .i64 p, .int .i64 l, .int .i64 e, .bool b, .int .i64 v, .int .i64 r], .slice a len cap] w fun e' w' => e' = .returned (.func (.func 44) #[] #[.pointer (some ⟨w.heap.size + 1, 0, none⟩), .pointer (some ⟨w.heap.size, 0, none⟩)]) ∧ w' = (w.alloc (.cells #[.int .i64 s, .int .i64 t, .int .i64 k, .int .i64 z, .int .i64 p, .int .i64 l, .int .i64 e, .bool b, .int .i64 v, .int .i64 r] 24)).alloc (.cells #[.slice a len cap] 25) := by
  go_enter Tryz.func22, Tryz.ntmps22
  go_wp2
  go_ret
  exact ⟨rfl, rfl⟩
set_option maxRecDepth 20000 in
set_option maxHeartbeats 1000000 in
theorem implpairs_any (s t k z p l e : Int) (b : Bool) (v r : Int) (a : Option Addr) (len cap : Nat) (xs : List IwR) (w : World) (h : IwRs w a len xs) : Calls Tryz.prog 12 #[.agg #[.int .i64 s, .int .i64 t, .int .i64 k, .int .i64 z, .int .i64 p, .int .i64 l, .int .i64 e, .bool b, .int .i64 v, .int .i64 r], .slice a len cap] w fun e' w' => ∃ v', e' = .returned v' ∧ OwnLp w' w.heap.size v' (pairsT s t k z p l e v r xs) ∧ Below w.heap.size w w' := by
  rw [← pairsI_eq]
  go_enter Tryz.func12, Tryz.ntmps12
  go_wp2_with fail
  refine (pairsOf_any _ _ _ _ _ _ _ _ _ _ _ _ _ _).mono ?_
  rintro e' w1 ⟨rfl, hw⟩
  have hb1 : Below w.heap.size w w1 := by rw [hw]; exact bel_alloc (bel_alloc (bel_one _ _) _) _
  have hs1 : w1.heap.size = w.heap.size + 1 + 1 + 1 := by rw [hw]; simp
  have hBr : w1.cell? ⟨w.heap.size + 1 + 1, 0, none⟩ = some (.slice a len cap) := by rw [hw]; simp [go_sem]
  have hBj : w1.cell? ⟨w.heap.size + 1, 0, none⟩ = some (.int .i64 s) ∧ w1.cell? ⟨w.heap.size + 1, 1, none⟩ = some (.int .i64 t) ∧ w1.cell? ⟨w.heap.size + 1, 2, none⟩ = some (.int .i64 k) ∧ w1.cell? ⟨w.heap.size + 1, 3, none⟩ = some (.int .i64 z) ∧ w1.cell? ⟨w.heap.size + 1, 4, none⟩ = some (.int .i64 p) ∧ w1.cell? ⟨w.heap.size + 1, 5, none⟩ = some (.int .i64 l) ∧ w1.cell? ⟨w.heap.size + 1, 6, none⟩ = some (.int .i64 e) ∧ w1.cell? ⟨w.heap.size + 1, 7, none⟩ = some (.bool b) ∧ w1.cell? ⟨w.heap.size + 1, 8, none⟩ = some (.int .i64 v) ∧ w1.cell? ⟨w.heap.size + 1, 9, none⟩ = some (.int .i64 r) := by
    rw [hw]
    exact ⟨by simp [go_sem], by simp [go_sem], by simp [go_sem], by simp [go_sem], by simp [go_sem], by simp [go_sem], by simp [go_sem], by simp [go_sem], by simp [go_sem], by simp [go_sem]⟩
  clear hw
  go_wp2_with fail
  refine (collect_any (w.heap.size + 1 + 1) (w.heap.size + 1) len cap a xs s t k z p l e b v r _ (h.below hb1) hBr (by omega) hBj (by omega)).mono ?_
  rintro e' w' ⟨v', rfl, hO, hb⟩
  go_wp2_with fail
  go_ret
  exact ⟨_, rfl, World.ownsRow.mono hO (by omega), bel_trans hb1 hb⟩
end Go.Proofs.YtbockbdlojkpiaaGreat
