/- Laid together: what the claim needs of the texts that were built one by one. -/
import Derived.Test.YtbjhpiannjepkaaGreatPsKeptM
import Derived.Test.YtbjhpiannjepkaaGreatPsBase
namespace Go.Proofs.YtbjhpiannjepkaaGreat
open Go.ChangeShapes Go.WideShapes Go.ChangeAt Go.RowKit Go.Deep
set_option linter.unusedVariables false

/-- Truth values lie one behind the other; a slice's value holds truth values. -/
def BoAt (W : World) (g o : Nat) (xs : List Bool) : Prop := ∀ (i : Nat) (x : Bool), xs[i]? = some x → W.cell? ⟨g, o + i, none⟩ = some (.bool x)

def BoRs (W : World) (a : Option Addr) (len : Nat) (xs : List Bool) : Prop := xs.length = len ∧ len ≤ maxLen ∧ (len = 0 ∨ ∃ g o, a = some ⟨g, o, none⟩ ∧ BoAt W g o xs)

theorem BoAt.lt {W : World} {g o : Nat} {xs : List Bool} (h : BoAt W g o xs) (hp : 0 < xs.length) : g < W.heap.size := cell_lt (h 0 xs[0] (List.getElem?_eq_getElem hp))

theorem BoRs.below {W W' : World} {a : Option Addr} {len : Nat} {xs : List Bool} (h : BoRs W a len xs) (hb : Below W.heap.size W W') : BoRs W' a len xs := by
  obtain ⟨h1, h2, h3⟩ := h
  refine ⟨h1, h2, ?_⟩
  rcases h3 with h3 | ⟨g, o, ha, hr⟩
  · exact Or.inl h3
  · refine Or.inr ⟨g, o, ha, fun i x hx => ?_⟩
    have hlt : i < xs.length := (List.getElem?_eq_some_iff.1 hx).1
    exact (hb.cell (p := ⟨g, o + i, none⟩) (hr.lt (by omega))).trans (hr i x hx)

theorem BoRs.keepB {S : Nat → Prop} {W W' : World} {a : Option Addr} {len : Nat} {xs : List Bool} (h : BoRs W a len xs) (k : Kept S W W') (hs : ∀ g o, 0 < len → a = some ⟨g, o, none⟩ → ¬ S g) : BoRs W' a len xs := by
  obtain ⟨h1, h2, h3⟩ := h
  refine ⟨h1, h2, ?_⟩
  rcases h3 with h3 | ⟨g, o, ha, hr⟩
  · exact Or.inl h3
  · refine Or.inr ⟨g, o, ha, fun i x hx => ?_⟩
    have hlt : i < xs.length := (List.getElem?_eq_some_iff.1 hx).1
    exact (World.cell?_of_block (w := W) (a := ⟨g, o + i, none⟩) (k.blk g (hr.lt (by omega)) (hs g o (by omega) ha))).trans (hr i x hx)

section
variable {H : Type} {enc : TypeId × Value → H} {P : Program} {w : World} {base : Nat} {spare : Nat → Bool} {held : Bool}
theorem openBo {t e : TypeId} {a : Option Addr} {len cap : Nat} {d : DataW H} {p : List MemPlace} (ht : P.underlying t = some (.slice e)) (he : P.underlying e = some .bool) (hC : P.cellsOf e = 1)
    (h : DataW.Trod enc P w base spare held t (.slice a len cap) d p) : ∃ xs : List Bool, BoRs w a len xs ∧ ∀ x ∈ xs, x = x := by
  obtain ⟨fuel, hf⟩ := h
  rcases open_slice ht hf with ⟨hcs, _⟩ | ⟨a', len', cap', m, n, D, Pl, hcs, _, hl, hm, hmm, _, hx⟩
  · simp [Value.cells] at hcs
    obtain ⟨rfl, rfl, rfl⟩ := hcs
    exact ⟨[], ⟨rfl, Nat.zero_le _, Or.inl rfl⟩, by simp⟩
  · simp [Value.cells] at hcs
    obtain ⟨rfl, rfl, rfl⟩ := hcs
    have hlm : len ≤ m := by rw [hmm]; split <;> omega
    have hall : ∀ i, i < len → ∃ z : Bool, (i = 0 → a'.spot = none) ∧ w.cell? ⟨a'.block, a'.off + i, none⟩ = some (.bool z) ∧ z = z := by
      intro i hi
      obtain ⟨cs', h1, h2⟩ := hx i (by omega)
      rw [hC] at h1
      obtain ⟨z, rfl, _⟩ := DataW.trod_bool he h2
      obtain ⟨_, _, hc⟩ := World.cells?_some h1
      have c0 := hc 0 (by omega)
      have hsp : (a'.add (i * 1)).spot = none := World.cell?_spot (w := w) (a := a'.add (i * 1)) (v := .bool z) (by simpa [Addr.add] using c0)
      have ha : a'.add (i * 1) = ⟨a'.block, a'.off + i, none⟩ := by
        cases a' with
        | mk g o sp =>
          simp only [Addr.add] at hsp ⊢
          split at hsp <;> simp_all
      refine ⟨z, fun h0 => ?_, ?_, rfl⟩
      · subst h0
        simpa [Addr.add] using hsp
      · rw [← ha]
        simpa [Addr.add] using c0
    by_cases h0 : len = 0
    · subst h0
      exact ⟨[], ⟨rfl, Nat.zero_le _, Or.inl rfl⟩, by simp⟩
    have hinh : Inhabited Bool := ⟨false⟩
    obtain ⟨f, hf'⟩ := choose_lt hall
    have hsp := (hf' 0 (by omega)).1 rfl
    refine ⟨(List.range len).map f, ⟨by simp, by omega, Or.inr ⟨a'.block, a'.off, by cases a'; simp_all, ?_⟩⟩, ?_⟩
    · intro i x hix
      simp only [List.getElem?_map, Option.map_eq_some_iff] at hix
      obtain ⟨j, hj, rfl⟩ := hix
      have hil : i < len := by
        rcases Nat.lt_or_ge i len with h' | h'
        · exact h'
        · rw [List.getElem?_eq_none (by simpa using h')] at hj; cases hj
      rw [List.getElem?_eq_getElem (by simpa using hil)] at hj
      simp at hj
      subst hj
      exact (hf' i hil).2.1
    · intro x hxm
      simp only [List.mem_map, List.mem_range] at hxm
      obtain ⟨i, hi, rfl⟩ := hxm
      exact (hf' i hi).2.2
end


/-- A block of truth values, known whole. -/
def BlkBo (W : World) (g len : Nat) : Prop := ∃ cur, W.heap[g]? = some (.cells cur 4 (0, 0)) ∧ cur.size = len

theorem BlkBo.set {W : World} {g len i : Nat} (h : BlkBo W g len) (v : Value) : BlkBo (W.setCell ⟨g, i, none⟩ v) g len := by
  obtain ⟨cur, h1, h2⟩ := h
  exact ⟨_, Joins.block_setCell h1 v, by simp [h2]⟩

theorem BlkBo.lt {W : World} {g len : Nat} (h : BlkBo W g len) : g < W.heap.size := by
  obtain ⟨cur, h1, h2⟩ := h
  exact (Array.getElem?_eq_some_iff.1 h1).1

theorem BlkBo.cell {W : World} {g len i : Nat} (h : BlkBo W g len) (hi : i < len) : ∃ u, W.cell? ⟨g, i, none⟩ = some u := by
  obtain ⟨cur, h1, h2⟩ := h
  exact ⟨_, (Joins.cell_of_block h1 i).trans (Array.getElem?_eq_getElem (by omega))⟩

theorem BlkBo.frozen {W : World} {g len i : Nat} (h : BlkBo W g len) : W.frozen? ⟨g, i, none⟩ = false := by
  obtain ⟨cur, h1, h2⟩ := h
  exact Joins.unfrozen_of_block h1 i

theorem BlkBo.below {W W' : World} {g len B : Nat} (h : BlkBo W g len) (hb : Below B W W') (hg : g < B) : BlkBo W' g len := by
  obtain ⟨cur, h1, h2⟩ := h
  exact ⟨cur, (hb.block g hg).trans h1, h2⟩

def WrBo (W : World) (a : Option Addr) (n : Nat) : Prop := n = 0 ∨ ∃ g, a = some ⟨g, 0, none⟩ ∧ BlkBo W g n

def rowBo (a : Option Addr) (n : Nat) : Option Nat := if n = 0 then none else a.map (·.block)

theorem rowBo_pos {n : Nat} (h : n ≠ 0) (g o : Nat) : rowBo (some ⟨g, o, none⟩) n = some g := by unfold rowBo; rw [if_neg h]; rfl

theorem WrBo.below {W W' : World} {a : Option Addr} {n : Nat} (h : WrBo W a n) (hb : Below W.heap.size W W') : WrBo W' a n := by
  rcases h with h | ⟨g, ha, hB⟩
  · exact Or.inl h
  · exact Or.inr ⟨g, ha, hB.below hb hB.lt⟩

theorem WrBo.keepB {S : Nat → Prop} {W W' : World} {a : Option Addr} {n : Nat} (h : WrBo W a n) (k : Kept S W W') (hs : ∀ b, rowBo a n = some b → ¬ S b) : WrBo W' a n := by
  rcases h with h | ⟨g, ha, hB⟩
  · exact Or.inl h
  · by_cases h0 : n = 0
    · exact Or.inl h0
    · obtain ⟨cur, c1, c2⟩ := hB
      exact Or.inr ⟨g, ha, cur, (k.blk g (Array.getElem?_eq_some_iff.1 c1).1 (hs g (by rw [ha]; exact rowBo_pos h0 g 0))).trans c1, c2⟩

theorem Bo_this {W : World} {g len i : Nat} {v : Value} (h : BlkBo W g len) (hi : i < len) : (W.setCell ⟨g, i, none⟩ v).cell? ⟨g, i, none⟩ = some v := by
  obtain ⟨u, hu⟩ := h.cell hi
  exact World.cell?_setCell_same _ _ _ hu

theorem Tryz.infoBo : (Tryz.prog.info? 4).map (fun i => (i.zero, i.size, i.bytes)) = some (some (.bool false), 1, 1) := by kernel_rfl

theorem mkBo (len : Nat) (hl : len ≤ 1048576) : ∃ C : Array Value, C.size = len ∧ ∀ w : World, (Instr.makeSlice 25 (.int .i64 (len : Int)) (.int .i64 (len : Int))).run Tryz.prog w = .ok (.slice (some ⟨w.heap.size, 0, none⟩) len len) (w.alloc (.cells C 4)) := by
  obtain ⟨i0, hi, hz0, hz1, hz2⟩ := info_parts Tryz.infoBo
  refine ⟨madeCells (Value.bool false).cells (len * i0.size), by rw [size_madeCells, hz1]; omega, fun w => ?_⟩
  have h := run_make (P := Tryz.prog) w 25 4 i0 _ Tryz.underlying25 hi hz0 .i64 .i64 len len (by omega) (Int.le_refl _) (by rw [hz2]; omega) (by omega)
  simpa using h

set_option maxRecDepth 20000 in
set_option maxHeartbeats 1000000 in
theorem eqBo_any (a1 a2 : Option Addr) (len cap1 cap2 : Nat) (xs : List Bool) (w : World) (h1 : BoRs w a1 len xs) (h2 : BoRs w a2 len xs) : Calls Tryz.prog 33 #[.slice a1 len cap1, .slice a2 len cap2] w fun e w' => e = .returned (.bool true) ∧ Below w.heap.size w w' := by
  have hm := h1.2.1
  unfold maxLen at hm
  go_enter Tryz.func33, Tryz.ntmps33
  go_wp2
  go_loopw [5] (fun i wr => ∃ k : Nat, k ≤ len ∧ i = .int .i64 k ∧ Below w.heap.size w wr) (fun i _ => len - (intOf i).toNat)
  case atStart => exact ⟨0, Nat.zero_le _, rfl, Below.refl _ _⟩
  case round =>
    obtain ⟨k, hk, rfl, hbw⟩ := hrel
    by_cases hlt : k < len
    · obtain ⟨hl1, _, hx1⟩ := h1
      obtain ⟨hl2, _, hx2⟩ := h2
      obtain ⟨g1, o1, rfl, hr1⟩ := hx1.resolve_left (by omega)
      obtain ⟨g2, o2, rfl, hr2⟩ := hx2.resolve_left (by omega)
      obtain ⟨x, hxk⟩ : ∃ x, xs[k]? = some x := ⟨_, List.getElem?_eq_getElem (by omega)⟩
      have c0 := (hbw.cell (p := ⟨g1, o1 + k, none⟩) (hr1.lt (by omega))).trans (hr1 k _ hxk)
      have d0 := (hbw.cell (p := ⟨g2, o2 + k, none⟩) (hr2.lt (by omega))).trans (hr2 k _ hxk)
      have hltI : (k : Int) < (len : Int) := by omega
      clear hx1 hx2 hxk hr1 hr2
      go_wp2_with fail
      go_quiet (fail)
      go_wp2
      go_roundw
      case rel => exact ⟨k + 1, by omega, by go_num, (belA)⟩
      case measure => simp [intOf]; omega
    · go_wp2
      go_ret
      exact ⟨rfl, hbw⟩
end Go.Proofs.YtbjhpiannjepkaaGreat
