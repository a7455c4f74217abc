/- Laid together: what the claim needs of the texts that were built one by one. -/
import Derived.Test.YtbjhpiannjepkaaGreatPsCkpP
import Derived.Test.YtbjhpiannjepkaaGreatPsBase
import Derived.OwnWalk
import Derived.Deep.RegionLawGrows
import Derived.Maps.AppendAt
import Derived.Deep.RegionHeld3
namespace Go.Proofs.YtbjhpiannjepkaaGreat
open Go.ChangeShapes Go.WideShapes Go.ChangeAt Go.RowKit Go.Deep
set_option linter.unusedVariables false

theorem Kept.up {S : Nat → Prop} {w W W' : World} (h : Kept S w W) (hb : Below w.heap.size W W') : Kept S w W' := ⟨hb.os.trans h.os, hb.tape.trans h.tape, hb.output.trans h.output, Nat.le_trans h.size hb.size, fun b hw hS => (hb.block b hw).trans (h.blk b hw hS)⟩

theorem sliceC {W : World} {B : Nat} {e : TypeId} {size n : Nat} {v : Value} {xs : List Value} (h : W.ownsRow B e size v n xs) : ∃ a c, v = .slice a n c := by
  rcases h.2 with ⟨rfl, h0⟩ | ⟨g, cap, cur, rfl, _⟩
  · exact ⟨none, 0, by rw [h0]⟩
  · exact ⟨_, _, rfl⟩

theorem own_setC {W : World} {p : Addr} {u : Value} {B : Nat} {e : TypeId} {size n : Nat} {v : Value} {xs : List Value} (h : W.ownsRow B e size v n xs) (hp : p.block < B) : (W.setCell p u).ownsRow B e size v n xs := own_upB h (fun b hv => Below.heap_setCell _ _ _ _ (fun e => by have := own_geV h b hv; omega))

theorem mkIn0 (len : Nat) (hl : 1 ≤ len ∧ len ≤ 3) : ∃ C : Array Value, (C.size = len ∧ C.toList = List.replicate len (.int .i64 0)) ∧ ∀ w : World, (Instr.makeSlice 24 (.int .i64 (len : Int)) (.int .i64 (len : Int))).run Tryz.prog w = .ok (.slice (some ⟨w.heap.size, 0, none⟩) len len) (w.alloc (.cells C 3)) := by
  obtain ⟨i0, hi, hz0, hz1, hz2⟩ := info_parts Tryz.infoInt1
  refine ⟨madeCells (Value.int .i64 0).cells (len * 1), ⟨by rw [size_madeCells]; omega, ?_⟩, fun w => ?_⟩
  · rw [Nat.mul_one]
    exact toList_madeCells_one _ _
  · have h := run_make (P := Tryz.prog) w 24 3 i0 _ Tryz.underlying24 hi hz0 .i64 .i64 len len (by omega) (Int.le_refl _) (by rw [hz2]; omega) (by omega)
    rw [hz1] at h
    simpa using h

theorem mkBo0 (len : Nat) (hl : 1 ≤ len ∧ len ≤ 2) : ∃ C : Array Value, (C.size = len ∧ C.toList = List.replicate len (.bool false)) ∧ ∀ w : World, (Instr.makeSlice 25 (.int .i64 (len : Int)) (.int .i64 (len : Int))).run Tryz.prog w = .ok (.slice (some ⟨w.heap.size, 0, none⟩) len len) (w.alloc (.cells C 4)) := by
  obtain ⟨i0, hi, hz0, hz1, hz2⟩ := info_parts Tryz.infoBoo1
  refine ⟨madeCells (Value.bool false).cells (len * 1), ⟨by rw [size_madeCells]; omega, ?_⟩, fun w => ?_⟩
  · rw [Nat.mul_one]
    exact toList_madeCells_one _ _
  · have h := run_make (P := Tryz.prog) w 25 4 i0 _ Tryz.underlying25 hi hz0 .i64 .i64 len len (by omega) (Int.le_refl _) (by rw [hz2]; omega) (by omega)
    rw [hz1] at h
    simpa using h

theorem mkSn0 (len : Nat) (hl : 1 ≤ len ∧ len ≤ 2) : ∃ C : Array Value, (C.size = len * 3 ∧ C.toList = flatSV (List.replicate len noSn)) ∧ ∀ w : World, (Instr.makeSlice 32 (.int .i64 (len : Int)) (.int .i64 (len : Int))).run Tryz.prog w = .ok (.slice (some ⟨w.heap.size, 0, none⟩) len len) (w.alloc (.cells C 80)) := by
  obtain ⟨i0, hi, hz0, hz1, hz2⟩ := info_parts Tryz.infoSn1
  refine ⟨madeCells (Value.agg #[.int .i64 0, .slice none 0 0, .slice none 0 0]).cells (len * 3), ⟨by rw [size_madeCells], ?_⟩, fun w => ?_⟩
  · obtain rfl | rfl : len = 1 ∨ len = 2 := by omega
    · simp [madeCells, List.range_succ, flatSV, noSn, SnV.cells, Value.cells]
    · simp [madeCells, List.range_succ, flatSV, noSn, SnV.cells, Value.cells]
  · have h := run_make (P := Tryz.prog) w 32 80 i0 _ Tryz.underlying32 hi hz0 .i64 .i64 len len (by omega) (Int.le_refl _) (by rw [hz2]; omega) (by omega)
    rw [hz1] at h
    simpa using h

theorem Mks.step {W w5 : World} {o : Obj} {B B' s n : Nat} {gs : List Nat} {v7 : Value} {xs : List Value} (h : Mks W B s gs) (h7 : W.ownsRow B' 80 3 v7 n xs) (hg : (W.alloc o).grownBy w5 v7.ownBlock) : Mks w5 B s gs := ⟨fun g hm => own_step (h.1 g hm) h7 (by decide) hg, h.2⟩

theorem Mks.snoc {W : World} {B s : Nat} {gs : List Nat} {C : Array Value} (h : Mks W B s gs) (hB : B ≤ W.heap.size) (hs : s ≤ 1000) (hC : C.size = s) (hCl : C.toList = List.replicate s (.int .i64 0)) : Mks (W.alloc (.cells C 3)) B s (gs ++ [W.heap.size]) := by
  refine ⟨fun g hm => ?_, ?_⟩
  · rcases List.mem_append.1 hm with hm | hm
    · exact (h.1 g hm).alloc _
    · obtain rfl := List.mem_singleton.1 hm
      rw [← hCl]
      exact World.ownsRow_lit (base := B) (size := 1) W C s hB (by unfold maxLen; omega) (by omega)
  · refine List.pairwise_append.2 ⟨h.2, List.pairwise_singleton _ _, fun g hm g' hm' => ?_⟩
    obtain rfl := List.mem_singleton.1 hm'
    have := ((h.1 g hm).lt g rfl).2
    omega

theorem Mks.set {W : World} {B s : Nat} {gs : List Nat} {p : Addr} {u : Value} (h : Mks W B s gs) (hp : p.block < B) : Mks (W.setCell p u) B s gs := ⟨fun g hm => own_setC (h.1 g hm) hp, h.2⟩

theorem Mks.mono {W : World} {B B' s : Nat} {gs : List Nat} (h : Mks W B s gs) (hB : B' ≤ B) : Mks W B' s gs := ⟨fun g hm => (h.1 g hm).mono hB, h.2⟩

theorem blk_new {W : World} {g : Nat} {o : Obj} (hg : g = W.heap.size) : (W.alloc o).heap[g]? = some o := by
  subst hg
  exact heap_alloc_new _ _

/-- A box of checkpoints. -/
def BoxC (W : World) (B : Nat) (v2 v3 v4 v6 v7 : Value) : Prop := W.heap[B]? = some (.cells #[.int .i64 0, .bool false, v2, v3, v4, .int .i64 0, v6, v7] 36 (0, 0))

theorem BoxC.cells {W : World} {B : Nat} {v2 v3 v4 v6 v7 : Value} (h : BoxC W B v2 v3 v4 v6 v7) : (W.cell? ⟨B, 0, none⟩ = some (.int .i64 0) ∧ W.cell? ⟨B, 1, none⟩ = some (.bool false) ∧ W.cell? ⟨B, 2, none⟩ = some v2 ∧ W.cell? ⟨B, 3, none⟩ = some v3 ∧ W.cell? ⟨B, 4, none⟩ = some v4 ∧ W.cell? ⟨B, 5, none⟩ = some (.int .i64 0) ∧ W.cell? ⟨B, 6, none⟩ = some v6 ∧ W.cell? ⟨B, 7, none⟩ = some v7) ∧ ∀ i, W.frozen? ⟨B, i, none⟩ = false := by
  unfold BoxC at h
  refine ⟨⟨?_, ?_, ?_, ?_, ?_, ?_, ?_, ?_⟩, fun i => ?_⟩ <;> simp [World.cell?, World.frozen?, h, go_sem]

theorem BoxC.lt {W : World} {B : Nat} {v2 v3 v4 v6 v7 : Value} (h : BoxC W B v2 v3 v4 v6 v7) : B < W.heap.size := (Array.getElem?_eq_some_iff.1 h).1

theorem BoxC.set6 {W : World} {B : Nat} {v2 v3 v4 v6 v7 : Value} (h : BoxC W B v2 v3 v4 v6 v7) (u : Value) : BoxC (W.setCell ⟨B, 6, none⟩ u) B v2 v3 v4 u v7 := Joins.block_setCell h u

theorem BoxC.set7 {W : World} {B : Nat} {v2 v3 v4 v6 v7 : Value} (h : BoxC W B v2 v3 v4 v6 v7) (u : Value) : BoxC (W.setCell ⟨B, 7, none⟩ u) B v2 v3 v4 v6 u := Joins.block_setCell h u

theorem BoxC.keep {W W' : World} {B : Nat} {v2 v3 v4 v6 v7 : Value} (h : BoxC W B v2 v3 v4 v6 v7) (hb : Below W.heap.size W W') : BoxC W' B v2 v3 v4 v6 v7 := (hb.block B h.lt).trans h
end Go.Proofs.YtbjhpiannjepkaaGreat
