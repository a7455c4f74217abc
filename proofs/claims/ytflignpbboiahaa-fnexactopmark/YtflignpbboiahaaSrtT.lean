/- Proved here: what an iterator over places tells, gathered and sorted (slices.SortedFunc). -/
import Derived.Test.YtflignpbboiahaaSeqT
import Derived.Sort.OwnSorted
namespace Go.Proofs.Ytflignpbboiahaa
open Go.RowKit Go.Shelf Go.Sort Go.Lib
set_option linter.unusedVariables false

theorem flat3_get : ∀ (ss : List P3) (t : Nat), t < ss.length * 3 → (flat3 ss)[t]? = (cells3 ss[t / 3]!)[t % 3]?
  | [], t, h => by simp at h
  | x :: r, t, h => by
    show (cells3 x ++ flat3 r)[t]? = _
    by_cases h3 : t < 3
    · rw [List.getElem?_append_left (by simp [cells3]; omega), Nat.div_eq_of_lt h3, Nat.mod_eq_of_lt h3]
      rfl
    · rw [List.getElem?_append_right (by simp [cells3]; omega)]
      have hl : (cells3 x).length = 3 := rfl
      rw [hl, flat3_get r (t - 3) (by simp at h; omega)]
      have e1 : t / 3 = (t - 3) / 3 + 1 := by omega
      have e2 : t % 3 = (t - 3) % 3 := by omega
      rw [e1, e2]
      simp
theorem flatK3 (ss : List P3) : (Go.Sort.flatK encPl 3 ss.toArray).toList = flat3 ss := by
  apply List.ext_getElem?
  intro t
  by_cases h : t < ss.length * 3
  · rw [flat3_get ss t h, Array.getElem?_toList, Array.getElem?_eq_getElem (by rw [size_flatK]; simpa using h)]
    have h9 := get_flatK encPl 3 ss.toArray t (by simpa using h)
    rw [getElem!_pos _ t (by rw [size_flatK]; simpa using h)] at h9
    rw [h9]
    have hm : t % 3 < 3 := Nat.mod_lt _ (by omega)
    have hq : ss.toArray[t / 3]! = ss[t / 3]! := by simp
    rw [hq]
    have hc : (encPl ss[t / 3]!) = cells3 ss[t / 3]! := rfl
    rw [hc]
    generalize ss[t / 3]! = y
    have hy : t % 3 < (cells3 y).length := hm
    rw [getElem!_pos (cells3 y) _ hy, List.getElem?_eq_getElem hy]
  · rw [Array.getElem?_toList, Array.getElem?_eq_none (by rw [size_flatK]; simp; omega), List.getElem?_eq_none (by rw [flat3_len]; omega)]
theorem take_putV (F cur : Array Value) (h : F.size ≤ cur.size) : (putCells id 0 F cur).toList.take F.size = F.toList := by
  apply List.ext_getElem?
  intro j
  by_cases hj : j < F.size
  · rw [List.getElem?_take_of_lt hj, Array.getElem?_toList, Array.getElem?_toList]
    simp [putCells, hj, show j < cur.size by omega]
  · rw [List.getElem?_take_eq_none (by omega), List.getElem?_eq_none (by simp; omega)]
theorem heap_srt {w : World} {g n : Nat} {os : Array Obj} {cur : Array Value} {e : TypeId} {fr : Nat × Nat} (F : Array Value) (hb : w.heap[g]? = some (.cells cur e fr)) :
    (grow (putRow id (Sort.ahead w n) g 0 F) os).heap[g]? = some (.cells (putCells id 0 F cur) e fr) := by
  have hg : g < w.heap.size := (Array.getElem?_eq_some_iff.1 hb).1
  rw [heap_grow_old _ _ (by simpa using hg)]
  simp [putRow, mapBlock, Sort.ahead, Array.getElem?_modify, hb, onCells]
theorem below_srt {w : World} {g n B : Nat} {os : Array Obj} (F : Array Value) (hB : B ≤ g) (hw : B ≤ w.heap.size) : Below B w (grow (putRow id (Sort.ahead w n) g 0 F) os) := by
  refine ⟨rfl, rfl, rfl, by simp, fun k hk => ?_⟩
  rw [heap_grow_old _ _ (by simp; omega)]
  have : g ≠ k := by omega
  simp [putRow, mapBlock, Sort.ahead, Array.getElem?_modify, this]
/-- Places in order. -/
def srt3 (ss : List P3) : List P3 := ss.mergeSort fun x y => !(ltOf cfPl) y x
theorem srt3_len (ss : List P3) : (srt3 ss).length = ss.length := List.length_mergeSort ss
theorem srt3_perm (ss : List P3) : (srt3 ss).Perm ss := List.mergeSort_perm ss _
theorem sort3_any (B : Nat) (v : Value) (ss : List P3) (w : World) (h : Own3 w B v ss) (hB : B ≤ w.heap.size) (hl : ss.length ≤ 1048577) : Calls Try.prog 67 #[v, .func (.func 55) #[] #[]] w fun e w' =>
    e = .returned (.tuple #[]) ∧ Own3 w' B v (srt3 ss) ∧ Below B w w' := by
  obtain ⟨h0, hc⟩ := h
  by_cases hz : ss.length = 0
  · obtain rfl : ss = [] := List.eq_nil_of_length_eq_zero hz
    have hv : ∃ p cap, v = .slice p 0 cap := by
      rcases hc with ⟨rfl, _⟩ | ⟨g, cap, cur, rfl, _⟩
      · exact ⟨_, _, rfl⟩
      · exact ⟨_, _, rfl⟩
    obtain ⟨p, cap, rfl⟩ := hv
    refine (AnyF.slices_SortFunc_none Try.sortPl p cap _ w).mono ?_
    rintro e w' ⟨rfl, rfl⟩
    have e0 : srt3 [] = [] := by simp [srt3]
    rw [e0]
    exact ⟨rfl, ⟨h0, hc⟩, Below.refl _ _⟩
  · obtain ⟨g, cap, cur, rfl, hg, hblk, h1, h2, h3, h4⟩ := hc.resolve_left (fun h => hz h.2)
    have hsz : (Go.Sort.flatK encPl 3 ss.toArray).size = ss.length * 3 := by simp
    have hH : HoldsK encPl 3 w g 0 ss.toArray := by
      intro j hj
      rw [hsz] at hj
      refine ⟨?_, by simp [World.frozen?, hblk]⟩
      rw [Nat.zero_add, Joins.cell_of_block hblk j, ← Array.getElem?_toList]
      have h5 : (cur.toList.take (ss.length * 3))[j]? = (flat3 ss)[j]? := by rw [h4]
      rw [List.getElem?_take_of_lt hj] at h5
      rw [h5, ← flatK3, Array.getElem?_toList, Array.getElem?_eq_getElem (by rw [hsz]; exact hj), getElem!_pos _ j (by rw [hsz]; exact hj)]
      rfl
    have hgl : g < w.heap.size := (Array.getElem?_eq_some_iff.1 hblk).1
    have h9 := sortpl_any g 0 cap ss.toArray w hH hgl (by simp; omega)
    rw [List.size_toArray] at h9
    refine h9.mono ?_
    rintro e w' ⟨rfl, n, os, rfl⟩
    have hF : (Go.Sort.flatK encPl 3 (srt3 ss).toArray).size = ss.length * 3 := by simp [srt3_len]
    refine ⟨rfl, ⟨by rw [flat3_len], .inr ⟨g, cap, _, by rw [srt3_len], hg, heap_srt _ hblk, by rw [srt3_len]; exact h1, h2, by simp [putCells, h3], ?_⟩⟩, below_srt _ hg hB⟩
    have h8 := take_putV (Go.Sort.flatK encPl 3 (srt3 ss).toArray) cur (by rw [hF, h3]; exact Nat.mul_le_mul_right 3 h1)
    rw [hF, flatK3] at h8
    rw [srt3_len]
    exact h8
theorem sorted3 (gf : Nat) (lb : Array Value) (eg : ∀ args w, (callFunc gf args).run Try.prog w = .ok (.enter gf args) w) (S Sp : List P3 → Prop) (N : Nat) (hN : N ≤ 1048577) (w : World)
    (hseq : SeqStopsK Fence.wide 5 Try.prog gf lb (fun x : P3 => #[.agg #[.int .i64 x.1, .int .i64 x.2.1, .int .i64 x.2.2]]) KeepsWalks S Sp N w) :
    Calls Try.prog 61 #[.func (.func gf) #[] lb, .func (.func 55) #[] #[]] w fun e' w' => ∃ v' ss, e' = .returned v' ∧ S ss ∧ ss.length ≤ N ∧ Own3 w' w.heap.size v' (srt3 ss) ∧ Below w.heap.size w w' := by
  go_enter Try.func61, Try.ntmps61
  go_wp2_with fail
  refine (collect3 gf lb eg S Sp N hN _ hseq).mono ?_
  rintro e' w1 ⟨v', ss, rfl, hS, hl, hO, hb⟩
  go_wp2_with fail
  refine (sort3_any w.heap.size v' ss _ hO hb.size (by omega)).mono ?_
  rintro e' w2 ⟨rfl, hO2, hb2⟩
  go_wp2_with fail
  go_ret
  exact ⟨_, ss, rfl, hS, hl, hO2, hb.trans hb2⟩
end Go.Proofs.Ytflignpbboiahaa
