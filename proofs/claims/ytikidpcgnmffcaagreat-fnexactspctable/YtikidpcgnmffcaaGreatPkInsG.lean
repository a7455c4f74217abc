/- Laid together: what the claim needs of the texts that were built one by one. -/
import Derived.Test.YtikidpcgnmffcaaGreatPkInsR
import Derived.Laws.NewBlocks
import Derived.Test.YtikidpcgnmffcaaGreatPkBase
namespace Go.Proofs.YtikidpcgnmffcaaGreat
open Go.ChangeShapes Go.WideShapes Go.ChangeAt Go.RowKit
set_option linter.unusedVariables false

theorem bel_al {B : Nat} {w : World} (h : B ≤ w.heap.size) (o : Obj) : Below B w (w.drew.alloc o) := (show Below B w w.drew from ⟨rfl, rfl, rfl, Nat.le_refl _, fun _ _ => rfl⟩).alloc h o

theorem al_new (w : World) (R : List Value) (e : TypeId) : (w.drew.alloc (.cells R.toArray e)).heap[w.heap.size]? = some (.cells R.toArray e (0, 0)) := by
  show (w.heap.push _)[w.heap.size]? = _
  simp

theorem al_old (w : World) (ob : Obj) (q : Nat) (h : q < w.heap.size) : (w.drew.alloc ob).heap[q]? = w.heap[q]? := (bel_al (Nat.le_refl _) ob).block q h

set_option maxRecDepth 20000 in
set_option maxHeartbeats 600000 in
theorem ins_grow (r : TbR) (ys : List TbR) (i g cap B vb : Nat) (cur : Array Value) (w : World) (hi : i < ys.length) (hnc : ys.length ≤ cap) (hroom : cap < ys.length + 1) (hblk : w.heap[g]? = some (.cells cur 53 (0, 0))) (htk : cur.toList.take (ys.length * 7) = flatTb ys) (hcs : cur.size = cap * 7) (hB : B ≤ w.heap.size) (hl : ys.length ≤ 1048576) (hvw : vb < w.heap.size) (hv : ∀ j u, r.cells[j]? = some u → w.cell? ((⟨vb, 0, none⟩ : Addr).add j) = some u) : Calls Tryz.prog 61 #[.slice (some ⟨g, 0, none⟩) ys.length cap, .int .i64 i, .slice (some ⟨vb, 0, none⟩) 1 1] w fun e w' => ∃ v', e = .returned v' ∧ OwnTb w' B v' (ys.take i ++ r :: ys.drop i) ∧ Below B w w' := by
  obtain ⟨i0, hi0, hz0, hzs, hzb⟩ := info_parts Tryz.infoTb
  have hgw : g < w.heap.size := by rcases Array.getElem?_eq_some_iff.1 hblk with ⟨h, _⟩; exact h
  have hz2 : ¬ ((i : Int) = (ys.length : Int)) := by omega
  have hw0 : IntKind.i64.wrap ((ys.length : Int) + 1) = (ys.length : Int) + 1 := by rw [IntKind.wrap_i64]; omega
  have hz3 : (cap : Int) < (ys.length : Int) + 1 := by omega
  have hw1 : IntKind.i64.wrap ((i : Int) + 1) = (i : Int) + 1 := by rw [IntKind.wrap_i64]; omega
  have hw2 : IntKind.i64.wrap ((ys.length : Int) + 1 - (i : Int)) = (ys.length : Int) + 1 - (i : Int) := by rw [IntKind.wrap_i64]; omega
  have hb1 : (0 : Int) ≤ (i : Int) + 1 := by omega
  have hin : i ≤ ys.length := by omega
  have htn : ((i : Int) + 1).toNat = i + 1 := by omega
  have hb3 : (i : Int) ≤ (ys.length : Int) + 1 := by omega
  have hkk : (ys.length : Int) + 1 - (i : Int) = ((ys.length + 1 - i : Nat) : Int) := by omega
  have hik : i + (ys.length + 1 - i) = ys.length + 1 := by omega
  have hcell : ∀ j u, (flatTb ys)[j]? = some u → w.cell? ⟨g, j, none⟩ = some u := fun j u hj => by
    have hj' : j < ys.length * 7 := by rw [← flatTb_len]; exact (List.getElem?_eq_some_iff.1 hj).1
    rw [Joins.cell_of_block hblk, ← Array.getElem?_toList]
    rw [← htk, List.getElem?_take_of_lt hj'] at hj
    exact hj
  obtain ⟨X, hX⟩ : ∃ X, X = flatTb (ys.take i) := ⟨_, rfl⟩
  have hXl : X.length = i * 7 := by rw [hX, flatTb_len, List.length_take]; congr 1; omega
  have hold : (Builtin.firstCells i0.size i (.slice (some ⟨g, 0, none⟩) i cap)).run Tryz.prog w.drew = .ok X.toArray w.drew := by
    rw [hzs]
    exact run_firstCells_some w.drew 7 i ⟨g, 0, none⟩ i cap X hXl (fun j u hj => by
      have hj' : j < i * 7 := by rw [← hXl]; exact (List.getElem?_eq_some_iff.1 hj).1
      rw [Addr.add_lit, Nat.zero_add]
      rw [hX, ← flatTb_take ys i hin, List.getElem?_take_of_lt hj'] at hj
      exact hcell j u hj)
  have hrz : ∀ ty, (Builtin.append_ #[26, 3] ty #[.slice (some ⟨g, 0, none⟩) i cap, .int .i64 ((ys.length : Int) + 1 - (i : Int))]).run Tryz.prog w = .ok (.slice (some ⟨w.heap.size, 0, none⟩) (ys.length + 1) (grownCap w (ys.length + 1) cap 53)) (w.drew.alloc (.cells (X.toArray ++ Builtin.zeroCells (Value.agg #[.int .i64 0, .int .i64 0, .int .i64 0, .int .i64 0, .int .i64 0, .int .i64 0, .int .i64 0]).cells (ys.length + 1 - i) ++ Builtin.zeroCells (Value.agg #[.int .i64 0, .int .i64 0, .int .i64 0, .int .i64 0, .int .i64 0, .int .i64 0, .int .i64 0]).cells (grownCap w (ys.length + 1) cap 53 - (ys.length + 1))) 53)) := fun ty => by
    have h := Lib.run_append_grow_zeros w 26 3 ty 53 i0 _ .i64 .i64 Tryz.underlying26 Tryz.underlying3 hi0 hz0 (some ⟨g, 0, none⟩) i cap X hold (ys.length + 1 - i) (by omega) (by omega) (by omega) (by omega) (by rw [hzb]; omega) (by rw [hzb, hik]; exact growslice_fits hroom (by omega))
    rw [hik] at h
    rw [hkk]
    exact h
  obtain ⟨G, hG⟩ : ∃ G, G = grownCap w (ys.length + 1) cap 53 := ⟨_, rfl⟩
  have hGn : ys.length + 1 ≤ G := by rw [hG]; exact grownCap_ge w _ _ _
  have hGm : G ≤ maxLen := by rw [hG]; exact grownCap_le_maxLen w (ys.length + 1) cap 53 (by unfold maxLen; omega)
  rw [← hG] at hrz
  obtain ⟨ROW, hROW⟩ : ∃ ROW : List Value, ROW = (X.toArray ++ Builtin.zeroCells (Value.agg #[.int .i64 0, .int .i64 0, .int .i64 0, .int .i64 0, .int .i64 0, .int .i64 0, .int .i64 0]).cells (ys.length + 1 - i) ++ Builtin.zeroCells (Value.agg #[.int .i64 0, .int .i64 0, .int .i64 0, .int .i64 0, .int .i64 0, .int .i64 0, .int .i64 0]).cells (G - (ys.length + 1))).toList := ⟨_, rfl⟩
  have hRl : ROW.length = G * 7 := by
    rw [hROW]
    simp [Builtin.zeroCells, Value.cells, hXl]
    omega
  have hRX : ROW.take (i * 7) = X := by
    rw [hROW]
    simp [← hXl]
  have hRA : (X.toArray ++ Builtin.zeroCells (Value.agg #[.int .i64 0, .int .i64 0, .int .i64 0, .int .i64 0, .int .i64 0, .int .i64 0, .int .i64 0]).cells (ys.length + 1 - i) ++ Builtin.zeroCells (Value.agg #[.int .i64 0, .int .i64 0, .int .i64 0, .int .i64 0, .int .i64 0, .int .i64 0, .int .i64 0]).cells (G - (ys.length + 1))) = ROW.toArray := by rw [hROW, Array.toArray_toList]
  rw [hRA] at hrz
  obtain ⟨wA, hwA⟩ : ∃ wA, wA = w.drew.alloc (.cells ROW.toArray 53) := ⟨_, rfl⟩
  rw [← hwA] at hrz
  simp only [hkk] at hrz
  have hbA : Below B w wA := by rw [hwA]; exact bel_al hB _
  have HA : wA.heap[w.heap.size]? = some (.cells ROW.toArray 53 (0, 0)) := by rw [hwA]; exact al_new _ _ _
  have hold2 : ∀ q, q < w.heap.size → wA.heap[q]? = w.heap[q]? := fun q hq => by rw [hwA]; exact al_old _ _ _ hq
  clear hwA hRA hROW hold hXl
  have hcl : r.cells.length = 7 := rfl
  have hVA : ∀ j u, r.cells[j]? = some u → wA.cell? ((⟨vb, 0, none⟩ : Addr).add j) = some u := fun j u hj => by
    have e : wA.cell? ((⟨vb, 0, none⟩ : Addr).add j) = w.cell? ((⟨vb, 0, none⟩ : Addr).add j) := by rw [Addr.add_lit]; exact World.cell?_of_block (hold2 vb hvw)
    rw [e]; exact hv j u hj
  have hrunA := fun ty => run_copy_K (P := Tryz.prog) wA 26 26 ty 53 w.heap.size (i * 7) (ys.length + 1 - i) (G - i) ⟨vb, 0, none⟩ 1 1 ROW.toArray 53 r.cells 7 1 Tryz.underlying26 sizeTb HA (by simp only [Nat.min_def]; split <;> omega) (by rw [hcl]) hVA (by rw [List.size_toArray, hRl, hcl]; omega) (by simp [TbR.cells, Value.oneCell'])
  obtain ⟨L2, hL2⟩ : ∃ L2, L2 = splice ROW (i * 7) r.cells := ⟨_, rfl⟩
  have hL2l : L2.length = G * 7 := by rw [hL2, length_splice _ _ _ (by rw [hRl, hcl]; omega), hRl]
  obtain ⟨wB, hwB⟩ : ∃ wB, wB = wA.setRow w.heap.size (splice ROW.toArray.toList (i * 7) r.cells).toArray := ⟨_, rfl⟩
  simp only [← hwB] at hrunA
  have hbB : Below B w wB := by rw [hwB]; exact below_setRow hbA hB _
  have HBk : Hid (wB.heap[w.heap.size]? = some (.cells L2.toArray 53 (0, 0))) := hide (by rw [hwB, hL2]; exact setRow_heap wA w.heap.size _ _ 53 _ HA)
  obtain ⟨D, hD⟩ : ∃ D, D = flatTb (ys.drop i) := ⟨_, rfl⟩
  have hDl : D.length = (ys.length - i) * 7 := by rw [hD, flatTb_len, List.length_drop]
  have HD1 : Hid (∀ u ∈ D, u.oneCell' = true) := hide (by rw [hD]; exact oneTb _)
  have HDs : Hid (∀ j u, D[j]? = some u → wB.cell? ((⟨g, i * 7, none⟩ : Addr).add j) = some u) := hide (fun j u hj => by
    have e : wB.cell? ⟨g, i * 7 + j, none⟩ = w.cell? ⟨g, i * 7 + j, none⟩ := World.cell?_of_block (by rw [hwB, setRow_other wA w.heap.size g _ (by omega)]; exact hold2 g hgw)
    rw [Addr.add_lit, e]
    rw [hD, ← flatTb_drop ys i hin, List.getElem?_drop] at hj
    exact hcell _ u hj)
  have HLen : Hid ((ys.take i ++ r :: ys.drop i).length = ys.length + 1) := hide (by rw [List.length_append, List.length_cons, List.length_take, List.length_drop]; omega)
  have HF : Hid ((splice L2 ((i + 1) * 7) D).take ((ys.length + 1) * 7) = flatTb (ys.take i ++ r :: ys.drop i)) := hide (by
    have e := splice_grow ROW D r.cells (i * 7) ((ys.length - i) * 7) hDl rfl (by omega)
    rw [flatTb_ins, ← hD, ← hX, ← hRX, ← e, hL2, show (i + 1) * 7 = i * 7 + 7 by omega, show (ys.length + 1) * 7 = i * 7 + 7 + (ys.length - i) * 7 by omega])
  have HDl := hide hDl
  have HL2l := hide hL2l
  have hGi : ¬ (G = i) := by omega
  have hGim : ¬ (G = i + 1) := by omega
  have hci : ¬ (cap = i) := by omega
  unfold maxLen at hGm
  clear hVA hcell hv hblk HA hwB hold2 hD hL2 hDl hL2l hX hRX hRl hG htk hcs
  go_enter Tryz.func61, Tryz.ntmps61
  go_wp2_with (first
    | (at_builtin; refine Lib.wpList_append_run _ rfl _ _ _ _ rfl _ _ rfl rfl _ _ (hrz _) ?_)
    | (simp only [hrunA]))
  go_region_law (go_loud (refine step_copy_K rfl (.tmp 50) (.tmp 53) 26 26 rfl 53 7 (ys.length - i) Tryz.underlying26 sizeTb (ys.length - i) (G - (i + 1)) (ys.length - i) (cap - i) w.heap.size ((i + 1) * 7) ⟨g, i * 7, none⟩ (by simp [Act.eval, Act.put]) (by simp [Act.eval, Act.put]) L2 53 (by exact unhide HBk) D (by simp only [Nat.min_def]; split <;> omega) (unhide HDl) (by exact unhide HDs) (by rw [unhide HDl, unhide HL2l]; omega) (unhide HD1) B w (hbB.trans ⟨rfl, rfl, rfl, Nat.le_refl _, fun _ _ => rfl⟩) hB ?_); intro w3 hg3 hb3)
  all_goals
    go_wp2
    go_ret
    refine ⟨_, rfl, ?_, hb3⟩
    unfold OwnTb
    rw [unhide HLen]
    refine ⟨by rw [flatTb_len, unhide HLen], Or.inr ⟨w.heap.size, G, (splice L2 ((i + 1) * 7) D).toArray, rfl, hB, (unhide hg3).1, hGn, by unfold maxLen; omega, ?_, ?_⟩⟩
    · rw [List.size_toArray, length_splice _ _ _ (by rw [unhide HL2l, unhide HDl]; omega), unhide HL2l]
    · exact unhide HF
end Go.Proofs.YtikidpcgnmffcaaGreat
