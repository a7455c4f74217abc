/- Laid together: what the claim needs of the texts that were built one by one. -/
import Derived.Test.YtikidpcgnmffcaaGreatPkInsE
import Derived.Test.YtikidpcgnmffcaaGreatPkBase
namespace Go.Proofs.YtikidpcgnmffcaaGreat
open Go.ChangeShapes Go.WideShapes Go.ChangeAt Go.RowKit
set_option linter.unusedVariables false

theorem ovl_no (w : World) (vb g off lb cb : Nat) (tB : TypeId) (kB : Nat) (hne : vb ≠ g) (hsa : w.shape? vb = some (53, 7)) (hsb : w.shape? g = some (tB, kB)) (hkB : kB ≠ 0) (hf0 : w.frozen? ⟨vb, 0, none⟩ = false) (hf7 : w.frozen? ⟨vb, 7, none⟩ = false) : (callFunc 74 #[.slice (some ⟨vb, 0, none⟩) 1 1, .slice (some ⟨g, off, none⟩) lb cb]).run Tryz.prog w = .ok (.value (.bool false)) w := by
  obtain ⟨i0, hi, hz0, hz1, hz2⟩ := info_parts Tryz.infoTb
  rw [run_callFunc_extern Tryz.func74 (by kernel_rfl) (by kernel_rfl) (by kernel_rfl) (e := Extern.SlicesOverlaps.overlaps #[26, 26] #[4]) (by kernel_rfl),
    Lib.run_overlaps_apart w 26 4 53 Tryz.underlying26 7 (fun w => by simp [sizeOf, typeInfo, hi, hz1]) ⟨vb, 0, none⟩ ⟨g, off, none⟩ 1 1 lb cb hne 53 tB 7 kB hsa hsb hkB hf0 hf7]
  rfl

set_option maxRecDepth 20000 in
set_option maxHeartbeats 2000000 in
theorem ins_room (r : TbR) (ys : List TbR) (i g cap B vb : Nat) (cur : Array Value) (w : World) (hi : i < ys.length) (hroom : ys.length + 1 ≤ cap) (hcm : cap ≤ maxLen) (hblk : w.heap[g]? = some (.cells cur 53 (0, 0))) (hcs : cur.size = cap * 7) (htk : cur.toList.take (ys.length * 7) = flatTb ys) (hBg : B ≤ g) (hl : ys.length ≤ 1048576) (hne : vb ≠ g) (hsa : w.shape? vb = some (53, 7)) (hf0 : w.frozen? ⟨vb, 0, none⟩ = false) (hf7 : w.frozen? ⟨vb, 7, none⟩ = false) (hv : ∀ j u, r.cells[j]? = some u → w.cell? ((⟨vb, 0, none⟩ : Addr).add j) = some u) : Calls Tryz.prog 61 #[.slice (some ⟨g, 0, none⟩) ys.length cap, .int .i64 i, .slice (some ⟨vb, 0, none⟩) 1 1] w fun e w' => ∃ v', e = .returned v' ∧ OwnTb w' B v' (ys.take i ++ r :: ys.drop i) ∧ Below B w w' := by
  have hsb : w.shape? g = some (53, cap * 7) := by simp [World.shape?, hblk, hcs]
  have hov := fun off lb cb => ovl_no w vb g off lb cb 53 (cap * 7) hne hsa hsb (by omega) hf0 hf7
  have HV := hide hv
  unfold maxLen at hcm
  have hz2 : ¬ ((i : Int) = (ys.length : Int)) := by omega
  have hw0 : IntKind.i64.wrap ((ys.length : Int) + 1) = (ys.length : Int) + 1 := by rw [IntKind.wrap_i64]; omega
  have hz3 : ¬ ((cap : Int) < (ys.length : Int) + 1) := by omega
  have hw1 : IntKind.i64.wrap ((i : Int) + 1) = (i : Int) + 1 := by rw [IntKind.wrap_i64]; omega
  have hb1 : (0 : Int) ≤ (i : Int) + 1 := by omega
  have hin : i ≤ ys.length := by omega
  have htn : ((i : Int) + 1).toNat = i + 1 := by omega
  have htn2 : ((ys.length : Int) + 1).toNat = ys.length + 1 := by omega
  have hb2 : ¬ (cap = i + 1) := by omega
  have hb3 : (i : Int) ≤ (ys.length : Int) + 1 := by omega
  have hb4 : ¬ (cap = i) := by omega
  obtain ⟨D, hD⟩ : ∃ D, D = flatTb (ys.drop i) := ⟨_, rfl⟩
  have hDl : D.length = (ys.length - i) * 7 := by rw [hD, flatTb_len, List.length_drop]
  have hD1 : ∀ u ∈ D, u.oneCell' = true := by rw [hD]; exact oneTb _
  have hDs : ∀ j u, D[j]? = some u → w.cell? ((⟨g, i * 7, none⟩ : Addr).add j) = some u := fun j u hj => by
    rw [Addr.add_lit, Joins.cell_of_block hblk, ← Array.getElem?_toList]
    have hj' : j < (ys.length - i) * 7 := by rw [← hDl]; exact (List.getElem?_eq_some_iff.1 hj).1
    rw [hD, ← flatTb_drop ys i hin, List.getElem?_drop, ← htk, List.getElem?_take_of_lt (by omega)] at hj
    exact hj
  obtain ⟨L, hL⟩ : ∃ L, L = cur.toList := ⟨_, rfl⟩
  have hLl : L.length = cap * 7 := by rw [hL, Array.length_toList]; exact hcs
  have hLb : w.heap[g]? = some (.cells L.toArray 53 (0, 0)) := by rw [hL, Array.toArray_toList]; exact hblk
  obtain ⟨L2, hL2⟩ : ∃ L2, L2 = splice L ((i + 1) * 7) D := ⟨_, rfl⟩
  have hL2l : L2.length = cap * 7 := by rw [hL2, length_splice _ _ _ (by omega), hLl]
  have hlen : (ys.take i ++ r :: ys.drop i).length = ys.length + 1 := by rw [List.length_append, List.length_cons, List.length_take, List.length_drop]; omega
  have HF : Hid ((splice L2 (i * 7) r.cells).take ((ys.length + 1) * 7) = flatTb (ys.take i ++ r :: ys.drop i)) := hide (by
    have e := splice_room L D r.cells (i * 7) ((ys.length - i) * 7) hDl rfl (by omega)
    rw [flatTb_ins, ← flatTb_take ys i hin, ← hD, ← htk, List.take_take, ← hL, show min (i * 7) (ys.length * 7) = i * 7 by omega, ← e, hL2, show (i + 1) * 7 = i * 7 + 7 by omega, show (ys.length + 1) * 7 = i * 7 + 7 + (ys.length - i) * 7 by omega])
  have HDs := hide hDs
  have HD1 := hide hD1
  have HDl := hide hDl
  have HL2 := hide hL2
  have HLb := hide hLb
  have HLl := hide hLl
  have HL2l := hide hL2l
  have HLen := hide hlen
  clear hv hD hDs hD1 hDl hL2 hL htk hblk hcs hsb hLb hLl hL2l hlen
  go_enter Tryz.func61, Tryz.ntmps61
  go_wp2_with (simp only [hov])
  clear hov
  go_region_law (go_loud (refine step_copy_K rfl (.tmp 73) (.tmp 76) 26 26 rfl 53 7 (ys.length - i) Tryz.underlying26 sizeTb (ys.length - i) (cap - (i + 1)) (ys.length + 1 - i) (cap - i) g ((i + 1) * 7) ⟨g, i * 7, none⟩ (by simp [Act.eval, Act.put]) (by simp [Act.eval, Act.put]) L 53 (by exact unhide HLb) D (by simp only [Nat.min_def]; split <;> omega) (unhide HDl) (by exact unhide HDs) (by rw [unhide HDl, unhide HLl]; omega) (unhide HD1) B w ⟨rfl, rfl, rfl, Nat.le_refl _, fun _ _ => rfl⟩ hBg ?_); intro w2 hg2 hb2)
  all_goals
    have HG2 : Hid (w2.heap[g]? = some (.cells L2.toArray 53 (0, 0))) := hide (by rw [unhide HL2]; exact (unhide hg2).1)
    have HV2 : Hid (∀ j u, r.cells[j]? = some u → w2.cell? ((⟨vb, 0, none⟩ : Addr).add j) = some u) := hide (fun j u hj => by
      have e : w2.cell? ((⟨vb, 0, none⟩ : Addr).add j) = w.cell? ((⟨vb, 0, none⟩ : Addr).add j) := by rw [Addr.add_lit]; exact World.cell?_of_block ((unhide hg2).2 vb hne)
      rw [e]; exact unhide HV j u hj)
    clear hg2
    have hcl : r.cells.length = 7 := rfl
    have hrun := run_copy_K (P := Tryz.prog) w2 26 26 3 53 g (i * 7) (ys.length + 1 - i) (cap - i) ⟨vb, 0, none⟩ 1 1 L2.toArray 53 r.cells 7 1 Tryz.underlying26 sizeTb (unhide HG2) (by simp only [Nat.min_def]; split <;> omega) (by rw [hcl]) (unhide HV2) (by rw [List.size_toArray, unhide HL2l, hcl]; omega) (by simp [TbR.cells, Value.oneCell'])
    obtain ⟨w3, hw3⟩ : ∃ w3, w3 = w2.setRow g (splice L2.toArray.toList (i * 7) r.cells).toArray := ⟨_, rfl⟩
    rw [← hw3] at hrun
    have hb3 : Below B w w3 := by rw [hw3]; exact below_setRow hb2 hBg _
    have hg3 : Hid (w3.heap[g]? = some (.cells (splice L2 (i * 7) r.cells).toArray 53 (0, 0))) := hide (by rw [hw3]; exact setRow_heap w2 g _ _ 53 _ (unhide HG2))
    clear hw3 hcl
    go_wp2_with (simp only [hrun])
    go_ret
    refine ⟨_, rfl, ?_, hb3⟩
    unfold OwnTb
    rw [unhide HLen]
    refine ⟨by rw [flatTb_len, unhide HLen], Or.inr ⟨g, cap, (splice L2 (i * 7) r.cells).toArray, rfl, hBg, unhide hg3, hroom, by unfold maxLen; omega, ?_, ?_⟩⟩
    · rw [List.size_toArray, length_splice _ _ _ (by rw [unhide HL2l]; simp [TbR.cells]; omega), unhide HL2l]
    · exact unhide HF
end Go.Proofs.YtikidpcgnmffcaaGreat
