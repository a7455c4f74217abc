/- Laid together: what the claim needs of the texts that were built one by one. -/
import Derived.Test.YtikidpcgnmffcaaGreatPkInsA
import Derived.Test.YtikidpcgnmffcaaGreatPkBase
namespace Go.Proofs.YtikidpcgnmffcaaGreat
open Go.ChangeShapes Go.WideShapes Go.ChangeAt Go.RowKit
set_option linter.unusedVariables false

theorem splice_room {α : Type} (L D S : List α) (a d : Nat) (hd : D.length = d) (hS : S.length = 7) (hl : a + 7 + d ≤ L.length) : (splice (splice L (a + 7) D) a S).take (a + 7 + d) = L.take a ++ (S ++ D) := by
  subst hd
  have h1 : (L.take (a + 7)).length = a + 7 := by rw [List.length_take]; omega
  have e1 : (splice L (a + 7) D).take a = L.take a := by
    unfold splice
    rw [List.take_append_of_le_length (by omega), List.take_take]
    congr 1; omega
  have e2 : (splice L (a + 7) D).drop (a + 7) = D ++ L.drop (a + 7 + D.length) := by
    unfold splice
    rw [List.drop_append_of_le_length (by omega), List.drop_of_length_le (by omega), List.nil_append]
  have e3 : splice (splice L (a + 7) D) a S = (L.take a ++ (S ++ D)) ++ L.drop (a + 7 + D.length) := by
    rw [splice, e1, hS, e2]; simp
  rw [e3, List.take_append_of_le_length (by simp [hS]; omega)]
  exact List.take_of_length_le (by simp [hS]; omega)

theorem splice_grow {α : Type} (L D S : List α) (a d : Nat) (hd : D.length = d) (hS : S.length = 7) (hl : a + 7 + d ≤ L.length) : (splice (splice L a S) (a + 7) D).take (a + 7 + d) = L.take a ++ (S ++ D) := by
  subst hd
  have h1 : (L.take a).length = a := by rw [List.length_take]; omega
  have e1 : (splice L a S).take (a + 7) = L.take a ++ S := by
    unfold splice
    rw [← List.append_assoc, List.take_append_of_le_length (by simp [hS]; omega)]
    exact List.take_of_length_le (by simp [hS]; omega)
  rw [splice, e1, ← List.append_assoc, List.take_append_of_le_length (by simp [hS]; omega), List.append_assoc]
  exact List.take_of_length_le (by simp [hS]; omega)

theorem flatTb_app (xs ys : List TbR) : flatTb (xs ++ ys) = flatTb xs ++ flatTb ys := by simp [flatTb]

theorem flatTb_ins (r : TbR) (ys : List TbR) (i : Nat) : flatTb (ys.take i ++ r :: ys.drop i) = flatTb (ys.take i) ++ (r.cells ++ flatTb (ys.drop i)) := by simp [flatTb]

theorem flatTb_take (ys : List TbR) (i : Nat) (h : i ≤ ys.length) : (flatTb ys).take (i * 7) = flatTb (ys.take i) := by
  have e : flatTb ys = flatTb (ys.take i) ++ flatTb (ys.drop i) := by rw [← flatTb_app, List.take_append_drop]
  have hl : (flatTb (ys.take i)).length = i * 7 := by rw [flatTb_len, List.length_take]; congr 1; omega
  rw [e, List.take_append_of_le_length (by omega)]
  exact List.take_of_length_le (by omega)

theorem flatTb_drop (ys : List TbR) (i : Nat) (h : i ≤ ys.length) : (flatTb ys).drop (i * 7) = flatTb (ys.drop i) := by
  have e : flatTb ys = flatTb (ys.take i) ++ flatTb (ys.drop i) := by rw [← flatTb_app, List.take_append_drop]
  have hl : (flatTb (ys.take i)).length = i * 7 := by rw [flatTb_len, List.length_take]; congr 1; omega
  rw [e, List.drop_append_of_le_length (by omega), List.drop_of_length_le (by omega), List.nil_append]

theorem oneTb (ys : List TbR) : ∀ u ∈ flatTb ys, u.oneCell' = true := by
  intro u hu
  simp only [flatTb, List.mem_flatMap] at hu
  obtain ⟨x, _, hx⟩ := hu
  simp [TbR.cells] at hx
  rcases hx with rfl | rfl | rfl | rfl | rfl | rfl | rfl <;> rfl

theorem sizeTb : (Tryz.prog.info? 53).map (·.size) = some 7 := by kernel_rfl

set_option maxRecDepth 20000 in
set_option maxHeartbeats 2000000 in
theorem ins_end (r : TbR) (ys : List TbR) (a : Option Addr) (cap B vb : Nat) (w : World) (hO : OwnTb w B (.slice a ys.length cap) ys) (hnc : ys.length ≤ cap) (hl : ys.length ≤ 1048576) (hB : B ≤ w.heap.size) (hv : ∀ j u, r.cells[j]? = some u → w.cell? ((⟨vb, 0, none⟩ : Addr).add j) = some u) : Calls Tryz.prog 61 #[.slice a ys.length cap, .int .i64 ys.length, .slice (some ⟨vb, 0, none⟩) 1 1] w fun e w' => ∃ v', e = .returned v' ∧ OwnTb w' B v' (ys ++ [r]) ∧ Below B w w' := by
  obtain ⟨i0, hi, hz0, hz1, hz2⟩ := info_parts Tryz.infoTb
  have HO := hide hO
  have HG := hide (ownTb_ge hO)
  have HV := hide hv
  clear hO hv
  go_enter Tryz.func61, Tryz.ntmps61
  go_wp2_with (at_builtin; go_loud (refine wpList_append_own _ rfl _ _ 26 rfl B 53 i0 _ 7 56 Tryz.underlying26 hi hz0 hz1 hz2 rfl (by decide) (.slice a ys.length cap) _ _ rfl (unhide HO) ⟨vb, 0, none⟩ 1 1 r.cells rfl rfl (unhide HV) (by simp [TbR.cells, Value.oneCell']) (by unfold maxLen; omega) (by omega) hB ?_); intro v' w1 hown' hgrow _)
  all_goals
    go_ret
    exact ⟨_, rfl, ownTb_snoc hown', (Below.refl B w).grown hgrow hB (unhide HG)⟩
end Go.Proofs.YtikidpcgnmffcaaGreat
