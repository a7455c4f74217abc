/- Proved here: the specification's words of a text, and the number that a word is. -/
import Derived.Test.YtcokdcehjibanaaGreatDoorWords
import Derived.Test.YtcokdcehjibanaaGreatDoorRwStr
import Derived.Test.YtcokdcehjibanaaGreatDoorDig
import Derived.Maps.AppendAt
namespace Go.Proofs.YtcokdcehjibanaaGreatDoor
open Go.ChangeShapes Go.WideShapes Go.ChangeAt Go.RowKit
set_option linter.unusedVariables false


theorem Tryz.infoStrW : (Tryz.prog.info? 9).map (fun i => (i.zero, i.size, i.bytes)) = some (some (.string ⟨#[]⟩), 1, 16) := by kernel_rfl
def stL (L : List ByteArray) : List StR := L.map fun x => ⟨x⟩
theorem stL_len (L : List ByteArray) : (stL L).length = L.length := by simp [stL]
theorem stL_snoc (L : List ByteArray) (x : ByteArray) : stL (L ++ [x]) = stL L ++ [⟨x⟩] := by simp [stL]
def bl (L : List ByteArray) : List (List UInt8) := L.map (·.data.toList)
/-- Words so far, and the one under way. -/
def PreW (L : List ByteArray) (cur : ByteArray) (t : List UInt8) : Prop := (∀ x ∈ bl L, (32 : UInt8) ∉ x) ∧ (32 : UInt8) ∉ cur.data.toList ∧ joinW (bl L ++ [cur.data.toList]) = t
theorem preW_0 : PreW [] ⟨#[]⟩ [] := ⟨fun x h => by simp [bl] at h, by simp, by simp [bl, joinW]⟩
theorem preW_cut {L : List ByteArray} {cur : ByteArray} {t : List UInt8} (h : PreW L cur t) : PreW (L ++ [cur]) ⟨#[]⟩ (t ++ [32]) := by
  obtain ⟨h1, h2, h3⟩ := h
  refine ⟨fun x hx => ?_, by simp, ?_⟩
  · simp [bl] at hx
    rcases hx with ⟨y, hy, rfl⟩ | rfl
    · exact h1 _ (by simp [bl]; exact ⟨y, hy, rfl⟩)
    · exact h2
  · have := joinW_snoc (bl L) cur.data.toList []
    rw [h3] at this
    simpa [bl] using this
theorem preW_more {L : List ByteArray} {cur : ByteArray} {t : List UInt8} {c : UInt8} (h : PreW L cur t) (hc : c ≠ 32) : PreW L (cur ++ ⟨[c].toArray⟩) (t ++ [c]) := by
  obtain ⟨h1, h2, h3⟩ := h
  have e : (cur ++ ⟨[c].toArray⟩).data.toList = cur.data.toList ++ [c] := by simp
  refine ⟨h1, ?_, ?_⟩
  · rw [e]; simp; exact ⟨by simpa using h2, fun x => hc x.symm⟩
  · rw [e, joinW_more, h3]
theorem preW_end {L : List ByteArray} {cur : ByteArray} {t : List UInt8} (h : PreW L cur t) : Wo (bl (L ++ [cur])) t := by
  obtain ⟨h1, h2, h3⟩ := h
  refine ⟨by simp [bl], fun x hx => ?_, by simpa [bl] using h3⟩
  simp [bl] at hx
  rcases hx with ⟨y, hy, rfl⟩ | rfl
  · exact h1 _ (by simp [bl]; exact ⟨y, hy, rfl⟩)
  · exact h2
theorem own_litS {W : World} {B g : Nat} (h : B ≤ W.heap.size) (hg : g = W.heap.size) : OwnSt (W.alloc (.cells #[] 9)) B (.slice (some ⟨g, 0, none⟩) 0 0) [] := by
  subst hg
  exact World.ownsRow_lit (base := B) (size := 1) W #[] 0 h (by decide) (by simp)
/-- Words as a function gives them: in memory of its own. -/
def WdP (s : ByteArray) (w : World) (e : Ending) (w' : World) : Prop := ∃ (v : Value) (L : List ByteArray), e = .returned v ∧ OwnSt w' w.heap.size v (stL L) ∧ (s.size ≤ 100 → Wo (bl L) s.data.toList) ∧ (¬ s.size ≤ 100 → L = []) ∧ L.length ≤ 101 ∧ (∀ x ∈ L, x.size ≤ 100) ∧ Below w.heap.size w w'

set_option linter.unusedSimpArgs false in
set_option maxRecDepth 20000 in
set_option maxHeartbeats 2000000 in
theorem words_any (s : ByteArray) (w : World) (hs : s.size ≤ 1048576) : Calls Tryz.prog 37 #[.string s] w fun e w' => WdP s w e w' := by
  obtain ⟨i0, hi, hz0, hz1, hz2⟩ := info_parts Tryz.infoStrW
  by_cases hz : (100 : Int) < (s.size : Int)
  · go_enter Tryz.func37, Tryz.ntmps37
    go_wp2
    go_ret
    exact ⟨_, [], rfl, own_litS (Nat.le_refl _) rfl, fun h => absurd h (by omega), fun _ => rfl, by simp, by simp, bel_one _ _⟩
  · go_enter Tryz.func37, Tryz.ntmps37
    go_wp2
    go_loopw [3, 4, 5] (fun ov wv iv wr => ∃ (i : Nat) (L : List ByteArray) (cur : ByteArray), i ≤ s.size ∧ iv = .int .i64 i ∧ wv = .string cur ∧ Hid (OwnSt wr w.heap.size ov (stL L)) ∧ Hid (PreW L cur (s.data.toList.take i)) ∧ Hid (∀ x ∈ L, x.size ≤ 100) ∧ cur.size ≤ i ∧ L.length ≤ i ∧ Below w.heap.size w wr) (fun _ _ i _ => s.size - (intOf i).toNat)
    case atStart => exact ⟨0, [], ⟨#[]⟩, Nat.zero_le _, rfl, rfl, hide (own_litS (Nat.le_refl _) rfl), hide preW_0, hide (by simp), Nat.zero_le _, Nat.zero_le _, bel_one _ _⟩
    case round =>
      obtain ⟨i, L, cur, hi9, rfl, rfl, HO, HP, HX, hcs, hLl, hbw⟩ := hrel
      have zwr := hbw.size
      have hge := hide (ownSt_ge (unhide HO))
      have hll := stL_len L
      by_cases hlt : i < s.size
      · have htk := take_snocB s i hlt
        by_cases hc : (s[i].toNat : Int) == 32
        · have hc9 : s[i] = 32 := by
            have h1 : (s[i].toNat : Int) = 32 := by simpa using hc
            apply UInt8.toNat_inj.1
            have h2 : (32 : UInt8).toNat = 32 := rfl
            omega
          have HP2 : Hid (PreW (L ++ [cur]) ⟨#[]⟩ (s.data.toList.take (i + 1))) := hide (by rw [htk, hc9]; exact preW_cut (unhide HP))
          have HX2 : Hid (∀ x ∈ L ++ [cur], x.size ≤ 100) := hide (fun x hx => by
            rcases List.mem_append.1 hx with h | h
            · exact unhide HX x h
            · simp at h; rw [h]; omega)
          clear htk
          go_wp2_with (at_builtin; go_loud (refine wpList_append_own _ rfl _ _ 25 rfl w.heap.size 9 i0 _ 1 16 Tryz.underlying25 hi hz0 hz1 hz2 rfl (by decide) u3 _ _ rfl (World.ownsRow.alloc (unhide HO) _) ⟨wr.heap.size, 0, none⟩ 1 1 [.string cur] rfl rfl (cells_newSt wr cur _) (by simp [Value.oneCell']) (by unfold maxLen; omega) (by omega) (by simp; omega) ?_); intro v' w1 hown' hgrow _)
          have hb1 := (hbw.alloc (by omega) _).grown hgrow (by simp; omega) (unhide hge)
          have HO2 : Hid (OwnSt w1 w.heap.size v' (stL (L ++ [cur]))) := hide (by rw [stL_snoc]; exact ownSt_snoc hown')
          clear hown'
          refine ⟨⟨i + 1, L ++ [cur], ⟨#[]⟩, by omega, by first | rfl | (simp; done), rfl, HO2, HP2, HX2, Nat.zero_le _, by simp; omega, hb1⟩, ?_⟩
          simp [intOf]; omega
        · have hc9 : s[i] ≠ 32 := fun e => by rw [e] at hc; simp at hc
          have hcF : ((s[i].toNat : Int) == 32) = false := by simpa using hc
          have hc8 := UInt8.toNat_lt s[i]
          obtain ⟨c, hcc, hcv⟩ := conv1c (s[i].toNat : Int) (by omega) (by omega) wr
          have hcs9 : c = s[i] := by
            rw [unhide hcc]
            apply UInt8.toNat_inj.1
            simp
          have HP2 : Hid (PreW L (cur ++ ⟨[c].toArray⟩) (s.data.toList.take (i + 1))) := hide (by rw [htk, hcs9]; exact preW_more (unhide HP) hc9)
          have hsz : ¬ 9223372036854775807 < cur.size + 1 := by omega
          clear htk hcs9 hcc hc9
          go_wp2
          go_roundw
          case rel => exact ⟨i + 1, L, cur ++ ⟨[c].toArray⟩, by omega, by go_num, rfl, hide (World.ownsRow.alloc (unhide HO) _), HP2, HX, by rw [ByteArray.size_append]; have : (⟨[c].toArray⟩ : ByteArray).size = 1 := rfl; omega, by omega, bel_alloc hbw _⟩
          case measure => simp [intOf]; omega
      · have hie : i = s.size := by omega
        have HE : Hid (Wo (bl (L ++ [cur])) s.data.toList) := hide (by
          have h9 := preW_end (unhide HP)
          rwa [List.take_of_length_le (by rw [hie]; exact Nat.le_of_eq (by rw [Array.length_toList]; rfl))] at h9)
        have HX2 : Hid (∀ x ∈ L ++ [cur], x.size ≤ 100) := hide (fun x hx => by
            rcases List.mem_append.1 hx with h | h
            · exact unhide HX x h
            · simp at h; rw [h]; omega)
        clear hie
        go_wp2_with (at_builtin; go_loud (refine wpList_append_own _ rfl _ _ 25 rfl w.heap.size 9 i0 _ 1 16 Tryz.underlying25 hi hz0 hz1 hz2 rfl (by decide) u3 _ _ rfl (World.ownsRow.alloc (unhide HO) _) ⟨wr.heap.size, 0, none⟩ 1 1 [.string cur] rfl rfl (cells_newSt wr cur _) (by simp [Value.oneCell']) (by unfold maxLen; omega) (by omega) (by simp; omega) ?_); intro v' w1 hown' hgrow _)
        have hb1 := (hbw.alloc (by omega) _).grown hgrow (by simp; omega) (unhide hge)
        have HO2 : OwnSt w1 w.heap.size v' (stL (L ++ [cur])) := by rw [stL_snoc]; exact ownSt_snoc hown'
        go_ret
        exact ⟨_, L ++ [cur], rfl, HO2, fun _ => unhide HE, fun h => absurd (by omega) h, by simp; omega, unhide HX2, hb1⟩
end Go.Proofs.YtcokdcehjibanaaGreatDoor
