/- Proved here: what the specification reads as a window. -/
import Derived.Test.YtkadmigecojpoaaDoorWinText
import Derived.Test.YtkadmigecojpoaaDoorNum2

namespace Go.Proofs.YtkadmigecojpoaaDoor
open Go.ChangeShapes Go.WideShapes Go.ChangeAt Go.RowKit
set_option linter.unusedVariables false

/-- What a text is read as: the window whose text it is, or nothing. -/
def WinR (s : ByteArray) (a b : Int) (c : Bool) : Prop := (c = true ∧ okWin a b = true ∧ winTxt a b = s) ∨ (c = false ∧ a = 0 ∧ b = 0 ∧ ∀ x y, okWin x y = true → winTxt x y ≠ s)

theorem txt_list (a b : Int) : (winTxt a b).data.toList = Lib.decDigits a.toNat ++ 46 :: 46 :: Lib.decDigits b.toNat := by
  unfold winTxt decS
  rw [show (⟨#[46, 46]⟩ : ByteArray) = ⟨([46, 46] : List UInt8).toArray⟩ from rfl, bytes_add, bytes_add]
  simp
theorem no_dot (u : Nat) : (46 : UInt8) ∉ Lib.decDigits u := by
  intro h
  have := List.all_eq_true.1 (dec_all u) 46 h
  simp [digB] at this
theorem dot_inj {l1 l2 r1 r2 : List UInt8} (h1 : (46 : UInt8) ∉ l1) (h2 : (46 : UInt8) ∉ l2) (h : l1 ++ 46 :: r1 = l2 ++ 46 :: r2) : l1 = l2 ∧ r1 = r2 := by
  induction l1 generalizing l2 with
  | nil =>
    cases l2 with
    | nil => simp at h; exact ⟨rfl, h⟩
    | cons c l2 => simp at h; exact absurd (by rw [← h.1]; simp) h2
  | cons c l1 ih =>
    cases l2 with
    | nil => simp at h; exact absurd (by rw [h.1]; simp) h1
    | cons d l2 =>
      simp at h h1 h2
      obtain ⟨e1, e2⟩ := ih (l2 := l2) (by simpa using h1.2) (by simpa using h2.2) h.2
      exact ⟨by rw [h.1, e1], e2⟩
theorem dec_inj {u v : Nat} (h : Lib.decDigits u = Lib.decDigits v) : u = v := by
  have h1 := dec_acc u
  rw [h, dec_acc v] at h1
  omega
theorem txt_inj {a b x y : Int} (h1 : okWin a b = true) (h2 : okWin x y = true) (h : winTxt a b = winTxt x y) : a = x ∧ b = y := by
  have hl := congrArg (fun z : ByteArray => z.data.toList) h
  rw [txt_list, txt_list] at hl
  obtain ⟨e1, e2⟩ := dot_inj (no_dot _) (no_dot _) hl
  simp at e2
  have := dec_inj e1
  have := dec_inj e2
  have := okWin_bd h1
  have := okWin_bd h2
  omega
theorem WinR.same {s : ByteArray} {a b x y : Int} {c d : Bool} (h : WinR s a b c) (k : WinR s x y d) : a = x ∧ b = y ∧ c = d := by
  rcases h with ⟨rfl, h1, h2⟩ | ⟨rfl, rfl, rfl, h1⟩
  · rcases k with ⟨rfl, k1, k2⟩ | ⟨rfl, rfl, rfl, k1⟩
    · obtain ⟨e1, e2⟩ := txt_inj h1 k1 (h2.trans k2.symm)
      exact ⟨e1, e2, rfl⟩
    · exact absurd h2 (k1 a b h1)
  · rcases k with ⟨rfl, k1, k2⟩ | ⟨rfl, rfl, rfl, k1⟩
    · exact absurd k2 (h1 x y k1)
    · exact ⟨rfl, rfl, rfl⟩

/-- No window whose text it is has so few digits ahead of the dots. -/
def Past (s : ByteArray) (k : Nat) : Prop := ∀ x y, okWin x y = true → winTxt x y = s → k ≤ (Lib.decDigits x.toNat).length
theorem bytes_eq {s : ByteArray} {l : List UInt8} (h : s.data.toList = l) (k : Nat) (hk : k < s.size) : l[k]? = some s[k] := by
  rw [← h, List.getElem?_eq_getElem (by simpa using hk)]; rfl
theorem past_else {s : ByteArray} {k : Nat} (hp : Past s k) (hk : k + 1 < s.size) (hn : ¬ (s[k] = 46 ∧ s[k + 1] = 46)) : Past s (k + 1) := by
  intro x y ho he
  have h1 := hp x y ho he
  rcases Nat.lt_or_ge k (Lib.decDigits x.toNat).length with h2 | h2
  · exact h2
  · have hk' : k = (Lib.decDigits x.toNat).length := by omega
    have hl := txt_list x y
    rw [he] at hl
    have e0 := bytes_eq hl k (by omega)
    have e1 := bytes_eq hl (k + 1) hk
    rw [List.getElem?_append_right (by omega)] at e0 e1
    rw [show k - (Lib.decDigits x.toNat).length = 0 by omega] at e0
    rw [show k + 1 - (Lib.decDigits x.toNat).length = 1 by omega] at e1
    simp at e0 e1
    exact absurd ⟨e0.symm, e1.symm⟩ hn
theorem past_miss {s : ByteArray} {k : Nat} (hp : Past s k) (hk : k + 1 < s.size) (hm : winText (num1 (s.data.toList.take k)).1 (num1 (s.data.toList.drop (k + 2))).1 ≠ s) : Past s (k + 1) := by
  intro x y ho he
  have h1 := hp x y ho he
  rcases Nat.lt_or_ge k (Lib.decDigits x.toNat).length with h2 | h2
  · exact h2
  · have hk' : k = (Lib.decDigits x.toNat).length := by omega
    have hl := txt_list x y
    rw [he] at hl
    obtain ⟨b1, b2, b3, b4⟩ := okWin_bd ho
    have e0 : s.data.toList.take k = Lib.decDigits x.toNat := by rw [hl, hk']; simp
    have e1 : s.data.toList.drop (k + 2) = Lib.decDigits y.toNat := by
      rw [hl, hk', ← List.drop_drop]; simp
    rw [e0, e1, num1_dec _ (by omega), num1_dec _ (by omega)] at hm
    simp only [show ((x.toNat : Nat) : Int) = x by omega, show ((y.toNat : Nat) : Int) = y by omega] at hm
    rw [winText_ok ho] at hm
    exact absurd he hm
theorem past_end {s : ByteArray} {k : Nat} (hp : Past s k) (hk : s.size ≤ k + 1 ∨ 8 ≤ k) : WinR s 0 0 false := by
  refine Or.inr ⟨rfl, rfl, rfl, fun x y ho he => ?_⟩
  have h1 := hp x y ho he
  obtain ⟨b1, b2, b3, b4⟩ := okWin_bd ho
  have h2 := dec_lenk 1 x.toNat (by omega)
  have h3 : s.size = (Lib.decDigits x.toNat).length + 2 + (Lib.decDigits y.toNat).length := by
    have hl := txt_list x y
    rw [he] at hl
    have := congrArg List.length hl
    simp at this
    omega
  have h4 := dec_pos y.toNat
  omega
theorem hit {s : ByteArray} {a b : Int} (hz : 0 < s.size) (h : winText a b = s) : WinR s a b true := by
  cases ho : okWin a b
  · rw [winText_no ho] at h
    rw [← h] at hz
    exact absurd hz (by decide)
  · exact Or.inl ⟨rfl, ho, by rw [← winText_ok ho]; exact h⟩
theorem extTake (s : ByteArray) (k : Nat) (h : k ≤ s.size) : (s.extract 0 k).data.toList = s.data.toList.take k := by
  rw [ByteArray.data_extract]
  simp
theorem extDrop (s : ByteArray) (k : Nat) : (s.extract k s.size).data.toList = s.data.toList.drop k := by
  rw [ByteArray.data_extract]
  simp
  exact List.take_of_length_le (by simp)

/-- What reading a window comes to. -/
def ReadP (s : ByteArray) (w : World) (e : Ending) (w' : World) : Prop := ∃ a b c, e = .returned (.tuple #[.agg #[.int .i64 a, .int .i64 b], .bool c]) ∧ WinR s a b c ∧ Below w.heap.size w w'
theorem ReadP.mk {s : ByteArray} {w w' : World} {a b : Int} {c : Bool} (h : WinR s a b c) (hb : Below w.heap.size w w') : ReadP s w (.returned (.tuple #[.agg #[.int .i64 a, .int .i64 b], .bool c])) w' := ⟨a, b, c, rfl, h, hb⟩
theorem set2_bel {w W : World} {u v : Value} (h : Below w.heap.size w W) : Below w.heap.size w ((W.setCell ⟨w.heap.size, 0, none⟩ u).setCell ⟨w.heap.size, 1, none⟩ v) := (h.setCell (p := ⟨w.heap.size, 0, none⟩) (Nat.le_refl _) _).setCell (p := ⟨w.heap.size, 1, none⟩) (Nat.le_refl _) _

theorem number_at {s : ByteArray} {n : Int} {b : Bool} (h : num1 s.data.toList = (n, b)) (w : World) (hs : s.size ≤ 1048576) : Calls Tryd.prog 34 #[.string s] w fun e w' => e = .returned (.tuple #[.int .i64 n, .bool b]) ∧ w' = w := by
  have := number_any s w hs
  rw [h] at this
  exact this

set_option maxRecDepth 20000 in
set_option maxHeartbeats 1000000 in
theorem specread_any (s : ByteArray) (w : World) (hs : s.size ≤ 1048576) : Calls Tryd.prog 10 #[.string s] w fun e w' => ReadP s w e w' := by
  go_enter Tryd.func10, Tryd.ntmps10
  go_wp2
  go_loopw [4] (fun i wr => ∃ k : Nat, k ≤ 8 ∧ k ≤ s.size ∧ i = .int .i64 k ∧ Hid (Past s k) ∧ (wr.cell? ⟨w.heap.size, 0, none⟩ = some (.int .i64 0) ∧ wr.cell? ⟨w.heap.size, 1, none⟩ = some (.int .i64 0)) ∧ (wr.frozen? ⟨w.heap.size, 0, none⟩ = false ∧ wr.frozen? ⟨w.heap.size, 1, none⟩ = false) ∧ w.heap.size < wr.heap.size ∧ Below w.heap.size w wr) (fun i _ => 8 - (intOf i).toNat)
  case atStart =>
    refine ⟨0, by omega, by omega, rfl, hide (fun _ _ _ _ => Nat.zero_le _), ⟨?_, ?_⟩, ⟨?_, ?_⟩, ?_, bel_one _ _⟩
    all_goals simp [go_sem]
  case round =>
    obtain ⟨k, hk8, hks, rfl, hpast, ⟨hc0, hc1⟩, ⟨hf0, hf1⟩, hsz, hbw⟩ := hrel
    by_cases h1 : (k : Int) + 1 < (s.size : Int)
    · by_cases h2 : (k : Int) < 8
      · have hk1 : k + 1 < s.size := by omega
        have hk0 : k < s.size := by omega
        have q1 := hide (u8_eq s[k] 46 (by omega))
        have q2 := hide (u8_eq s[k + 1] 46 (by omega))
        cases e1 : ((s[k].toNat : Int) == 46)
        · have hp' : Hid (Past s (k + 1)) := hide (past_else (unhide hpast) hk1 (fun hh => by have := unhide q1; rw [hh.1] at this e1; simp at e1))
          go_wp2
          go_roundw
          case rel => exact ⟨k + 1, by omega, by omega, by go_num, hp', ⟨hc0, hc1⟩, ⟨hf0, hf1⟩, hsz, hbw⟩
          case measure => simp [intOf]; omega
        · cases e2 : ((s[k + 1].toNat : Int) == 46)
          · have hp' : Hid (Past s (k + 1)) := hide (past_else (unhide hpast) hk1 (fun hh => by rw [hh.2] at e2; simp at e2))
            go_wp2
            go_roundw
            case rel => exact ⟨k + 1, by omega, by omega, by go_num, hp', ⟨hc0, hc1⟩, ⟨hf0, hf1⟩, hsz, hbw⟩
            case measure => simp [intOf]; omega
          · obtain ⟨n1, b1, hN1⟩ : ∃ n b, num1 (s.extract 0 k).data.toList = (n, b) := ⟨_, _, rfl⟩
            obtain ⟨n2, b2, hN2⟩ : ∃ n b, num1 (s.extract (k + 2) s.size).data.toList = (n, b) := ⟨_, _, rfl⟩
            have H1 := hide hN1
            have H2 := hide hN2
            have hmiss : Hid (winText n1 n2 ≠ s → Past s (k + 1)) := hide (fun hne => past_miss (unhide hpast) hk1 (by
              rw [← extTake s k (by omega), ← extDrop s (k + 2), hN1, hN2]; exact hne))
            clear hN1 hN2
            have z1 : (s.extract 0 k).size ≤ 1048576 := by rw [ByteArray.size_extract]; omega
            have z2 : (s.extract (k + 2) s.size).size ≤ 1048576 := by rw [ByteArray.size_extract]; omega
            by_cases he : winText n1 n2 = s
            · have hR := hide (hit (by omega) he)
              have heq : ((winText n1 n2).toList == s.toList) = true := by rw [he]; simp
              clear he
              go_wp2_with fail
              refine (number_at (unhide H1) _ z1).mono ?_
              rintro e w1 ⟨rfl, hw⟩
              obtain rfl := hw.symm
              go_wp2_with fail
              refine (number_at (unhide H2) _ z2).mono ?_
              rintro e w1 ⟨rfl, hw2⟩
              obtain rfl := hw2.symm
              go_wp2_with fail
              refine (specwintext_any n1 n2 _).mono ?_
              rintro e w2 ⟨rfl, hb⟩
              have hb2 := bel_trans (bel_one wr _) hb
              obtain ⟨hc, hf, hs2⟩ := bcell hb
              have d0 : w2.cell? ⟨w.heap.size, 0, none⟩ = some (.int .i64 0) := (hb2.cell (p := ⟨w.heap.size, 0, none⟩) hsz).trans hc0
              have d1 : w2.cell? ⟨w.heap.size, 1, none⟩ = some (.int .i64 0) := (hb2.cell (p := ⟨w.heap.size, 1, none⟩) hsz).trans hc1
              have hset := hide (set2_cells (v0 := .int .i64 n1) (v1 := .int .i64 n2) d0 d1)
              go_wp2_with fail
              obtain ⟨g0, g1⟩ := unhide hset
              refine bodyPost_ret (v := .tuple #[.agg #[.int .i64 n1, .int .i64 n2], .bool true]) (by simp [results, Tryd.results10, go_sem, g0, g1]) rfl (ReadP.mk (unhide hR) (set2_bel (bel_trans hbw hb2)))
            · have heq : ((winText n1 n2).toList == s.toList) = false := by
                rw [beq_eq_false_iff_ne]
                intro e
                rw [Go.ByteArray.toList_eq, Go.ByteArray.toList_eq] at e
                exact he (WideShapes.bytes_inj e)
              have hp' : Hid (Past s (k + 1)) := hide (unhide hmiss he)
              clear he
              go_wp2_with fail
              refine (number_at (unhide H1) _ z1).mono ?_
              rintro e w1 ⟨rfl, hw⟩
              obtain rfl := hw.symm
              go_wp2_with fail
              refine (number_at (unhide H2) _ z2).mono ?_
              rintro e w1 ⟨rfl, hw2⟩
              obtain rfl := hw2.symm
              go_wp2_with fail
              refine (specwintext_any n1 n2 _).mono ?_
              rintro e w2 ⟨rfl, hb⟩
              have hb2 := bel_trans (bel_one wr _) hb
              obtain ⟨hc, hf, hs2⟩ := bcell hb2
              go_wp2_with fail
              go_roundw
              case rel => exact ⟨k + 1, by omega, by omega, by go_num, hp', ⟨(hc _ _ hsz).trans hc0, (hc _ _ hsz).trans hc1⟩, ⟨(hf _ _ hsz).trans hf0, (hf _ _ hsz).trans hf1⟩, hs2 _ hsz, bel_trans hbw hb2⟩
              case measure => simp [intOf]; omega
      · have hR := hide (past_end (unhide hpast) (Or.inr (by omega)))
        go_wp2
        refine bodyPost_ret (v := .tuple #[.agg #[.int .i64 0, .int .i64 0], .bool false]) (by simp [results, Tryd.results10, go_sem, hc0, hc1]) rfl (ReadP.mk (unhide hR) (set2_bel hbw))
    · have hR := hide (past_end (unhide hpast) (Or.inl (by omega)))
      go_wp2
      refine bodyPost_ret (v := .tuple #[.agg #[.int .i64 0, .int .i64 0], .bool false]) (by simp [results, Tryd.results10, go_sem, hc0, hc1]) rfl (ReadP.mk (unhide hR) (set2_bel hbw))
end Go.Proofs.YtkadmigecojpoaaDoor
