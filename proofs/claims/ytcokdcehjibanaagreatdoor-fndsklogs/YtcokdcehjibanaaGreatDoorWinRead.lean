/- Proved here: what the specification reads as a window. -/
import Derived.Test.YtcokdcehjibanaaGreatDoorWinText
import Derived.Test.YtcokdcehjibanaaGreatDoorNum2

namespace Go.Proofs.YtcokdcehjibanaaGreatDoor
open Go.ChangeShapes Go.WideShapes Go.ChangeAt Go.RowKit
set_option linter.unusedVariables false

/-- What a text is read as: the window whose text it is, or nothing. -/
def WinR (s : ByteArray) (a b : Int) (c : Bool) : Prop := (c = true ∧ okWin a b = true ∧ winTxt a b = s) ∨ (c = false ∧ a = 0 ∧ b = 0 ∧ ∀ x y, okWin x y = true → winTxt x y ≠ s)

theorem txt_list (a b : Int) : (winTxt a b).data.toList = Lib.decDigits a.toNat ++ 46 :: 46 :: Lib.decDigits b.toNat := by
  unfold winTxt decS
  rw [show (⟨#[46, 46]⟩ : ByteArray) = ⟨([46, 46] : List UInt8).toArray⟩ from rfl, bytes_add, bytes_add]
  simp
theorem no_dot (u : Nat) : (46 : UInt8) ∉ Lib.decDigits u := by
  intro h
  have := List.all_eq_true.1 (dec_all u) 46 h
  simp [digB] at this
theorem dot_inj {l1 l2 r1 r2 : List UInt8} (h1 : (46 : UInt8) ∉ l1) (h2 : (46 : UInt8) ∉ l2) (h : l1 ++ 46 :: r1 = l2 ++ 46 :: r2) : l1 = l2 ∧ r1 = r2 := by
  induction l1 generalizing l2 with
  | nil =>
    cases l2 with
    | nil => simp at h; exact ⟨rfl, h⟩
    | cons c l2 => simp at h; exact absurd (by rw [← h.1]; simp) h2
  | cons c l1 ih =>
    cases l2 with
    | nil => simp at h; exact absurd (by rw [h.1]; simp) h1
    | cons d l2 =>
      simp at h h1 h2
      obtain ⟨e1, e2⟩ := ih (l2 := l2) (by simpa using h1.2) (by simpa using h2.2) h.2
      exact ⟨by rw [h.1, e1], e2⟩
theorem dec_inj {u v : Nat} (h : Lib.decDigits u = Lib.decDigits v) : u = v := by
  have h1 := dec_acc u
  rw [h, dec_acc v] at h1
  omega
theorem txt_inj {a b x y : Int} (h1 : okWin a b = true) (h2 : okWin x y = true) (h : winTxt a b = winTxt x y) : a = x ∧ b = y := by
  have hl := congrArg (fun z : ByteArray => z.data.toList) h
  rw [txt_list, txt_list] at hl
  obtain ⟨e1, e2⟩ := dot_inj (no_dot _) (no_dot _) hl
  simp at e2
  have := dec_inj e1
  have := dec_inj e2
  have := okWin_bd h1
  have := okWin_bd h2
  omega
theorem WinR.same {s : ByteArray} {a b x y : Int} {c d : Bool} (h : WinR s a b c) (k : WinR s x y d) : a = x ∧ b = y ∧ c = d := by
  rcases h with ⟨rfl, h1, h2⟩ | ⟨rfl, rfl, rfl, h1⟩
  · rcases k with ⟨rfl, k1, k2⟩ | ⟨rfl, rfl, rfl, k1⟩
    · obtain ⟨e1, e2⟩ := txt_inj h1 k1 (h2.trans k2.symm)
      exact ⟨e1, e2, rfl⟩
    · exact absurd h2 (k1 a b h1)
  · rcases k with ⟨rfl, k1, k2⟩ | ⟨rfl, rfl, rfl, k1⟩
    · exact absurd k2 (h1 x y k1)
    · exact ⟨rfl, rfl, rfl⟩

/-- No window whose text it is has so few digits ahead of the dots. -/
def Past (s : ByteArray) (k : Nat) : Prop := ∀ x y, okWin x y = true → winTxt x y = s → k ≤ (Lib.decDigits x.toNat).length
theorem bytes_eq {s : ByteArray} {l : List UInt8} (h : s.data.toList = l) (k : Nat) (hk : k < s.size) : l[k]? = some s[k] := by
  rw [← h, List.getElem?_eq_getElem (by simpa using hk)]; rfl
theorem past_else {s : ByteArray} {k : Nat} (hp : Past s k) (hk : k + 1 < s.size) (hn : ¬ (s[k] = 46 ∧ s[k + 1] = 46)) : Past s (k + 1) := by
  intro x y ho he
  have h1 := hp x y ho he
  rcases Nat.lt_or_ge k (Lib.decDigits x.toNat).length with h2 | h2
  · exact h2
  · have hk' : k = (Lib.decDigits x.toNat).length := by omega
    have hl := txt_list x y
    rw [he] at hl
    have e0 := bytes_eq hl k (by omega)
    have e1 := bytes_eq hl (k + 1) hk
    rw [List.getElem?_append_right (by omega)] at e0 e1
    rw [show k - (Lib.decDigits x.toNat).length = 0 by omega] at e0
    rw [show k + 1 - (Lib.decDigits x.toNat).length = 1 by omega] at e1
    simp at e0 e1
    exact absurd ⟨e0.symm, e1.symm⟩ hn
theorem past_miss {s : ByteArray} {k : Nat} (hp : Past s k) (hk : k + 1 < s.size) (hm : winText (num1 (s.data.toList.take k)).1 (num1 (s.data.toList.drop (k + 2))).1 ≠ s) : Past s (k + 1) := by
  intro x y ho he
  have h1 := hp x y ho he
  rcases Nat.lt_or_ge k (Lib.decDigits x.toNat).length with h2 | h2
  · exact h2
  · have hk' : k = (Lib.decDigits x.toNat).length := by omega
    have hl := txt_list x y
    rw [he] at hl
    obtain ⟨b1, b2, b3, b4⟩ := okWin_bd ho
    have e0 : s.data.toList.take k = Lib.decDigits x.toNat := by rw [hl, hk']; simp
    have e1 : s.data.toList.drop (k + 2) = Lib.decDigits y.toNat := by
      rw [hl, hk', ← List.drop_drop]; simp
    rw [e0, e1, num1_dec _ (by omega), num1_dec _ (by omega)] at hm
    simp only [show ((x.toNat : Nat) : Int) = x by omega, show ((y.toNat : Nat) : Int) = y by omega] at hm
    rw [winText_ok ho] at hm
    exact absurd he hm
theorem past_end {s : ByteArray} {k : Nat} (hp : Past s k) (hk : s.size ≤ k + 1 ∨ 8 ≤ k) : WinR s 0 0 false := by
  refine Or.inr ⟨rfl, rfl, rfl, fun x y ho he => ?_⟩
  have h1 := hp x y ho he
  obtain ⟨b1, b2, b3, b4⟩ := okWin_bd ho
  have h2 := dec_lenk 1 x.toNat (by omega)
  have h3 : s.size = (Lib.decDigits x.toNat).length + 2 + (Lib.decDigits y.toNat).length := by
    have hl := txt_list x y
    rw [he] at hl
    have := congrArg List.length hl
    simp at this
    omega
  have h4 := dec_pos y.toNat
  omega
theorem hit {s : ByteArray} {a b : Int} (hz : 0 < s.size) (h : winText a b = s) : WinR s a b true := by
  cases ho : okWin a b
  · rw [winText_no ho] at h
    rw [← h] at hz
    exact absurd hz (by decide)
  · exact Or.inl ⟨rfl, ho, by rw [← winText_ok ho]; exact h⟩
theorem extTake (s : ByteArray) (k : Nat) (h : k ≤ s.size) : (s.extract 0 k).data.toList = s.data.toList.take k := by
  rw [ByteArray.data_extract]
  simp
theorem extDrop (s : ByteArray) (k : Nat) : (s.extract k s.size).data.toList = s.data.toList.drop k := by
  rw [ByteArray.data_extract]
  simp
  exact List.take_of_length_le (by simp)

/-- What reading a window comes to. -/
def ReadP (s : ByteArray) (w : World) (e : Ending) (w' : World) : Prop := ∃ a b c, e = .returned (.tuple #[.agg #[.int .i64 a, .int .i64 b], .bool c]) ∧ WinR s a b c ∧ Below w.heap.size w w'
theorem ReadP.mk {s : ByteArray} {w w' : World} {a b : Int} {c : Bool} (h : WinR s a b c) (hb : Below w.heap.size w w') : ReadP s w (.returned (.tuple #[.agg #[.int .i64 a, .int .i64 b], .bool c])) w' := ⟨a, b, c, rfl, h, hb⟩
theorem set2_bel {w W : World} {u v : Value} (h : Below w.heap.size w W) : Below w.heap.size w ((W.setCell ⟨w.heap.size, 0, none⟩ u).setCell ⟨w.heap.size, 1, none⟩ v) := (h.setCell (p := ⟨w.heap.size, 0, none⟩) (Nat.le_refl _) _).setCell (p := ⟨w.heap.size, 1, none⟩) (Nat.le_refl _) _

theorem number_at {s : ByteArray} {n : Int} {b : Bool} (h : num1 s.data.toList = (n, b)) (w : World) (hs : s.size ≤ 1048576) : Calls Tryz.prog 49 #[.string s] w fun e w' => e = .returned (.tuple #[.int .i64 n, .bool b]) ∧ w' = w := by
  have := number_any s w hs
  rw [h] at this
  exact this
end Go.Proofs.YtcokdcehjibanaaGreatDoor
