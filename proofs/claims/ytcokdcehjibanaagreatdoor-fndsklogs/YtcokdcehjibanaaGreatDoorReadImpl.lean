/- Proved here: what the program reads as a window. -/
import Derived.Test.YtcokdcehjibanaaGreatDoorReadNum
import Derived.Lib.IndexMore

namespace Go.Proofs.YtcokdcehjibanaaGreatDoor
open Go.ChangeShapes Go.WideShapes Go.ChangeAt Go.RowKit
set_option linter.unusedVariables false

theorem occ_dots (l r : List UInt8) (h : (46 : UInt8) ∉ l) : Lib.index (l ++ 46 :: 46 :: r) [46, 46] = l.length := by
  refine Lib.index_first (by simp) ?_ ?_
  · unfold Lib.occAt
    rw [List.drop_left]
    simp [List.isPrefixOf]
  · intro j hj
    unfold Lib.occAt
    rw [List.drop_append_of_le_length (by omega), List.drop_eq_getElem_cons hj]
    have hne : l[j] ≠ 46 := fun e => h (e ▸ List.getElem_mem hj)
    have h9 : ((46 : UInt8) == l[j]) = false := by rw [beq_eq_false_iff_ne]; exact fun e => hne e.symm
    rw [List.cons_append, List.isPrefixOf, h9]
    rfl

/-- What a text is cut into at its first two dots. -/
def CutP (s S1 S2 : ByteArray) (c : Bool) : Prop := Lib.cut s.data.toList [46, 46] = (S1.data.toList, S2.data.toList, c)

theorem cut_txt {x y : Int} {S1 S2 : ByteArray} {c : Bool} (h : CutP (winTxt x y) S1 S2 c) : S1.data.toList = Lib.decDigits x.toNat ∧ S2.data.toList = Lib.decDigits y.toNat := by
  unfold CutP Lib.cut at h
  rw [txt_list, occ_dots _ _ (no_dot _), if_pos (by omega)] at h
  simp only [Prod.mk.injEq] at h
  obtain ⟨h1, h2, _⟩ := h
  refine ⟨h1.symm.trans ?_, h2.symm.trans ?_⟩
  · simp
  · rw [show ((Lib.decDigits x.toNat).length : Int).toNat + [(46 : UInt8), 46].length = (Lib.decDigits x.toNat).length + 2 by simp, ← List.drop_drop, List.drop_left]
    rfl

theorem cut_ex (s : ByteArray) : ∃ S1 S2 c, CutP s S1 S2 c ∧ S1.size ≤ s.size ∧ S2.size ≤ s.size := by
  refine ⟨⟨(Lib.cut s.data.toList [46, 46]).1.toArray⟩, ⟨(Lib.cut s.data.toList [46, 46]).2.1.toArray⟩, (Lib.cut s.data.toList [46, 46]).2.2, by simp [CutP], ?_, ?_⟩
  all_goals
    show Array.size _ ≤ Array.size _
    unfold Lib.cut
    split <;> simp
    all_goals omega

theorem cut_back {s S1 S2 : ByteArray} (h : CutP s S1 S2 true) : s.data.toList = S1.data.toList ++ 46 :: 46 :: S2.data.toList := by
  unfold CutP Lib.cut at h
  rcases Lib.index_spec s.data.toList [46, 46] with ⟨h1, _⟩ | ⟨i, h1, h2, h3, _⟩
  · rw [h1] at h
    simp at h
  · rw [h1, if_pos (by omega)] at h
    simp only [Prod.mk.injEq] at h
    obtain ⟨e1, e2, _⟩ := h
    unfold Lib.occAt at h3
    rw [List.isPrefixOf_iff_prefix] at h3
    obtain ⟨t, ht⟩ := h3
    rw [← e1, ← e2]
    have : (i : Int).toNat = i := by omega
    rw [this, show i + [(46 : UInt8), 46].length = i + 2 by rfl, ← List.drop_drop, ← ht]
    have h4 := List.take_append_drop i s.data.toList
    rw [← ht] at h4
    simpa using h4.symm

theorem cut_no {s S1 S2 : ByteArray} (h : CutP s S1 S2 false) : S2.data.toList = [] := by
  unfold CutP Lib.cut at h
  split at h
  · simp at h
  · simp only [Prod.mk.injEq] at h
    exact h.2.1.symm

theorem itoa_nn {v : Int} (h : 0 ≤ v) : Lib.itoa v = Lib.decDigits v.toNat := by
  unfold Lib.itoa
  rw [if_neg (by omega)]

theorem rd_dec {s : ByteArray} {x n : Int} {b : Bool} (h0 : 0 ≤ x) (h1 : x < 10000000) (hs : s.data.toList = Lib.decDigits x.toNat) (h : RdP s n b) : b = true ∧ n = x := by
  have ha := atoi_dec x.toNat (by omega)
  rw [← hs, show ((x.toNat : Nat) : Int) = x by omega] at ha
  rcases h with ⟨rfl, h2, _⟩ | ⟨_, _, h2⟩
  · rw [ha] at h2
    cases h2
    exact ⟨rfl, rfl⟩
  · exact absurd ((itoa_nn h0).trans hs.symm) (h2 x ha)

theorem rp_yes {s S1 S2 : ByteArray} {c : Bool} {n1 n2 : Int} (hC : CutP s S1 S2 c) (h1 : RdP S1 n1 true) (h2 : RdP S2 n2 true) (ho : okWin n1 n2 = true) : WinR s n1 n2 true := by
  obtain ⟨b1, b2, b3, b4⟩ := okWin_bd ho
  have q1 : Lib.itoa n1 = S1.data.toList := by
    rcases h1 with ⟨_, _, h⟩ | ⟨h, _⟩
    · exact h
    · cases h
  have q2 : Lib.itoa n2 = S2.data.toList := by
    rcases h2 with ⟨_, _, h⟩ | ⟨h, _⟩
    · exact h
    · cases h
  rw [itoa_nn (by omega)] at q1 q2
  cases c
  · have h3 := cut_no hC
    rw [h3] at q2
    have := dec_pos n2.toNat
    rw [q2] at this
    simp at this
  · refine Or.inl ⟨rfl, ho, ?_⟩
    apply WideShapes.bytes_inj
    rw [txt_list, q1, q2]
    exact (cut_back hC).symm

theorem rp_no {s S1 S2 : ByteArray} {c b1 b2 : Bool} {n1 n2 : Int} (hC : CutP s S1 S2 c) (h1 : RdP S1 n1 b1) (h2 : RdP S2 n2 b2) (ho : b1 = false ∨ b2 = false ∨ okWin n1 n2 = false) : WinR s 0 0 false := by
  refine Or.inr ⟨rfl, rfl, rfl, fun x y hxy he => ?_⟩
  subst he
  obtain ⟨q1, q2⟩ := cut_txt hC
  obtain ⟨d1, d2, d3, d4⟩ := okWin_bd hxy
  obtain ⟨rfl, rfl⟩ := rd_dec (by omega) (by omega) q1 h1
  obtain ⟨rfl, rfl⟩ := rd_dec (by omega) (by omega) q2 h2
  rcases ho with h | h | h
  · cases h
  · cases h
  · rw [hxy] at h; cases h

theorem gES : Tryz.prog.globalNamed "strconv.ErrSyntax" = some 3 := by kernel_rfl

theorem gER : Tryz.prog.globalNamed "strconv.ErrRange" = some 4 := by kernel_rfl

/-- What the reading asks of the library's variables. -/
structure Env (tp1 tp2 : TypeId) (p1 p2 : Value) (m : Int) (w : World) : Prop where
  tab : Lib.TabIs Tryz.prog w "internal/strconv.uint64pow10" .u64 Lib.pow10Tab
  es : w.var? Tryz.prog "strconv.ErrSyntax" = some #[.iface tp1 p1]
  er : w.var? Tryz.prog "strconv.ErrRange" = some #[.iface tp2 p2]
  ml : w.cell? ⟨0, 0, none⟩ = some (.int .i64 m)
  lt : 0 < w.heap.size

theorem Env.bel {tp1 tp2 : TypeId} {p1 p2 : Value} {m : Int} {w w' : World} (h : Env tp1 tp2 p1 p2 m w) (hb : Below w.heap.size w w') : Env tp1 tp2 p1 p2 m w' :=
  ⟨tab_bel h.tab hb, Joins.var_stays gES h.es hb (Nat.le_refl _), Joins.var_stays gER h.er hb (Nat.le_refl _), (hb.cell (p := ⟨0, 0, none⟩) h.lt).trans h.ml, Nat.lt_of_lt_of_le h.lt hb.size⟩

theorem rn_any {tp1 tp2 : TypeId} {p1 p2 : Value} {m : Int} {s : ByteArray} {w : World} (hE : Env tp1 tp2 p1 p2 m w) (hs : s.size ≤ 1048576) : Calls Tryz.prog 52 #[.string s] w fun e w' => RdE s w e w' := readnum_any s w hs tp1 tp2 p1 p2 hE.tab hE.es hE.er
end Go.Proofs.YtcokdcehjibanaaGreatDoor
