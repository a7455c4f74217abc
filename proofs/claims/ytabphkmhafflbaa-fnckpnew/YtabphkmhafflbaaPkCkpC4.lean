/- Laid together: what the claim needs of the texts that were built one by one. -/
import Derived.Test.YtabphkmhafflbaaPkCkpC3
import Derived.Test.YtabphkmhafflbaaPkBase
namespace Go.Proofs.Ytabphkmhafflbaa
open Go.ChangeShapes Go.WideShapes Go.ChangeAt Go.RowKit Go.Deep
set_option linter.unusedVariables false

/-- Copies, each in memory of its own. -/
structure CopS (W : World) (B : Nat) (l : List (Int × SnV)) (xs : List SnD) : Prop where
  len : l.length = xs.length
  at_ : ∀ (i : Nat) (p : Int × SnV) (x : SnD), l[i]? = some p → xs[i]? = some x → p.1 = x.ma ∧ p.2.l1 = x.rows.length ∧ p.2.l2 = x.marks.length
  r1 : ∀ (i : Nat) (p : Int × SnV) (x : SnD), l[i]? = some p → xs[i]? = some x → W.ownsRow B 82 13 (Value.slice p.2.a1 p.2.l1 p.2.c1) p.2.l1 (flatOr x.rows)
  r2 : ∀ (i : Nat) (p : Int × SnV) (x : SnD), l[i]? = some p → xs[i]? = some x → W.ownsRow B 3 1 (Value.slice p.2.a2 p.2.l2 p.2.c2) p.2.l2 (x.marks.map fun z => .int .i64 z)
  d1 : ∀ (i j : Nat) (p q : Int × SnV), l[i]? = some p → l[j]? = some q → i ≠ j → ∀ b, (Value.slice p.2.a1 p.2.l1 p.2.c1).ownBlock = some b → (Value.slice q.2.a1 q.2.l1 q.2.c1).ownBlock ≠ some b
  d2 : ∀ (i j : Nat) (p q : Int × SnV), l[i]? = some p → l[j]? = some q → i ≠ j → ∀ b, (Value.slice p.2.a2 p.2.l2 p.2.c2).ownBlock = some b → (Value.slice q.2.a2 q.2.l2 q.2.c2).ownBlock ≠ some b

theorem CopS.nil (W : World) (B : Nat) : CopS W B [] [] := ⟨rfl, fun i p x h => by simp at h, fun i p x h => by simp at h, fun i p x h => by simp at h, fun i j p q h => by simp at h, fun i j p q h => by simp at h⟩

theorem CopS.below {W W' : World} {B : Nat} {l : List (Int × SnV)} {xs : List SnD} (h : CopS W B l xs) (hb : Below W.heap.size W W') : CopS W' B l xs :=
  ⟨h.len, h.at_, fun i p x hp hx => own_bel (h.r1 i p x hp hx) hb, fun i p x hp hx => own_bel (h.r2 i p x hp hx) hb, h.d1, h.d2⟩

theorem CopS.step {W w5 : World} {o : Obj} {B B' n : Nat} {l : List (Int × SnV)} {xs : List SnD} {v : Value} {ys : List Value} (h : CopS W B l xs) (h7 : W.ownsRow B' 48 3 v n ys) (hg : (W.alloc o).grownBy w5 v.ownBlock) : CopS w5 B l xs :=
  ⟨h.len, h.at_, fun i p x hp hx => own_step (h.r1 i p x hp hx) h7 (by decide) hg, fun i p x hp hx => own_step (h.r2 i p x hp hx) h7 (by decide) hg, h.d1, h.d2⟩

theorem get_snoc {α : Type} {l : List α} {a p : α} {i : Nat} (h : (l ++ [a])[i]? = some p) : l[i]? = some p ∧ i < l.length ∨ i = l.length ∧ p = a := by
  rcases Nat.lt_or_ge i l.length with hl | hl
  · rw [List.getElem?_append_left hl] at h
    exact Or.inl ⟨h, hl⟩
  · rw [List.getElem?_append_right hl] at h
    have h0 : i - l.length = 0 := by
      rcases Nat.eq_zero_or_pos (i - l.length) with h0 | h0
      · exact h0
      · rw [List.getElem?_eq_none (by simp; omega)] at h; cases h
    rw [h0] at h
    simp at h
    exact Or.inr ⟨by omega, h.symm⟩

theorem CopS.snoc {W W' : World} {B : Nat} {l : List (Int × SnV)} {xs : List SnD} {p : Int × SnV} {x : SnD} (h : CopS W B l xs) (hb : Below W.heap.size W W') (hB : B ≤ W.heap.size) (e : p.1 = x.ma ∧ p.2.l1 = x.rows.length ∧ p.2.l2 = x.marks.length) (k1 : W'.ownsRow W.heap.size 82 13 (Value.slice p.2.a1 p.2.l1 p.2.c1) p.2.l1 (flatOr x.rows)) (k2 : W'.ownsRow W.heap.size 3 1 (Value.slice p.2.a2 p.2.l2 p.2.c2) p.2.l2 (x.marks.map fun z => .int .i64 z)) : CopS W' B (l ++ [p]) (xs ++ [x]) := by
  have h' := h.below hb
  have hl := h.len
  have old1 : ∀ (i : Nat) (q : Int × SnV), l[i]? = some q → ∀ b, (Value.slice q.2.a1 q.2.l1 q.2.c1).ownBlock = some b → b < W.heap.size := fun i q hq b hv => by
    have hi : i < xs.length := by have := (List.getElem?_eq_some_iff.1 hq).1; omega
    exact (World.ownsRow.lt (h.r1 i q xs[i] hq (List.getElem?_eq_getElem hi)) b hv).2
  have old2 : ∀ (i : Nat) (q : Int × SnV), l[i]? = some q → ∀ b, (Value.slice q.2.a2 q.2.l2 q.2.c2).ownBlock = some b → b < W.heap.size := fun i q hq b hv => by
    have hi : i < xs.length := by have := (List.getElem?_eq_some_iff.1 hq).1; omega
    exact (World.ownsRow.lt (h.r2 i q xs[i] hq (List.getElem?_eq_getElem hi)) b hv).2
  refine ⟨by simp [hl], fun i q y hq hy => ?_, fun i q y hq hy => ?_, fun i q y hq hy => ?_, fun i j q r hq hr hij b hb1 hb2 => ?_, fun i j q r hq hr hij b hb1 hb2 => ?_⟩
  · rcases get_snoc hq with ⟨h1, h2⟩ | ⟨h1, rfl⟩
    · rcases get_snoc hy with ⟨h3, _⟩ | ⟨h3, _⟩
      · exact h.at_ i q y h1 h3
      · omega
    · rcases get_snoc hy with ⟨_, h3⟩ | ⟨_, rfl⟩
      · omega
      · exact e
  · rcases get_snoc hq with ⟨h1, h2⟩ | ⟨h1, rfl⟩
    · rcases get_snoc hy with ⟨h3, _⟩ | ⟨h3, _⟩
      · exact h'.r1 i q y h1 h3
      · omega
    · rcases get_snoc hy with ⟨_, h3⟩ | ⟨_, rfl⟩
      · omega
      · exact k1.mono hB
  · rcases get_snoc hq with ⟨h1, h2⟩ | ⟨h1, rfl⟩
    · rcases get_snoc hy with ⟨h3, _⟩ | ⟨h3, _⟩
      · exact h'.r2 i q y h1 h3
      · omega
    · rcases get_snoc hy with ⟨_, h3⟩ | ⟨_, rfl⟩
      · omega
      · exact k2.mono hB
  · rcases get_snoc hq with ⟨h1, h2⟩ | ⟨h1, rfl⟩
    · rcases get_snoc hr with ⟨h3, _⟩ | ⟨h3, rfl⟩
      · exact h.d1 i j q r h1 h3 hij b hb1 hb2
      · have := old1 i q h1 b hb1; have := (World.ownsRow.lt k1 b hb2).1; omega
    · rcases get_snoc hr with ⟨h3, _⟩ | ⟨h3, rfl⟩
      · have := old1 j r h3 b hb2; have := (World.ownsRow.lt k1 b hb1).1; omega
      · omega
  · rcases get_snoc hq with ⟨h1, h2⟩ | ⟨h1, rfl⟩
    · rcases get_snoc hr with ⟨h3, _⟩ | ⟨h3, rfl⟩
      · exact h.d2 i j q r h1 h3 hij b hb1 hb2
      · have := old2 i q h1 b hb1; have := (World.ownsRow.lt k2 b hb2).1; omega
    · rcases get_snoc hr with ⟨h3, _⟩ | ⟨h3, rfl⟩
      · have := old2 j r h3 b hb2; have := (World.ownsRow.lt k2 b hb1).1; omega
      · omega

theorem rows_len {W : World} {B : Nat} {a : Option Addr} {n : Nat} {xs : List OrR} (h : OrB W B a n xs) : xs.length = n := h.1.1

theorem marks_len {W : World} {B : Nat} {a : Option Addr} {n : Nat} {xs : List Int} (h : InB W B a n xs) : xs.length = n := h.1.1

set_option linter.unusedSimpArgs false in
set_option maxRecDepth 20000 in
set_option maxHeartbeats 4000000 in
theorem implsnaps_any (a : Option Addr) (n cap B0 : Nat) (xs : List SnD) (w : World) (h : SnB w B0 a n xs) (hn : n ≤ 1048576) (hsm : ∀ y ∈ xs, y.rows.length ≤ 1048576 ∧ y.marks.length ≤ 1048576) : Calls Try.prog 45 #[.slice a n cap] w fun e w' => ∃ v l, e = .returned v ∧ OwnSn w' w.heap.size v l ∧ CopS w' w.heap.size l xs ∧ Below w.heap.size w w' := by
  obtain ⟨i3, hi3, hz30, hz31, hz32⟩ := info_parts Try.infoSn1
  have hxl := h.1
  go_enter Try.func45, Try.ntmps45
  go_wp2
  go_loopw [3, 8] (fun v iv wr => ∃ (i : Nat) (l : List (Int × SnV)), iv = .int .i64 i ∧ i ≤ n ∧ OwnSn wr w.heap.size v l ∧ Hid (CopS wr w.heap.size l (xs.take i)) ∧ Below w.heap.size w wr) (fun _ iv _ => n - (intOf iv).toNat)
  case atStart => exact ⟨0, [], rfl, Nat.zero_le _, World.ownsRow_nil _ _ _ _, hide (CopS.nil _ _), Below.refl _ _⟩
  case round =>
    obtain ⟨i, l, rfl, hi, hO, HC, hbw⟩ := hrel
    have zr := hbw.size
    by_cases hlt : (i : Int) < (n : Int)
    · obtain ⟨x, hx⟩ : ∃ x, xs[i]? = some x := ⟨_, List.getElem?_eq_getElem (by omega)⟩
      have hll : l.length = i := by have := (unhide HC).len; rw [this, List.length_take]; omega
      obtain ⟨_, _, h3⟩ := h
      obtain ⟨g, o, rfl, _, hat⟩ := h3.resolve_left (by omega)
      obtain ⟨a1, l1, c1, a2, l2, c2, ⟨p0, p1, p2⟩, q1, q2⟩ := hat i x hx
      have hg : g < w.heap.size := World.block_lt_of_cell? w ⟨g, _, none⟩ p0
      replace p0 := (hbw.cell (p := ⟨g, _, none⟩) hg).trans p0
      replace p1 := (hbw.cell (p := ⟨g, _, none⟩) hg).trans p1
      replace p2 := (hbw.cell (p := ⟨g, _, none⟩) hg).trans p2
      have hs := hsm x (List.mem_of_getElem? hx)
      have e1 := rows_len q1
      have e2 := marks_len q2
      have Q1 := hide ((q1.1.below hbw))
      have Q2 := hide ((q2.1.below hbw))
      have HX := hide hx
      have HO := hide hO
      clear hat h3 hx q1 q2 hO
      have hbA : Below wr.heap.size wr (wr.alloc (.cells #[.int .i64 x.ma, .slice a1 l1 c1, .slice a2 l2 c2] 48)) := bel_one _ _
      go_wp2_with fail
      refine (implsnap_any x.ma a1 l1 c1 a2 l2 c2 x.rows x.marks _ ((unhide Q1).below hbA) ((unhide Q2).below hbA) (by omega) (by omega)).mono ?_
      rintro e' wc ⟨v1, v2, rfl, o1, o2, hbc⟩
      obtain ⟨b1, d1, rfl⟩ := sliceC o1
      obtain ⟨b2, d2, rfl⟩ := sliceC o2
      have hbAc : Below wr.heap.size wr wc := bel_trans hbA hbc
      have HO2 := hide (own_bel (unhide HO) hbAc)
      have zc : wr.heap.size ≤ wc.heap.size := hbAc.size
      have HC2 := hide (CopS.snoc (p := (x.ma, ⟨b1, l1, d1, b2, l2, d2⟩)) (x := x) (unhide HC) hbAc zr ⟨rfl, e1.symm, e2.symm⟩ (o1.mono (by simp)) (o2.mono (by simp)))
      have hge := hide (own_geV (unhide HO2))
      clear HO HC o1 o2 Q1 Q2
      go_wp2_with (at_builtin; go_loud (refine wpList_append_own _ rfl _ _ 28 rfl w.heap.size 48 i3 _ 3 56 Try.underlying28 hi3 hz30 hz31 hz32 rfl (by decide) u3 _ _ rfl (World.ownsRow.alloc (unhide HO2) _) ⟨wc.heap.size, 0, none⟩ 1 1 [.int .i64 x.ma, .slice b1 l1 d1, .slice b2 l2 d2] rfl rfl (cell_new3 _ rfl _ _ _ _) (by simp [Value.oneCell']) (by unfold maxLen; omega) (by omega) (by simp; omega) ?_); intro v' w5 hown hgrow _)
      have hb5 : Below w.heap.size wc w5 := ((Below.refl _ wc).alloc (by omega) _).grown hgrow (by simp; omega) (unhide hge)
      have O5 : OwnSn w5 w.heap.size v' (l ++ [(x.ma, ⟨b1, l1, d1, b2, l2, d2⟩)]) := by
        unfold OwnSn
        rw [flatSV_snoc, List.length_append]
        exact hown
      have C5 : Hid (CopS w5 w.heap.size (l ++ [(x.ma, ⟨b1, l1, d1, b2, l2, d2⟩)]) (xs.take (i + 1))) := hide (by
        have ht : xs.take (i + 1) = xs.take i ++ [x] := by rw [List.take_add_one, unhide HX]; rfl
        rw [ht]
        exact (unhide HC2).step (unhide HO2) hgrow)
      have hbF : Below w.heap.size w w5 := hbw.trans ((hbAc.mono zr).trans hb5)
      refine ⟨⟨i + 1, l ++ [(x.ma, ⟨b1, l1, d1, b2, l2, d2⟩)], by simp, by omega, O5, C5, hbF⟩, ?_⟩
      simp [intOf]; omega
    · have hin : i = n := by omega
      subst hin
      have HC2 : CopS wr w.heap.size l xs := by have h9 := unhide HC; rw [← hxl, List.take_length] at h9; exact h9
      clear HC
      go_wp2
      go_ret
      exact ⟨_, rfl, l, hO, HC2, hbw⟩
end Go.Proofs.Ytabphkmhafflbaa
