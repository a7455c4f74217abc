/- Proved here: what rows are when one is put among them: found, all others as before, and gone when it is taken out. -/
import Derived.Test.YtjljiijjgmmieaaTabOutP
import Derived.Test.YtjljiijjgmmieaaPutI
import Derived.Test.YtjljiijjgmmieaaPutS
namespace Go.Proofs.Ytjljiijjgmmieaa
open Go.ChangeShapes Go.WideShapes Go.ChangeAt Go.RowKit
set_option linter.unusedVariables false

theorem isB_self (r : TbR) : r.isB r.ky r.st r.en = true := by simp [TbR.isB]
theorem insR_self {r : TbR} {zs : List TbR} (h : findT r.ky r.st r.en zs = none) : findT r.ky r.st r.en (insR r zs) = some r := by
  unfold findT at h ⊢
  induction zs with
  | nil => simp [insR, isB_self]
  | cons x xs ih =>
    rw [List.find?_cons] at h
    cases hx : x.isB r.ky r.st r.en with
    | true => rw [hx] at h; cases h
    | false =>
      rw [hx] at h
      unfold insR
      split
      · simp [List.find?, isB_self]
      · rw [List.find?_cons, hx]
        exact ih h
theorem insR_other {r : TbR} {zs : List TbR} {k s e : Int} (h : r.isB k s e = false) : findT k s e (insR r zs) = findT k s e zs := by
  unfold findT
  induction zs with
  | nil => simp [insR, h]
  | cons x xs ih =>
    unfold insR
    split
    · rw [List.find?_cons, h]
    · rw [List.find?_cons, List.find?_cons, ih]
theorem kp_none (k s e : Int) (xs : List TbR) : findT k s e (kpTb k s e xs) = none := by
  unfold findT kpTb
  rw [List.find?_eq_none]
  intro x hx
  have h9 := (List.mem_filter.1 hx).2
  simpa using h9
theorem kp_other {k s e k' s' e' : Int} (h : ∀ x : TbR, x.isB k' s' e' = true → x.isB k s e = false) (xs : List TbR) : findT k' s' e' (kpTb k s e xs) = findT k' s' e' xs := by
  unfold findT kpTb
  induction xs with
  | nil => rfl
  | cons x xs ih =>
    cases hx : x.isB k' s' e' with
    | true => simp [List.filter, h x hx, List.find?, hx]
    | false =>
      cases hk : x.isB k s e with
      | true => simp only [List.filter, hk, Bool.not_true, List.find?, hx]; exact ih
      | false => simp only [List.filter, hk, Bool.not_false, List.find?, hx]; exact ih
theorem kp_ins (r : TbR) (zs : List TbR) : kpTb r.ky r.st r.en (insR r zs) = kpTb r.ky r.st r.en zs := by
  unfold kpTb
  induction zs with
  | nil => simp [insR, isB_self]
  | cons x xs ih =>
    unfold insR
    split
    · rw [List.filter_cons]; simp [isB_self]
    · rw [List.filter_cons, List.filter_cons, ih]
theorem kp_kp (k s e : Int) (xs : List TbR) : kpTb k s e (kpTb k s e xs) = kpTb k s e xs := by
  unfold kpTb; rw [List.filter_filter]; simp
theorem find_here {xs : List TbR} {i : Nat} {x : TbR} (h : xs[i]? = some x) : ∃ y, findT x.ky x.st x.en xs = some y := by
  unfold findT
  have hm : x ∈ xs := List.mem_of_getElem? h
  cases hf : xs.find? (TbR.isB x.ky x.st x.en) with
  | some y => exact ⟨y, rfl⟩
  | none => exact absurd (isB_self x) (by simpa using List.find?_eq_none.1 hf x hm)
/-- What is found of another row stays as it was. -/
theorem put_other {r x : TbR} {xs : List TbR} (h : x.isB r.ky r.st r.en = false) : findT x.ky x.st x.en (insR r (kpTb r.ky r.st r.en xs)) = findT x.ky x.st x.en xs := by
  have h1 : r.isB x.ky x.st x.en = false := by
    rw [← h]; unfold TbR.isB
    rw [show (r.ky == x.ky) = (x.ky == r.ky) from Bool.beq_comm .., show (r.st == x.st) = (x.st == r.st) from Bool.beq_comm .., show (r.en == x.en) = (x.en == r.en) from Bool.beq_comm ..]
  rw [insR_other h1]
  refine kp_other (fun z hz => ?_) xs
  simp only [TbR.isB, Bool.and_eq_true, beq_iff_eq] at hz
  rw [← h]; unfold TbR.isB
  rw [hz.1, hz.2.1, hz.2.2]
theorem tb3 {w W : World} {g o : Nat} {u v t : Value} (h : w.cell? ⟨g, o, none⟩ = some u ∧ w.cell? ⟨g, o + 1, none⟩ = some v ∧ w.cell? ⟨g, o + 2, none⟩ = some t) (hb : Below w.heap.size w W) (hg : g < w.heap.size) : W.cell? ⟨g, o, none⟩ = some u ∧ W.cell? ⟨g, o + 1, none⟩ = some v ∧ W.cell? ⟨g, o + 2, none⟩ = some t := ⟨(hb.cell (p := ⟨g, o, none⟩) hg).trans h.1, (hb.cell (p := ⟨g, o + 1, none⟩) hg).trans h.2.1, (hb.cell (p := ⟨g, o + 2, none⟩) hg).trans h.2.2⟩
theorem implput_is (y0 y1 y2 y3 y4 y5 y6 : Int) (a : Option Addr) (len cap : Nat) (xs : List TbR) (w : World) {RR : List TbR} (h : TbRs w a len xs) (hl : len ≤ 1048576) (hR : Hid (insR ⟨y0, y1, y2, y3, y4, y5, y6⟩ (kpTb y0 y1 y2 xs) = RR)) : Calls Try.prog 17 #[.slice a len cap, .agg #[.int .i64 y0, .int .i64 y1, .int .i64 y2, .int .i64 y3, .int .i64 y4, .int .i64 y5, .int .i64 y6]] w fun e w' => ∃ v, e = .returned v ∧ OwnTb w' w.heap.size v RR ∧ Below w.heap.size w w' := by
  rw [← unhide hR]; exact implput_any ⟨y0, y1, y2, y3, y4, y5, y6⟩ a len cap xs w h hl
theorem specput_is (y0 y1 y2 y3 y4 y5 y6 : Int) (a : Option Addr) (len cap : Nat) (xs : List TbR) (w : World) {RR : List TbR} (h : TbRs w a len xs) (hl : len ≤ 1048576) (hR : Hid (insR ⟨y0, y1, y2, y3, y4, y5, y6⟩ (kpTb y0 y1 y2 xs) = RR)) : Calls Try.prog 18 #[.slice a len cap, .agg #[.int .i64 y0, .int .i64 y1, .int .i64 y2, .int .i64 y3, .int .i64 y4, .int .i64 y5, .int .i64 y6]] w fun e w' => ∃ v, e = .returned v ∧ OwnTb w' w.heap.size v RR ∧ Below w.heap.size w w' := by
  rw [← unhide hR]; exact specput_any ⟨y0, y1, y2, y3, y4, y5, y6⟩ a len cap xs w h hl
theorem set_neF {W : World} {b o o' : Nat} {v : Value} (h : o ≠ o') : (W.setCell ⟨b, o, none⟩ v).cell? ⟨b, o', none⟩ = W.cell? ⟨b, o', none⟩ := World.cell?_setCell_other _ _ _ _ (by intro e; injection e with e1 e2; exact h e2)
theorem set_eqF {W : World} {b o : Nat} {v u : Value} (h : W.cell? ⟨b, o, none⟩ = some u) : (W.setCell ⟨b, o, none⟩ v).cell? ⟨b, o, none⟩ = some v := World.cell?_setCell_same _ _ _ h
theorem cells4 {W : World} {B : Nat} {u0 u1 u2 u3 v0 v1 v2 v3 : Value} (z0 : W.cell? ⟨B, 0, none⟩ = some u0) (z1 : W.cell? ⟨B, 1, none⟩ = some u1) (z2 : W.cell? ⟨B, 2, none⟩ = some u2) (z3 : W.cell? ⟨B, 3, none⟩ = some u3) : ((((W.setCell ⟨B, 0, none⟩ v0).setCell ⟨B, 1, none⟩ v1).setCell ⟨B, 2, none⟩ v2).setCell ⟨B, 3, none⟩ v3).cell? ⟨B, 0, none⟩ = some v0 ∧ ((((W.setCell ⟨B, 0, none⟩ v0).setCell ⟨B, 1, none⟩ v1).setCell ⟨B, 2, none⟩ v2).setCell ⟨B, 3, none⟩ v3).cell? ⟨B, 1, none⟩ = some v1 ∧ ((((W.setCell ⟨B, 0, none⟩ v0).setCell ⟨B, 1, none⟩ v1).setCell ⟨B, 2, none⟩ v2).setCell ⟨B, 3, none⟩ v3).cell? ⟨B, 2, none⟩ = some v2 ∧ ((((W.setCell ⟨B, 0, none⟩ v0).setCell ⟨B, 1, none⟩ v1).setCell ⟨B, 2, none⟩ v2).setCell ⟨B, 3, none⟩ v3).cell? ⟨B, 3, none⟩ = some v3 :=
  ⟨(set_neF (by omega)).trans ((set_neF (by omega)).trans ((set_neF (by omega)).trans (set_eqF z0))), (set_neF (by omega)).trans ((set_neF (by omega)).trans (set_eqF ((set_neF (by omega)).trans z1))), (set_neF (by omega)).trans (set_eqF ((set_neF (by omega)).trans ((set_neF (by omega)).trans z2))), set_eqF ((set_neF (by omega)).trans ((set_neF (by omega)).trans ((set_neF (by omega)).trans z3)))⟩
/-- What was found, in a box of its own. -/
def FoundB (W0 : World) (n s l m : Int) (pv bv : Value) (W : World) : Prop := ∃ Bx : Nat, pv = .pointer (some ⟨Bx, 0, none⟩) ∧ bv = .bool true ∧ W.cell? ⟨Bx, 0, none⟩ = some (.int .i64 n) ∧ W.cell? ⟨Bx, 1, none⟩ = some (.int .i64 s) ∧ W.cell? ⟨Bx, 2, none⟩ = some (.int .i64 l) ∧ W.cell? ⟨Bx, 3, none⟩ = some (.int .i64 m) ∧ Bx < W.heap.size ∧ Below W0.heap.size W0 W
end Go.Proofs.Ytjljiijjgmmieaa
