/- Proved here: a region whose order is drawn keeps an invariant that each of its operations keeps. -/
import Derived.OrdersHeld
import Derived.Deep.RegionHeld3
import Derived.Test.YtcokdcehjibanaaGreatDoorGenA
namespace Go.Proofs.YtcokdcehjibanaaGreatDoor
open Go.ChangeShapes Go.WideShapes Go.ChangeAt Go.RowKit
set_option linter.unusedVariables false

theorem cnt_set : ∀ (l : List Bool) (i : Nat), l[i]? = some false → (l.set i true).count false + 1 = l.count false
  | [], i, h => by simp at h
  | b :: l, 0, h => by
    simp at h
    subst h
    simp
  | b :: l, i + 1, h => by
    have h1 := cnt_set l i (by simpa using h)
    simp only [List.set_cons_succ, List.count_cons]
    omega

theorem cnt_zero {l : List Bool} (h : l.count false = 0) {i : Nat} (hi : l[i]? = some false) : False := by
  have := cnt_set l i hi
  omega

/-- All that a region's operations wait for stands ahead of them. -/
def waits : Nat → List Oper → Bool
  | _, [] => true
  | k, o :: os => o.after.all (fun e => !Region.binds .any e || decide (e.on < k)) && waits (k + 1) os

theorem waits_at : ∀ (l : List Oper) (k : Nat), waits k l = true → ∀ (i : Nat) (o : Oper), l[i]? = some o → ∀ e ∈ o.after, Region.binds .any e = true → e.on < k + i
  | [], k, _, i, o, h => by simp at h
  | x :: l, k, hw, 0, o, h => by
    simp only [waits, Bool.and_eq_true] at hw
    simp at h
    subst h
    intro e he hb
    have := Array.all_eq_true_iff_forall_mem.1 hw.1 e he
    rw [hb] at this
    simpa using this
  | x :: l, k, hw, i + 1, o, h => by
    simp only [waits, Bool.and_eq_true] at hw
    intro e he hb
    have := waits_at l (k + 1) hw.2 i o (by simpa using h) e he hb
    omega

/-- For each operation, with its number. -/
def EachOp (F : Nat → Oper → Prop) : Nat → List Oper → Prop
  | _, [] => True
  | k, o :: os => F k o ∧ EachOp F (k + 1) os

theorem eachOp_at {F : Nat → Oper → Prop} : ∀ (l : List Oper) (k : Nat), EachOp F k l → ∀ (i : Nat) (o : Oper), l[i]? = some o → F (k + i) o
  | [], k, _, i, o, h => by simp at h
  | x :: l, k, hF, 0, o, h => by
    simp at h
    subst h
    exact hF.1
  | x :: l, k, hF, i + 1, o, h => by
    have := eachOp_at l (k + 1) hF.2 i o (by simpa using h)
    rw [Nat.add_assoc, Nat.add_comm 1 i] at this
    exact this

/-- What is done, and one more. -/
def more (L : Nat → Bool) (i : Nat) : Nat → Bool := fun j => if j = i then true else L j

theorem more_self (L : Nat → Bool) (i : Nat) : more L i i = true := by simp [more]

theorem more_ne {L : Nat → Bool} {i j : Nat} (h : j ≠ i) : more L i j = L j := by simp [more, h]
section
variable {P : Program} {ops : List Oper} {Q : Exit → Act → World → Prop}

/-- One operation keeps the invariant, whenever it comes. -/
def Keeps1 (P : Program) (ops : List Oper) (Q : Exit → Act → World → Prop) (I : (Nat → Bool) → Act → World → Prop) (i : Nat) (o : Oper) : Prop := ∀ (L : Nat → Bool) (a : Act) (w : World), I L a w → L i = false → (∀ e ∈ o.after, Region.binds .any e = true → L e.on = true) → ∀ K' : Act → World → Prop, Shut (∀ a' w', I (more L i) a' w' → K' a' w') → if Region.wanted o (yielded ops.toArray a.tmps) = true then Oper.wp P o a w K' Q else K' (a.put o.dst undef) w

theorem wpAny_inv (I : (Nat → Bool) → Act → World → Prop) (step : ∀ i o, ops[i]? = some o → Keeps1 P ops Q I i o) (fin : ∀ L a w, I L a w → (∀ i, i < ops.length → L i = true) → Q .normal a w) (hw : waits 0 ops = true) :
    ∀ (fuel : Nat) (l : Array Bool) (L : Nat → Bool) (a : Act) (w : World), l.size = ops.length → (∀ i, i < ops.length → l[i]? = some (L i)) → l.toList.count false ≤ fuel → I L a w → wpAny P .any ops.toArray Q fuel l a w := by
  have key : ∀ (l : Array Bool) (L : Nat → Bool), l.size = ops.length → (∀ i, i < ops.length → l[i]? = some (L i)) → Region.ready .any ops.toArray l = [] → ∀ i, i < ops.length → L i = true := by
    intro l L hs hL hr i
    induction i using Nat.strongRecOn with
    | _ i ih =>
      intro hi
      cases hb : L i with
      | true => rfl
      | false =>
        have hm : i ∈ Region.ready .any ops.toArray l := by
          refine mem_ready.2 ⟨?_, ops[i], ?_, fun e he hb' => ?_⟩
          · rw [Array.getD_eq_getD_getElem?, hL i hi, hb]; rfl
          · simp [hi]
          · have hlt := waits_at ops 0 hw i ops[i] (by simp [hi]) e he hb'
            rw [Nat.zero_add] at hlt
            rw [Array.getD_eq_getD_getElem?, hL e.on (by omega), ih e.on hlt (by omega)]
            rfl
        rw [hr] at hm
        cases hm
  intro fuel
  induction fuel with
  | zero =>
    intro l L a w hs hL hc hI
    have hr : Region.ready .any ops.toArray l = [] := by
      cases hx : Region.ready .any ops.toArray l with
      | nil => rfl
      | cons i rs =>
        have hm : i ∈ Region.ready .any ops.toArray l := by rw [hx]; exact List.mem_cons_self
        obtain ⟨h1, o, ho, _⟩ := mem_ready.1 hm
        have hi : i < ops.length := by simpa using (Array.getElem?_eq_some_iff.1 ho).1
        rw [Array.getD_eq_getD_getElem?, hL i hi] at h1
        exact absurd (cnt_zero (i := i) (Nat.le_zero.1 hc) (by rw [Array.getElem?_toList, hL i hi]; simpa using h1)) (fun h => h)
    exact ⟨hr, fin L a w hI (key l L hs hL hr)⟩
  | succ fuel ih =>
    intro l L a w hs hL hc hI
    refine ⟨fun hr => fin L a w hI (key l L hs hL hr), fun i hi => ?_⟩
    obtain ⟨h1, o, ho, hall⟩ := mem_ready.1 hi
    have hlt : i < ops.length := by simpa using (Array.getElem?_eq_some_iff.1 ho).1
    rw [Array.getD_eq_getD_getElem?, hL i hlt] at h1
    have hLi : L i = false := by simpa using h1
    refine wpOp_step ho (fun K' hK => ?_)
    have hst := step i o (by simpa using ho)
    refine hst L a w hI hLi (fun e he hb => ?_) K' (fun a' w' hI' => hK a' w' ?_)
    · have := hall e he hb
      have hlt2 := waits_at ops 0 hw i o (by simpa using ho) e he hb
      rw [Nat.zero_add] at hlt2
      rw [Array.getD_eq_getD_getElem?, hL e.on (by omega)] at this
      simpa using this
    · refine ih _ (more L i) a' w' (by simpa using hs) (fun j hj => ?_) ?_ hI'
      · by_cases hji : j = i
        · subst hji
          rw [more_self, Array.getElem?_setIfInBounds]
          simp [hs, hlt]
        · rw [more_ne hji, Array.getElem?_setIfInBounds, if_neg (fun e => hji e.symm)]
          exact hL j hj
      · have h9 := cnt_set l.toList i (by rw [Array.getElem?_toList, hL i hlt, hLi])
        rw [Array.toList_setIfInBounds]
        omega

theorem wp_region_inv {id : Nat} {a : Act} {w : World} (hm : P.follows .mixedOrders = true) (hw : waits 0 ops = true) (I : (Nat → Bool) → Act → World → Prop) (h0 : I (fun _ => false) a w.drew) (step : EachOp (Keeps1 P ops Q I) 0 ops) (fin : ∀ L a w, I L a w → (∀ i, i < ops.length → L i = true) → Q .normal a w) : (Code.region id ops.toArray true).wp P Q a w := by
  refine wp_region_any hm (wpAny_inv I (fun i o ho => by have := eachOp_at ops 0 step i o ho; rw [Nat.zero_add] at this; exact this) fin hw ops.toArray.size _ (fun _ => false) a _ (by simp) (fun i hi => by simp [hi]) ?_ h0)
  simp

/-- For each operation but the last; and for the last one. -/
def EachOpL (F G : Nat → Oper → Prop) : Nat → List Oper → Prop
  | _, [] => True
  | k, [o] => G k o
  | k, o :: o' :: os => F k o ∧ EachOpL F G (k + 1) (o' :: os)

theorem eachOpL_at {F G : Nat → Oper → Prop} : ∀ (l : List Oper) (k : Nat), EachOpL F G k l → ∀ (i : Nat) (o : Oper), l[i]? = some o → (i + 1 < l.length → F (k + i) o) ∧ (i + 1 = l.length → G (k + i) o)
  | [], k, _, i, o, h => by simp at h
  | [x], k, hF, 0, o, h => by
    simp at h
    subst h
    exact ⟨fun h => by simp at h, fun _ => hF⟩
  | [x], k, hF, i + 1, o, h => by simp at h
  | x :: y :: l, k, hF, 0, o, h => by
    simp at h
    subst h
    exact ⟨fun _ => hF.1, fun h => by simp at h⟩
  | x :: y :: l, k, hF, i + 1, o, h => by
    have h9 := eachOpL_at (y :: l) (k + 1) hF.2 i o (by simpa using h)
    rw [Nat.add_assoc, Nat.add_comm 1 i] at h9
    refine ⟨fun hl => h9.1 ?_, fun hl => h9.2 ?_⟩
    · simp at hl ⊢; omega
    · simp at hl ⊢; omega

/-- The last operation waits for all others. -/
def lastWaits (ops : List Oper) : Bool := match ops.getLast? with
  | none => false
  | some o => (List.range (ops.length - 1)).all (fun j => o.after.any (fun e => e.on == j && Region.binds .any e))

/-- The last operation, when all others are done. -/
def Ends1 (P : Program) (ops : List Oper) (Q : Exit → Act → World → Prop) (I : (Nat → Bool) → Act → World → Prop) (i : Nat) (o : Oper) : Prop := ∀ (L : Nat → Bool) (a : Act) (w : World), I L a w → (∀ j, j < i → L j = true) → ∀ K' : Act → World → Prop, Shut (∀ a' w', Q .normal a' w' → K' a' w') → if Region.wanted o (yielded ops.toArray a.tmps) = true then Oper.wp P o a w K' Q else K' (a.put o.dst undef) w

theorem wp_region_last {id : Nat} {a : Act} {w : World} (hm : P.follows .mixedOrders = true) (hw : waits 0 ops = true) (hl : lastWaits ops = true) (I : (Nat → Bool) → Act → World → Prop) (h0 : I (fun _ => false) a w.drew) (step : EachOpL (Keeps1 P ops Q I) (Ends1 P ops Q I) 0 ops) : (Code.region id ops.toArray true).wp P Q a w := by
  have hne : ops ≠ [] := by
    intro h
    rw [h] at hl
    cases hl
  have hlen : 0 < ops.length := List.length_pos_iff.2 hne
  obtain ⟨lo, hlo⟩ : ∃ lo, ops.getLast? = some lo := ⟨_, List.getLast?_eq_some_getLast hne⟩
  have hat : ops[ops.length - 1]? = some lo := by rw [← List.getLast?_eq_getElem?]; exact hlo
  unfold lastWaits at hl
  rw [hlo] at hl
  have hedge : ∀ j, j < ops.length - 1 → ∃ e ∈ lo.after, e.on = j ∧ Region.binds .any e = true := by
    intro j hj
    have h1 := List.all_eq_true.1 hl j (List.mem_range.2 hj)
    simp at h1
    obtain ⟨i, hi, h2, h3⟩ := h1
    exact ⟨lo.after[i], Array.getElem_mem hi, h2, h3⟩
  refine wp_region_any hm (wpAny_inv (fun L a w => (L (ops.length - 1) = false ∧ I L a w) ∨ ((∀ j, j < ops.length → L j = true) ∧ Q .normal a w)) ?_ ?_ hw ops.toArray.size _ (fun _ => false) a _ (by simp) (fun i hi => by simp [hi]) ?_ (Or.inl ⟨rfl, h0⟩))
  · intro i o ho L a w hI hL hA K' hK
    have hi : i < ops.length := (List.getElem?_eq_some_iff.1 ho).1
    rcases hI with ⟨h1, hI⟩ | ⟨h1, _⟩
    · have h9 := eachOpL_at ops 0 step i o ho
      rw [Nat.zero_add] at h9
      by_cases hil : i + 1 = ops.length
      · obtain rfl : o = lo := by
          have : i = ops.length - 1 := by omega
          rw [this, hat] at ho
          exact (Option.some.inj ho).symm
        have hall : ∀ j, j < i → L j = true := by
          intro j hj
          obtain ⟨e, he, rfl, hb⟩ := hedge j (by omega)
          exact hA e he hb
        refine h9.2 hil L a w hI hall K' (fun a' w' hQ => hK.out a' w' (Or.inr ⟨fun j hj => ?_, hQ⟩))
        by_cases hji : j = i
        · subst hji; exact more_self L j
        · rw [more_ne hji]; exact hall j (by omega)
      · refine h9.1 (by omega) L a w hI hL hA K' (fun a' w' hI' => hK.out a' w' (Or.inl ⟨?_, hI'⟩))
        rw [more_ne (by omega)]
        exact h1
    · rw [h1 i hi] at hL
      cases hL
  · intro L a w hI hall
    rcases hI with ⟨h1, _⟩ | ⟨_, hQ⟩
    · rw [hall (ops.length - 1) (by omega)] at h1
      cases h1
    · exact hQ
  · simp

theorem more_of {Pd : Nat → Value → World → Prop} {V : Nat → Value} {L : Nat → Bool} {w w' : World} {i : Nat} {v : Value} (h : ∀ j, L j = true → Pd j (V j) w) (hst : ∀ j u, Pd j u w → Pd j u w') (hv : Pd i v w') : ∀ j, more L i j = true → Pd j (if j = i then v else V j) w' := by
  intro j hj
  by_cases hji : j = i
  · subst hji; rw [if_pos rfl]; exact hv
  · rw [if_neg hji]; rw [more_ne hji] at hj; exact hst j _ (h j hj)
end
end Go.Proofs.YtcokdcehjibanaaGreatDoor
