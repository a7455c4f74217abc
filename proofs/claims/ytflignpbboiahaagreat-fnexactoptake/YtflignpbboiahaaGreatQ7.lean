/- Laid together: what the claim needs of the texts that were built one by one. -/
import Derived.OrdersHeld
import Derived.Deep.RegionHeld3
import Derived.Test.YtflignpbboiahaaGreatQ0
import Derived.OrdersIn
import Derived.OwnWalk
import Derived.Deep.RegionLawGrows
import Derived.Maps.AppendAt
import Derived.WalkKit
import Derived.TacticsInMore
import Derived.OwnWalkIn
import Derived.Test.YtflignpbboiahaaGreatQ6
import Derived.Test.YtflignpbboiahaaGreatQ2
import Derived.Stop.RegionWithIn
set_option linter.unusedVariables false
namespace Go.Proofs.YtflignpbboiahaaGreat
open Go.ChangeShapes Go.WideShapes Go.ChangeAt Go.RowKit
theorem cnt_set : ∀ (l : List Bool) (i : Nat), l[i]? = some false → (l.set i true).count false + 1 = l.count false
 | [], i, h => by simp at h
 | b :: l, 0, h => by
  simp at h
  subst h
  simp
 | b :: l, i + 1, h => by
  have h1 := cnt_set l i (by simpa using h)
  simp only [List.set_cons_succ, List.count_cons]
  omega
theorem cnt_zero {l : List Bool} (h : l.count false = 0) {i : Nat} (hi : l[i]? = some false) : False := by
 have := cnt_set l i hi
 omega
/-- All that a region's operations wait for stands ahead of them. -/
def waits : Nat → List Oper → Bool
 | _, [] => true
 | k, o :: os => o.after.all (fun e => !Region.binds .any e || decide (e.on < k)) && waits (k + 1) os
theorem waits_at : ∀ (l : List Oper) (k : Nat), waits k l = true → ∀ (i : Nat) (o : Oper), l[i]? = some o → ∀ e ∈ o.after, Region.binds .any e = true → e.on < k + i
 | [], k, _, i, o, h => by simp at h
 | x :: l, k, hw, 0, o, h => by
  simp only [waits, Bool.and_eq_true] at hw
  simp at h
  subst h
  intro e he hb
  have := Array.all_eq_true_iff_forall_mem.1 hw.1 e he
  rw [hb] at this
  simpa using this
 | x :: l, k, hw, i + 1, o, h => by
  simp only [waits, Bool.and_eq_true] at hw
  intro e he hb
  have := waits_at l (k + 1) hw.2 i o (by simpa using h) e he hb
  omega
/-- For each operation, with its number. -/
def EachOp (F : Nat → Oper → Prop) : Nat → List Oper → Prop
 | _, [] => True
 | k, o :: os => F k o ∧ EachOp F (k + 1) os
theorem eachOp_at {F : Nat → Oper → Prop} : ∀ (l : List Oper) (k : Nat), EachOp F k l → ∀ (i : Nat) (o : Oper), l[i]? = some o → F (k + i) o
 | [], k, _, i, o, h => by simp at h
 | x :: l, k, hF, 0, o, h => by
  simp at h
  subst h
  exact hF.1
 | x :: l, k, hF, i + 1, o, h => by
  have := eachOp_at l (k + 1) hF.2 i o (by simpa using h)
  rw [Nat.add_assoc, Nat.add_comm 1 i] at this
  exact this
/-- What is done, and one more. -/
def more (L : Nat → Bool) (i : Nat) : Nat → Bool := fun j => if j = i then true else L j
theorem mO {L : Nat → Bool} {i j : Nat} {v : Bool} {p : Prop} (h : L j = v → p) (hn : decide (j = i) = false := by decide) : more L i j = v → p := fun h9 => h (by unfold more at h9; rw [if_neg (of_decide_eq_false hn)] at h9; exact h9)
theorem mP {L : Nat → Bool} {i j : Nat} {v : Bool} (h9 : more L i j = v) (hn : decide (j = i) = false := by decide) : L j = v := by unfold more at h9; rw [if_neg (of_decide_eq_false hn)] at h9; exact h9
theorem more_self (L : Nat → Bool) (i : Nat) : more L i i = true := by simp [more]
theorem more_ne {L : Nat → Bool} {i j : Nat} (h : j ≠ i) : more L i j = L j := by simp [more, h]
section
variable {P : Program} {ops : List Oper} {Q : Exit → Act → World → Prop}
/-- One operation keeps the invariant, whenever it comes. -/
def Keeps1 (P : Program) (ops : List Oper) (Q : Exit → Act → World → Prop) (I : (Nat → Bool) → Act → World → Prop) (i : Nat) (o : Oper) : Prop := ∀ (L : Nat → Bool) (a : Act) (w : World), I L a w → L i = false → (∀ e ∈ o.after, Region.binds .any e = true → L e.on = true) → ∀ K' : Act → World → Prop, Shut (∀ a' w', I (more L i) a' w' → K' a' w') → if Region.wanted o (yielded ops.toArray a.tmps) = true then Oper.wp P o a w K' Q else K' (a.put o.dst undef) w
theorem wpAny_inv (I : (Nat → Bool) → Act → World → Prop) (step : ∀ i o, ops[i]? = some o → Keeps1 P ops Q I i o) (fin : ∀ L a w, I L a w → (∀ i, i < ops.length → L i = true) → Q .normal a w) (hw : waits 0 ops = true) :
  ∀ (fuel : Nat) (l : Array Bool) (L : Nat → Bool) (a : Act) (w : World), l.size = ops.length → (∀ i, i < ops.length → l[i]? = some (L i)) → l.toList.count false ≤ fuel → I L a w → wpAny P .any ops.toArray Q fuel l a w := by
 have key : ∀ (l : Array Bool) (L : Nat → Bool), l.size = ops.length → (∀ i, i < ops.length → l[i]? = some (L i)) → Region.ready .any ops.toArray l = [] → ∀ i, i < ops.length → L i = true := by
  intro l L hs hL hr i
  induction i using Nat.strongRecOn with
  | _ i ih =>
   intro hi
   cases hb : L i with
   | true => rfl
   | false =>
    have hm : i ∈ Region.ready .any ops.toArray l := by
     refine mem_ready.2 ⟨?_, ops[i], ?_, fun e he hb' => ?_⟩
     ·rw [Array.getD_eq_getD_getElem?, hL i hi, hb]; rfl
     ·simp [hi]
     ·have hlt := waits_at ops 0 hw i ops[i] (by simp [hi]) e he hb'
      rw [Nat.zero_add] at hlt
      rw [Array.getD_eq_getD_getElem?, hL e.on (by omega), ih e.on hlt (by omega)]
      rfl
    rw [hr] at hm
    cases hm
 intro fuel
 induction fuel with
 | zero =>
  intro l L a w hs hL hc hI
  have hr : Region.ready .any ops.toArray l = [] := by
   cases hx : Region.ready .any ops.toArray l with
   | nil => rfl
   | cons i rs =>
    have hm : i ∈ Region.ready .any ops.toArray l := by rw [hx]; exact List.mem_cons_self
    obtain ⟨h1, o, ho, _⟩ := mem_ready.1 hm
    have hi : i < ops.length := by simpa using (Array.getElem?_eq_some_iff.1 ho).1
    rw [Array.getD_eq_getD_getElem?, hL i hi] at h1
    exact absurd (cnt_zero (i := i) (Nat.le_zero.1 hc) (by rw [Array.getElem?_toList, hL i hi]; simpa using h1)) (fun h => h)
  exact ⟨hr, fin L a w hI (key l L hs hL hr)⟩
 | succ fuel ih =>
  intro l L a w hs hL hc hI
  refine ⟨fun hr => fin L a w hI (key l L hs hL hr), fun i hi => ?_⟩
  obtain ⟨h1, o, ho, hall⟩ := mem_ready.1 hi
  have hlt : i < ops.length := by simpa using (Array.getElem?_eq_some_iff.1 ho).1
  rw [Array.getD_eq_getD_getElem?, hL i hlt] at h1
  have hLi : L i = false := by simpa using h1
  refine wpOp_step ho (fun K' hK => ?_)
  have hst := step i o (by simpa using ho)
  refine hst L a w hI hLi (fun e he hb => ?_) K' (fun a' w' hI' => hK a' w' ?_)
  ·have := hall e he hb
   have hlt2 := waits_at ops 0 hw i o (by simpa using ho) e he hb
   rw [Nat.zero_add] at hlt2
   rw [Array.getD_eq_getD_getElem?, hL e.on (by omega)] at this
   simpa using this
  ·refine ih _ (more L i) a' w' (by simpa using hs) (fun j hj => ?_) ?_ hI'
   ·by_cases hji : j = i
    ·subst hji
     rw [more_self, Array.getElem?_setIfInBounds]
     simp [hs, hlt]
    ·rw [more_ne hji, Array.getElem?_setIfInBounds, if_neg (fun e => hji e.symm)]
     exact hL j hj
   ·have h9 := cnt_set l.toList i (by rw [Array.getElem?_toList, hL i hlt, hLi])
    rw [Array.toList_setIfInBounds]
    omega
theorem wp_region_inv {id : Nat} {a : Act} {w : World} (hm : P.follows .mixedOrders = true) (hw : waits 0 ops = true) (I : (Nat → Bool) → Act → World → Prop) (h0 : I (fun _ => false) a w.drew) (step : EachOp (Keeps1 P ops Q I) 0 ops) (fin : ∀ L a w, I L a w → (∀ i, i < ops.length → L i = true) → Q .normal a w) : (Code.region id ops.toArray true).wp P Q a w := by
 refine wp_region_any hm (wpAny_inv I (fun i o ho => by have := eachOp_at ops 0 step i o ho; rw [Nat.zero_add] at this; exact this) fin hw ops.toArray.size _ (fun _ => false) a _ (by simp) (fun i hi => by simp [hi]) ?_ h0)
 simp
/-- For each operation but the last; and for the last one. -/
def EachOpL (F G : Nat → Oper → Prop) : Nat → List Oper → Prop
 | _, [] => True
 | k, [o] => G k o
 | k, o :: o' :: os => F k o ∧ EachOpL F G (k + 1) (o' :: os)
theorem eachOpL_at {F G : Nat → Oper → Prop} : ∀ (l : List Oper) (k : Nat), EachOpL F G k l → ∀ (i : Nat) (o : Oper), l[i]? = some o → (i + 1 < l.length → F (k + i) o) ∧ (i + 1 = l.length → G (k + i) o)
 | [], k, _, i, o, h => by simp at h
 | [x], k, hF, 0, o, h => by
  simp at h
  subst h
  exact ⟨fun h => by simp at h, fun _ => hF⟩
 | [x], k, hF, i + 1, o, h => by simp at h
 | x :: y :: l, k, hF, 0, o, h => by
  simp at h
  subst h
  exact ⟨fun _ => hF.1, fun h => by simp at h⟩
 | x :: y :: l, k, hF, i + 1, o, h => by
  have h9 := eachOpL_at (y :: l) (k + 1) hF.2 i o (by simpa using h)
  rw [Nat.add_assoc, Nat.add_comm 1 i] at h9
  refine ⟨fun hl => h9.1 ?_, fun hl => h9.2 ?_⟩
  ·simp at hl ⊢; omega
  ·simp at hl ⊢; omega
/-- The last operation waits for all others. -/
def lastWaits (ops : List Oper) : Bool := match ops.getLast? with
 | none => false
 | some o => (List.range (ops.length - 1)).all (fun j => o.after.any (fun e => e.on == j && Region.binds .any e))
/-- The last operation, when all others are done. -/
def Ends1 (P : Program) (ops : List Oper) (Q : Exit → Act → World → Prop) (I : (Nat → Bool) → Act → World → Prop) (i : Nat) (o : Oper) : Prop := ∀ (L : Nat → Bool) (a : Act) (w : World), I L a w → (∀ j, j < i → L j = true) → ∀ K' : Act → World → Prop, Shut (∀ a' w', Q .normal a' w' → K' a' w') → if Region.wanted o (yielded ops.toArray a.tmps) = true then Oper.wp P o a w K' Q else K' (a.put o.dst undef) w
theorem wp_region_last {id : Nat} {a : Act} {w : World} (hm : P.follows .mixedOrders = true) (hw : waits 0 ops = true) (hl : lastWaits ops = true) (I : (Nat → Bool) → Act → World → Prop) (h0 : I (fun _ => false) a w.drew) (step : EachOpL (Keeps1 P ops Q I) (Ends1 P ops Q I) 0 ops) : (Code.region id ops.toArray true).wp P Q a w := by
 have hne : ops ≠ [] := by
  intro h
  rw [h] at hl
  cases hl
 have hlen : 0 < ops.length := List.length_pos_iff.2 hne
 obtain ⟨lo, hlo⟩ : ∃ lo, ops.getLast? = some lo := ⟨_, List.getLast?_eq_some_getLast hne⟩
 have hat : ops[ops.length - 1]? = some lo := by rw [← List.getLast?_eq_getElem?]; exact hlo
 unfold lastWaits at hl
 rw [hlo] at hl
 have hedge : ∀ j, j < ops.length - 1 → ∃ e ∈ lo.after, e.on = j ∧ Region.binds .any e = true := by
  intro j hj
  have h1 := List.all_eq_true.1 hl j (List.mem_range.2 hj)
  simp at h1
  obtain ⟨i, hi, h2, h3⟩ := h1
  exact ⟨lo.after[i], Array.getElem_mem hi, h2, h3⟩
 refine wp_region_any hm (wpAny_inv (fun L a w => (L (ops.length - 1) = false ∧ I L a w) ∨ ((∀ j, j < ops.length → L j = true) ∧ Q .normal a w)) ?_ ?_ hw ops.toArray.size _ (fun _ => false) a _ (by simp) (fun i hi => by simp [hi]) ?_ (Or.inl ⟨rfl, h0⟩))
 ·intro i o ho L a w hI hL hA K' hK
  have hi : i < ops.length := (List.getElem?_eq_some_iff.1 ho).1
  rcases hI with ⟨h1, hI⟩ | ⟨h1, _⟩
  ·have h9 := eachOpL_at ops 0 step i o ho
   rw [Nat.zero_add] at h9
   by_cases hil : i + 1 = ops.length
   ·obtain rfl : o = lo := by
     have : i = ops.length - 1 := by omega
     rw [this, hat] at ho
     exact (Option.some.inj ho).symm
    have hall : ∀ j, j < i → L j = true := by
     intro j hj
     obtain ⟨e, he, rfl, hb⟩ := hedge j (by omega)
     exact hA e he hb
    refine h9.2 hil L a w hI hall K' (fun a' w' hQ => hK.out a' w' (Or.inr ⟨fun j hj => ?_, hQ⟩))
    by_cases hji : j = i
    ·subst hji; exact more_self L j
    ·rw [more_ne hji]; exact hall j (by omega)
   ·refine h9.1 (by omega) L a w hI hL hA K' (fun a' w' hI' => hK.out a' w' (Or.inl ⟨?_, hI'⟩))
    rw [more_ne (by omega)]
    exact h1
  ·rw [h1 i hi] at hL
   cases hL
 ·intro L a w hI hall
  rcases hI with ⟨h1, _⟩ | ⟨_, hQ⟩
  ·rw [hall (ops.length - 1) (by omega)] at h1
   cases h1
  ·exact hQ
 ·simp
theorem more_of {Pd : Nat → Value → World → Prop} {V : Nat → Value} {L : Nat → Bool} {w w' : World} {i : Nat} {v : Value} (h : ∀ j, L j = true → Pd j (V j) w) (hst : ∀ j u, Pd j u w → Pd j u w') (hv : Pd i v w') : ∀ j, more L i j = true → Pd j (if j = i then v else V j) w' := by
 intro j hj
 by_cases hji : j = i
 ·subst hji; rw [if_pos rfl]; exact hv
 ·rw [if_neg hji]; rw [more_ne hji] at hj; exact hst j _ (h j hj)
end
section
variable {F : Fence} {n : Nat} {P : Program} {ops : List Oper} {Q : Exit → Act → World → Prop}
/-- One operation keeps the invariant, whenever it comes. -/
def Keeps1F (F : Fence) (n : Nat) (P : Program) (ops : List Oper) (Q : Exit → Act → World → Prop) (I : (Nat → Bool) → Act → World → Prop) (i : Nat) (o : Oper) : Prop := ∀ (L : Nat → Bool) (a : Act) (w : World), I L a w → L i = false → (∀ e ∈ o.after, Region.binds .any e = true → L e.on = true) → ∀ K' : Act → World → Prop, Shut (∀ a' w', I (more L i) a' w' → K' a' w') → if Region.wanted o (yielded ops.toArray a.tmps) = true then Oper.wpIn F n P o a w K' Q else (∀ f, o.about P w a.eval = some f → F.fn f) ∧ K' (a.put o.dst undef) w
theorem wpAnyF_inv (I : (Nat → Bool) → Act → World → Prop) (step : ∀ i o, ops[i]? = some o → Keeps1F F n P ops Q I i o) (fin : ∀ L a w, I L a w → (∀ i, i < ops.length → L i = true) → Q .normal a w) (hw : waits 0 ops = true) :
  ∀ (fuel : Nat) (l : Array Bool) (L : Nat → Bool) (a : Act) (w : World), l.size = ops.length → (∀ i, i < ops.length → l[i]? = some (L i)) → l.toList.count false ≤ fuel → I L a w → wpAnyIn F n P .any ops.toArray Q fuel l a w := by
 have key : ∀ (l : Array Bool) (L : Nat → Bool), l.size = ops.length → (∀ i, i < ops.length → l[i]? = some (L i)) → Region.ready .any ops.toArray l = [] → ∀ i, i < ops.length → L i = true := by
  intro l L hs hL hr i
  induction i using Nat.strongRecOn with
  | _ i ih =>
   intro hi
   cases hb : L i with
   | true => rfl
   | false =>
    have hm : i ∈ Region.ready .any ops.toArray l := by
     refine mem_ready.2 ⟨?_, ops[i], ?_, fun e he hb' => ?_⟩
     ·rw [Array.getD_eq_getD_getElem?, hL i hi, hb]; rfl
     ·simp [hi]
     ·have hlt := waits_at ops 0 hw i ops[i] (by simp [hi]) e he hb'
      rw [Nat.zero_add] at hlt
      rw [Array.getD_eq_getD_getElem?, hL e.on (by omega), ih e.on hlt (by omega)]
      rfl
    rw [hr] at hm
    cases hm
 intro fuel
 induction fuel with
 | zero =>
  intro l L a w hs hL hc hI
  have hr : Region.ready .any ops.toArray l = [] := by
   cases hx : Region.ready .any ops.toArray l with
   | nil => rfl
   | cons i rs =>
    have hm : i ∈ Region.ready .any ops.toArray l := by rw [hx]; exact List.mem_cons_self
    obtain ⟨h1, o, ho, _⟩ := mem_ready.1 hm
    have hi : i < ops.length := by simpa using (Array.getElem?_eq_some_iff.1 ho).1
    rw [Array.getD_eq_getD_getElem?, hL i hi] at h1
    exact absurd (cnt_zero (i := i) (Nat.le_zero.1 hc) (by rw [Array.getElem?_toList, hL i hi]; simpa using h1)) (fun h => h)
  exact ⟨hr, fin L a w hI (key l L hs hL hr)⟩
 | succ fuel ih =>
  intro l L a w hs hL hc hI
  refine ⟨fun hr => fin L a w hI (key l L hs hL hr), fun i hi => ?_⟩
  obtain ⟨h1, o, ho, hall⟩ := mem_ready.1 hi
  have hlt : i < ops.length := by simpa using (Array.getElem?_eq_some_iff.1 ho).1
  rw [Array.getD_eq_getD_getElem?, hL i hlt] at h1
  have hLi : L i = false := by simpa using h1
  refine wpOpIn_step ho (fun K' hK => ?_)
  have hst := step i o (by simpa using ho)
  refine hst L a w hI hLi (fun e he hb => ?_) K' (fun a' w' hI' => hK a' w' ?_)
  ·have := hall e he hb
   have hlt2 := waits_at ops 0 hw i o (by simpa using ho) e he hb
   rw [Nat.zero_add] at hlt2
   rw [Array.getD_eq_getD_getElem?, hL e.on (by omega)] at this
   simpa using this
  ·refine ih _ (more L i) a' w' (by simpa using hs) (fun j hj => ?_) ?_ hI'
   ·by_cases hji : j = i
    ·subst hji
     rw [more_self, Array.getElem?_setIfInBounds]
     simp [hs, hlt]
    ·rw [more_ne hji, Array.getElem?_setIfInBounds, if_neg (fun e => hji e.symm)]
     exact hL j hj
   ·have h9 := cnt_set l.toList i (by rw [Array.getElem?_toList, hL i hlt, hLi])
    rw [Array.toList_setIfInBounds]
    omega
theorem wpIn_region_inv {id : Nat} {a : Act} {w : World} (hm : P.follows .mixedOrders = true) (hw : waits 0 ops = true) (I : (Nat → Bool) → Act → World → Prop) (h0 : I (fun _ => false) a w.drew) (step : EachOp (Keeps1F F n P ops Q I) 0 ops) (fin : ∀ L a w, I L a w → (∀ i, i < ops.length → L i = true) → Q .normal a w) : (Code.region id ops.toArray true).wpIn F n P Q a w := by
 refine wpIn_region_any hm (wpAnyF_inv I (fun i o ho => by have := eachOp_at ops 0 step i o ho; rw [Nat.zero_add] at this; exact this) fin hw ops.toArray.size _ (fun _ => false) a _ (by simp) (fun i hi => by simp [hi]) ?_ h0)
 simp
/-- The last operation, when all others are done. -/
def Ends1F (F : Fence) (n : Nat) (P : Program) (ops : List Oper) (Q : Exit → Act → World → Prop) (I : (Nat → Bool) → Act → World → Prop) (i : Nat) (o : Oper) : Prop := ∀ (L : Nat → Bool) (a : Act) (w : World), I L a w → (∀ j, j < i → L j = true) → ∀ K' : Act → World → Prop, Shut (∀ a' w', Q .normal a' w' → K' a' w') → if Region.wanted o (yielded ops.toArray a.tmps) = true then Oper.wpIn F n P o a w K' Q else (∀ f, o.about P w a.eval = some f → F.fn f) ∧ K' (a.put o.dst undef) w
theorem wpIn_region_last {id : Nat} {a : Act} {w : World} (hm : P.follows .mixedOrders = true) (hw : waits 0 ops = true) (hl : lastWaits ops = true) (I : (Nat → Bool) → Act → World → Prop) (h0 : I (fun _ => false) a w.drew) (step : EachOpL (Keeps1F F n P ops Q I) (Ends1F F n P ops Q I) 0 ops) : (Code.region id ops.toArray true).wpIn F n P Q a w := by
 have hne : ops ≠ [] := by
  intro h
  rw [h] at hl
  cases hl
 have hlen : 0 < ops.length := List.length_pos_iff.2 hne
 obtain ⟨lo, hlo⟩ : ∃ lo, ops.getLast? = some lo := ⟨_, List.getLast?_eq_some_getLast hne⟩
 have hat : ops[ops.length - 1]? = some lo := by rw [← List.getLast?_eq_getElem?]; exact hlo
 unfold lastWaits at hl
 rw [hlo] at hl
 have hedge : ∀ j, j < ops.length - 1 → ∃ e ∈ lo.after, e.on = j ∧ Region.binds .any e = true := by
  intro j hj
  have h1 := List.all_eq_true.1 hl j (List.mem_range.2 hj)
  simp at h1
  obtain ⟨i, hi, h2, h3⟩ := h1
  exact ⟨lo.after[i], Array.getElem_mem hi, h2, h3⟩
 refine wpIn_region_any hm (wpAnyF_inv (fun L a w => (L (ops.length - 1) = false ∧ I L a w) ∨ ((∀ j, j < ops.length → L j = true) ∧ Q .normal a w)) ?_ ?_ hw ops.toArray.size _ (fun _ => false) a _ (by simp) (fun i hi => by simp [hi]) ?_ (Or.inl ⟨rfl, h0⟩))
 ·intro i o ho L a w hI hL hA K' hK
  have hi : i < ops.length := (List.getElem?_eq_some_iff.1 ho).1
  rcases hI with ⟨h1, hI⟩ | ⟨h1, _⟩
  ·have h9 := eachOpL_at ops 0 step i o ho
   rw [Nat.zero_add] at h9
   by_cases hil : i + 1 = ops.length
   ·obtain rfl : o = lo := by
     have : i = ops.length - 1 := by omega
     rw [this, hat] at ho
     exact (Option.some.inj ho).symm
    have hall : ∀ j, j < i → L j = true := by
     intro j hj
     obtain ⟨e, he, rfl, hb⟩ := hedge j (by omega)
     exact hA e he hb
    refine h9.2 hil L a w hI hall K' (fun a' w' hQ => hK.out a' w' (Or.inr ⟨fun j hj => ?_, hQ⟩))
    by_cases hji : j = i
    ·subst hji; exact more_self L j
    ·rw [more_ne hji]; exact hall j (by omega)
   ·refine h9.1 (by omega) L a w hI hL hA K' (fun a' w' hI' => hK.out a' w' (Or.inl ⟨?_, hI'⟩))
    rw [more_ne (by omega)]
    exact h1
  ·rw [h1 i hi] at hL
   cases hL
 ·intro L a w hI hall
  rcases hI with ⟨h1, _⟩ | ⟨_, hQ⟩
  ·rw [hall (ops.length - 1) (by omega)] at h1
   cases h1
  ·exact hQ
 ·simp
end
theorem step_append_at {P : Program} {ops : Array Oper} {o : Oper} {a : Act} {w : World} {K : Act → World → Prop} {Q : Exit → Act → World → Prop} {E : Prop}
  (hg : o.guard = none) (s x : Operand) (t : TypeId) (hop : o.op = Op.call { callee := Callee.builtin Builtin.append, args := #[s, x], argTypes := #[t, t] }) (base : Nat)
  (e : TypeId) (i : TypeInfo) (z : Value) (size bytes : Nat) (h1 : P.underlying t = some (.slice e)) (h2 : P.info? e = some i) (h3 : i.zero = some z) (h4 : i.size = size) (h5 : i.bytes = bytes) (h6 : z.cells.size = size) (h7 : 0 < size)
  (v : Value) (n : Nat) (xs : List Value) (hs : a.eval s = v) (hown : w.ownsRow base e size v n xs)
  (ad : Addr) (m c : Nat) (news : List Value) (hx : a.eval x = .slice (some ad) m c) (hn : news.length = m * size) (hc : ∀ j u, news[j]? = some u → w.cell? (ad.add j) = some u) (h1c : ∀ u ∈ news, u.oneCell' = true)
  (b1 : n + m ≤ maxLen) (b2 : (n + m) * bytes ≤ 140737488355328) (hbase : base ≤ w.heap.size)
  (hK : ∀ v' w', w'.ownsRow base e size v' (n + m) (xs ++ news) → w.grownBy w' v.ownBlock → (v'.ownBlock = v.ownBlock ∨ v'.ownBlock = some w.heap.size) → K (a.put o.dst v') w') :
  if Region.wanted o (yielded ops a.tmps) = true then Oper.wp P o a w K Q else E := by
 have hw : Region.wanted o (yielded ops a.tmps) = true := by simp [Region.wanted, hg]
 rw [if_pos hw]
 obtain ⟨v', w', hrun, r1, r2, _, r3⟩ := run_append_own_at (P := P) (w := w) base t o.type e i z size bytes h1 h2 h3 h4 h5 h6 h7 v n xs hown ad m c news hn hc h1c b1 b2 hbase
 unfold Oper.wp
 simp [execOp, hop, resolve, invoke, builtin, hs, hx, hrun, Result.andThen]
 exact hK v' w' r1 r2 r3
theorem own_lt {W : World} {B : Nat} {e : TypeId} {size n : Nat} {v : Value} {xs : List Value} (h : W.ownsRow B e size v n xs) : ∀ k, v.ownBlock = some k → k < W.heap.size := by
 intro k hk
 rcases h.2 with ⟨rfl, _⟩ | ⟨g, cap, cur, rfl, hg, hblk, _⟩
 ·cases hk
 ·simp [Value.ownBlock] at hk
  subst hk
  exact (Array.getElem?_eq_some_iff.1 hblk).1
theorem step_append_F {F : Fence} {nn : Nat} {P : Program} {ops : Array Oper} {o : Oper} {a : Act} {w : World} {K : Act → World → Prop} {Q : Exit → Act → World → Prop} {E : Prop}
  (hg : o.guard = none) (s x : Operand) (t : TypeId) (hop : o.op = Op.call { callee := Callee.builtin Builtin.append, args := #[s, x], argTypes := #[t, t] }) (base : Nat)
  (e : TypeId) (i : TypeInfo) (z : Value) (size bytes : Nat) (h1 : P.underlying t = some (.slice e)) (h2 : P.info? e = some i) (h3 : i.zero = some z) (h4 : i.size = size) (h5 : i.bytes = bytes) (h6 : z.cells.size = size) (h7 : 0 < size)
  (v : Value) (n : Nat) (xs : List Value) (hs : a.eval s = v) (hown : w.ownsRow base e size v n xs)
  (ad : Addr) (m c : Nat) (news : List Value) (hx : a.eval x = .slice (some ad) m c) (hn : news.length = m * size) (hc : ∀ j u, news[j]? = some u → w.cell? (ad.add j) = some u) (h1c : ∀ u ∈ news, u.oneCell' = true)
  (b1 : n + m ≤ maxLen) (b2 : (n + m) * bytes ≤ 140737488355328) (hbase : base ≤ w.heap.size)
  (hK : ∀ v' w', w'.ownsRow base e size v' (n + m) (xs ++ news) → w.grownBy w' v.ownBlock → (v'.ownBlock = v.ownBlock ∨ v'.ownBlock = some w.heap.size) → K (a.put o.dst v') w') :
  if Region.wanted o (yielded ops a.tmps) = true then Oper.wpIn F nn P o a w K Q else E := by
 have hw : Region.wanted o (yielded ops a.tmps) = true := by simp [Region.wanted, hg]
 rw [if_pos hw]
 obtain ⟨v', w', hrun, r1, r2, _, r3⟩ := run_append_own_at (P := P) (w := w) base t o.type e i z size bytes h1 h2 h3 h4 h5 h6 h7 v n xs hown ad m c news hn hc h1c b1 b2 hbase
 unfold Oper.wpIn
 refine ⟨?_, ?_⟩
 ·simp [Oper.about, hop, resolve, Target.leads, Sem.run_pure]
 ·rw [Oper.semAt_plain F _ _ (by rw [hop]; intro c hc'; cases hc')]
  simp [execOp, hop, resolve, invoke, builtin, hs, hx, hrun, Result.andThen]
  exact hK v' w' r1 r2 r3
end Go.Proofs.YtflignpbboiahaaGreat
namespace Go.Proofs.YtflignpbboiahaaGreat
open Go.ChangeShapes Go.WideShapes Go.ChangeAt Go.RowKit Go.Shelf Go.Maps
set_option linter.unusedSimpArgs false
attribute [local go_sem] Oper.semAt_some
theorem own_ne_ty {W : World} {B b size n : Nat} {e ty : TypeId} {v : Value} {ys : List Value} {cs : Array Value} (h : W.ownsRow B e size v n ys) (hb : W.heap[b]? = some (.cells cs ty (0, 0))) (hne : ty ≠ e) : v.ownBlock ≠ some b := by
 rcases h.2 with ⟨rfl, _⟩ | ⟨g, cap, cur, rfl, _, hgb, _⟩
 ·simp [Value.ownBlock]
 ·intro e9
  simp [Value.ownBlock] at e9
  subst e9
  rw [hb] at hgb
  simp only [Option.some.injEq, Obj.cells.injEq] at hgb
  exact hne hgb.2.1
theorem own_cells {W : World} {B n : Nat} {v : Value} {ys : List Value} (h : W.ownsRow B 76 13 v n ys) (r : Nat) (e : v.ownBlock = some r) : ∃ cs ty, W.heap[r]? = some (.cells cs ty (0, 0)) ∧ turnT ty = true := by
 rcases h.2 with ⟨rfl, _⟩ | ⟨g, cap, cur, rfl, _, hgb, _⟩
 ·cases e
 ·simp [Value.ownBlock] at e
  subst e
  exact ⟨_, _, hgb, by decide⟩
theorem ownOr_geX {W : World} {B size n : Nat} {e : TypeId} {v : Value} {ys : List Value} (h : W.ownsRow B e size v n ys) : ∀ k, v.ownBlock = some k → B ≤ k := by
 intro k hk
 rcases h.2 with ⟨rfl, _⟩ | ⟨g, cap, cur, rfl, hg, _⟩
 ·cases hk
 ·simp [Value.ownBlock] at hk; omega
theorem own_setX {W : World} {p : Addr} {u : Value} {B : Nat} {e : TypeId} {size n : Nat} {v : Value} {xs : List Value} (h : W.ownsRow B e size v n xs) (hp : v.ownBlock ≠ some p.block) : (W.setCell p u).ownsRow B e size v n xs := by
 rcases h with ⟨hl, h | ⟨g, cap, cur, rfl, hB, hblk, r⟩⟩
 ·exact ⟨hl, Or.inl h⟩
 ·exact ⟨hl, Or.inr ⟨g, cap, cur, rfl, hB, (Below.heap_setCell _ _ _ _ (fun e => hp (by rw [← e]; rfl))).trans hblk, r⟩⟩
def actS (w : World) (Bo mb : Nat) (m : Int) {es : List Ent} (x : EntX es) : Act := { tmps := #[.pointer (some ⟨Bo, 0, none⟩), undef, .pointer (some ⟨w.heap.size, 0, none⟩), .pointer (some ⟨w.heap.size + 1, 0, none⟩), undef, .pointer (some ⟨(entOf x).1, 0, none⟩), .pointer (some ⟨Bo, 0, none⟩), .pointer (some ⟨Bo, 0, none⟩), .pointer (some ⟨Bo, 10, none⟩), .int .i64 m, .agg #[.int .i64 m, .slice none 0 0], .pointer (some ⟨Bo, 0, none⟩), .pointer (some ⟨Bo, 0, none⟩), .pointer (some ⟨Bo, 11, none⟩), .map (some mb), (.func (.func 84) #[] #[.pointer (some ⟨w.heap.size + 1 + 1, 0, none⟩)]), .agg #[.int .i64 x.1.1.1, .int .i64 x.1.1.2.1, .int .i64 x.1.1.2.2], .pointer (some ⟨(entOf x).1, 0, none⟩), undef, undef, undef, undef, undef, undef, undef, undef, undef], defers := [] }
/-- What stands between two rounds. -/
def SttI (w : World) (m : Int) (nn : Nat) {es : List Ent} (pre : List (EntX es)) (W : World) : Prop := ∃ rv, W.heap[w.heap.size + 1]? = some (.cells #[.int .i64 m, rv] 32 (0, 0)) ∧ W.ownsRow w.heap.size 76 13 rv pre.length (flatOr (pre.map (fun x => (entOf x).2))) ∧ pre.length ≤ nn ∧ W.heap[w.heap.size]? = some (.cells #[.int .i64 0, .slice none 0 0] 32 (0, 0)) ∧ Below w.heap.size w W
theorem row_cells {W W' : World} {row : Option Nat} {k : Nat} {cs : Array Value} {ty : TypeId} (h : W.heap[k]? = some (.cells cs ty (0, 0))) (hg : W.grownBy W' row) (hr : ∀ r, row = some r → ∃ o : Obj, W.heap[r]? = some o ∧ o.isCells = false) : W'.heap[k]? = some (.cells cs ty (0, 0)) := by
 refine (hg.block k (Array.getElem?_eq_some_iff.1 h).1 (fun e => ?_)).trans h
 obtain ⟨o, ho, hc⟩ := hr k e.symm
 rw [h] at ho
 cases ho
 cases hc
theorem own_row {W W' : World} {row : Option Nat} {B size n : Nat} {e : TypeId} {v : Value} {ys : List Value} (h : W.ownsRow B e size v n ys) (hg : W.grownBy W' row) (hr : ∀ r, row = some r → ∃ o : Obj, W.heap[r]? = some o ∧ o.isCells = false) : W'.ownsRow B e size v n ys := by
 rcases h with ⟨hl, h | ⟨g, cap, cur, hv, hB, hblk, r⟩⟩
 ·exact ⟨hl, Or.inl h⟩
 ·exact ⟨hl, Or.inr ⟨g, cap, cur, hv, hB, row_cells hblk hg hr, r⟩⟩
theorem sttI_own (w : World) (m : Int) (nn : Nat) {es : List Ent} (B : Nat) (hB : w.heap.size ≤ B) : OwnFrom B (SttI w m nn (es := es)) := fun s W W' row h hg hr => by
 obtain ⟨rv, h1, h2, h3, h4, h5⟩ := h
 have hr' := fun r e => (hr r e).2
 exact ⟨rv, row_cells h1 hg hr', own_row h2 hg hr', h3, row_cells h4 hg hr', h5.grown hg h5.size (fun k e => by have := (hr k e).1; omega)⟩
set_option maxRecDepth 100000 in
set_option maxHeartbeats 8000000 in
theorem state_any (Bo B mb nn : Nat) (s t k z q l e : Int) (b : Bool) (v r m : Int) (pv lv : Value) (es : List Ent) (w : World) (hO : w.heap[Bo]? = some (.cells (opV s t k z q l e b v r m mb pv lv) 60 (0, 0))) (hR : RowsI w B mb nn es) (hrise : RiseE es) (hok : ∀ e ∈ es, ok3 (plO e.2)) (hnn : nn ≤ 1000) :
  Calls Tryz.prog 29 #[.pointer (some ⟨Bo, 0, none⟩)] w fun e' w' => ∃ a c, e' = .returned (.agg #[.int .i64 m, .slice a es.length c]) ∧ OwnOr w' w.heap.size (.slice a es.length c) (es.map (fun e => e.2)) ∧ Below w.heap.size w w' := by
 obtain ⟨i0, hi, hz0', hz1', hz2'⟩ := info_parts Tryz.infoOr
 have hBo : Bo < w.heap.size := (Array.getElem?_eq_some_iff.1 hO).1
 have c10 : w.cell? ⟨Bo, 10, none⟩ = some (.int .i64 m) := Joins.cell_of_block hO 10
 have c11 : w.cell? ⟨Bo, 11, none⟩ = some (.map (some mb)) := Joins.cell_of_block hO 11
 refine (callsIn_wide (n := 20)).1 ?_
 refine callsIn_of_wp_marks Tryz.func29 rfl trivial ?_ rfl
 simp only [Tryz.ntmps29, List.size_toArray, List.length_cons, List.length_nil, Nat.reduceAdd, Nat.reduceSub, Array.replicate_succ, Array.replicate_zero, List.push_toArray, List.append_toArray, List.nil_append, List.cons_append]
 have hB0 : Below w.heap.size w (((w.alloc (.cells #[.int .i64 0, .slice none 0 0] 32)).alloc (.cells #[.int .i64 m, .slice none 0 0] 32)).alloc (.cells #[.map (some mb)] 58)) := bel_alloc (bel_alloc (bel_one _ _) _) _
 have hm : (((w.alloc (.cells #[.int .i64 0, .slice none 0 0] 32)).alloc (.cells #[.int .i64 m, .slice none 0 0] 32)).alloc (.cells #[.map (some mb)] 58)).heap[w.heap.size + 1 + 1]? = some (.cells #[.map (some mb)] 58 (0, 0)) := by
  have := World.alloc_heap_new ((w.alloc (.cells #[.int .i64 0, .slice none 0 0] 32)).alloc (.cells #[.int .i64 m, .slice none 0 0] 32)) (.cells #[.map (some mb)] 58)
  rw [World.size_alloc, World.size_alloc] at this
  exact this
 have hS0 : (((w.alloc (.cells #[.int .i64 0, .slice none 0 0] 32)).alloc (.cells #[.int .i64 m, .slice none 0 0] 32)).alloc (.cells #[.map (some mb)] 58)).heap[w.heap.size + 1]? = some (.cells #[.int .i64 m, .slice none 0 0] 32 (0, 0)) := by
  refine (Below.heap_alloc _ _ _ (by simp)).trans ?_
  have := World.alloc_heap_new (w.alloc (.cells #[.int .i64 0, .slice none 0 0] 32)) (.cells #[.int .i64 m, .slice none 0 0] 32)
  rw [World.size_alloc] at this
  exact this
 have hR0 : (((w.alloc (.cells #[.int .i64 0, .slice none 0 0] 32)).alloc (.cells #[.int .i64 m, .slice none 0 0] 32)).alloc (.cells #[.map (some mb)] 58)).heap[w.heap.size]? = some (.cells #[.int .i64 0, .slice none 0 0] 32 (0, 0)) := (Below.heap_alloc _ _ _ (by simp; omega)).trans ((Below.heap_alloc _ _ _ (by simp)).trans (World.alloc_heap_new w _))
 have hown : OwnsV (((w.alloc (.cells #[.int .i64 0, .slice none 0 0] 32)).alloc (.cells #[.int .i64 m, .slice none 0 0] 32)).alloc (.cells #[.map (some mb)] 58)) mb nn (fun q => (mapO es q).map evO) := by rw [mapO_ev]; exact hR.map.bel hB0
 have hbx : ∀ e ∈ es, BxO w e.1 e.2 := hR.box
 gi_wp2_with (refine ⟨trivial, ?_⟩; gi_at_call 55; refine (callsIn_wide.2 (inorder_any mb _)).mono ?_; rintro e' w1 ⟨rfl, hw1⟩; subst hw1)
 clear c10 c11
 refine wpIn_rangeFunc_ownH rfl (by omega) (gf := 84) (lb := #[.pointer (some ⟨w.heap.size + 1 + 1, 0, none⟩)]) (by simp [go_sem, Act.eval]) trivial (enters_of Tryz.func84 (by kernel_rfl) rfl)
  (inordX_stops _ (by omega) (w.heap.size + 1 + 1) mb nn evO (mapO es) none zeroEv (PXs es) (fun q _ a ha => mapO_px ha) _ (by omega) hm hown) KpO.trans KpO.put (Below.refl _ _) (fun _ => rfl)
  (SttI w m nn (es := es)) (fun _ _ _ => False) (sttI_own w m nn _ hB0.size) (fun _ _ _ _ _ hs _ _ => hs)
  ⟨_, hS0, World.ownsRow_nil _ _ _ _, Nat.zero_le _, hR0, hB0⟩
  (fun x a' W => a' = actS w Bo mb m x) (fun x a' _ W W' row hs _ _ => hs) ?assign ?body ?done ?stop
 case assign =>
  rintro lb0 pre x W K hI hK
  have HK := hK (actS w Bo mb m x) W (KeepsFrom.refl _ _) (KpO.rfl' W) hI rfl
  clear hK
  have hev := entOf_ev x
  unfold actS at HK
  rw [hev]
  gi_wp2
  exact HK
 case body =>
  rintro lb0 pre x a' W hlb _ ⟨rv, hS, hrow, hpn, hRb, hB⟩ rfl hpl
  have hbe := (hbx _ (entOf_mem x)).bel hB (hbx _ (entOf_mem x)).lt
  have zS : w.heap.size + 1 < W.heap.size := (Array.getElem?_eq_some_iff.1 hS).1
  have cS1 : W.cell? ⟨w.heap.size + 1, 1, none⟩ = some rv := Joins.cell_of_block hS 1
  have cB0 : W.cell? ⟨(entOf x).1, 0, none⟩ = some (.int .i64 (entOf x).2.ky) := Joins.cell_of_block hbe 0
  have cB1 : W.cell? ⟨(entOf x).1, 1, none⟩ = some (.int .i64 (entOf x).2.st) := Joins.cell_of_block hbe 1
  have cB2 : W.cell? ⟨(entOf x).1, 2, none⟩ = some (.int .i64 (entOf x).2.en) := Joins.cell_of_block hbe 2
  have cB3 : W.cell? ⟨(entOf x).1, 3, none⟩ = some (.int .i64 (entOf x).2.an) := Joins.cell_of_block hbe 3
  have cB4 : W.cell? ⟨(entOf x).1, 4, none⟩ = some (.int .i64 (entOf x).2.asu) := Joins.cell_of_block hbe 4
  have cB5 : W.cell? ⟨(entOf x).1, 5, none⟩ = some (.int .i64 (entOf x).2.ale) := Joins.cell_of_block hbe 5
  have cB6 : W.cell? ⟨(entOf x).1, 6, none⟩ = some (.int .i64 (entOf x).2.amo) := Joins.cell_of_block hbe 6
  have cB7 : W.cell? ⟨(entOf x).1, 7, none⟩ = some (.int .i64 (entOf x).2.fn) := Joins.cell_of_block hbe 7
  have cB8 : W.cell? ⟨(entOf x).1, 8, none⟩ = some (.int .i64 (entOf x).2.fsu) := Joins.cell_of_block hbe 8
  have cB9 : W.cell? ⟨(entOf x).1, 9, none⟩ = some (.int .i64 (entOf x).2.fle) := Joins.cell_of_block hbe 9
  have cB10 : W.cell? ⟨(entOf x).1, 10, none⟩ = some (.int .i64 (entOf x).2.fmo) := Joins.cell_of_block hbe 10
  have cB11 : W.cell? ⟨(entOf x).1, 11, none⟩ = some (.int .i64 (entOf x).2.td) := Joins.cell_of_block hbe 11
  have cB12 : W.cell? ⟨(entOf x).1, 12, none⟩ = some (.bool (entOf x).2.tm) := Joins.cell_of_block hbe 12
  have HR := hide hrow
  have HS := hide hS
  have HRb := hide hRb
  clear hrow hS hRb hm hS0 hR0 hown hbe
  unfold actS
  gi_wp2
  refine wpIn_region_last (by kernel_rfl) (by kernel_rfl) (by kernel_rfl) (fun L a' W' => ∃ V : Nat → Value, a' = ({ tmps := #[.pointer (some ⟨Bo, 0, none⟩), undef, .pointer (some ⟨w.heap.size, 0, none⟩), .pointer (some ⟨w.heap.size + 1, 0, none⟩), undef, .pointer (some ⟨(entOf x).1, 0, none⟩), .pointer (some ⟨Bo, 0, none⟩), .pointer (some ⟨Bo, 0, none⟩), .pointer (some ⟨Bo, 10, none⟩), .int .i64 m, .agg #[.int .i64 m, .slice none 0 0], .pointer (some ⟨Bo, 0, none⟩), .pointer (some ⟨Bo, 0, none⟩), .pointer (some ⟨Bo, 11, none⟩), .map (some mb), (.func (.func 84) #[] #[.pointer (some ⟨w.heap.size + 1 + 1, 0, none⟩)]), .agg #[.int .i64 x.1.1.1, .int .i64 x.1.1.2.1, .int .i64 x.1.1.2.2], .pointer (some ⟨(entOf x).1, 0, none⟩), V 0, V 1, V 2, V 3, V 4, V 5, V 6, V 7, undef], defers := [] } : Act) ∧ ((L 0 = true → V 0 = .pointer (some ⟨w.heap.size + 1, 1, none⟩)) ∧ (L 1 = true → V 1 = rv) ∧ (L 2 = true → V 2 = .pointer (some ⟨(entOf x).1, 0, none⟩)) ∧ (L 3 = true → V 3 = .pointer (some ⟨(entOf x).1, 0, none⟩)) ∧ (L 4 = true → V 4 = .agg #[.int .i64 (entOf x).2.ky, .int .i64 (entOf x).2.st, .int .i64 (entOf x).2.en, .int .i64 (entOf x).2.an, .int .i64 (entOf x).2.asu, .int .i64 (entOf x).2.ale, .int .i64 (entOf x).2.amo, .int .i64 (entOf x).2.fn, .int .i64 (entOf x).2.fsu, .int .i64 (entOf x).2.fle, .int .i64 (entOf x).2.fmo, .int .i64 (entOf x).2.td, .bool (entOf x).2.tm]) ∧ (L 5 = true → V 5 = .slice (some ⟨W.heap.size, 0, none⟩) 1 1) ∧ (L 7 = true → V 7 = .pointer (some ⟨w.heap.size + 1, 1, none⟩))) ∧ (L 5 = false → W' = W.drew) ∧ (L 5 = true → L 6 = false → W' = (W.alloc (.cells #[.int .i64 (entOf x).2.ky, .int .i64 (entOf x).2.st, .int .i64 (entOf x).2.en, .int .i64 (entOf x).2.an, .int .i64 (entOf x).2.asu, .int .i64 (entOf x).2.ale, .int .i64 (entOf x).2.amo, .int .i64 (entOf x).2.fn, .int .i64 (entOf x).2.fsu, .int .i64 (entOf x).2.fle, .int .i64 (entOf x).2.fmo, .int .i64 (entOf x).2.td, .bool (entOf x).2.tm] 76)).drew) ∧ (L 5 = true → L 4 = true) ∧ (L 6 = true → L 5 = true ∧ L 1 = true) ∧ (L 6 = true → Hid (W'.ownsRow w.heap.size 76 13 (V 6) (pre.length + 1) (flatOr (pre.map (fun x => (entOf x).2)) ++ [.int .i64 (entOf x).2.ky, .int .i64 (entOf x).2.st, .int .i64 (entOf x).2.en, .int .i64 (entOf x).2.an, .int .i64 (entOf x).2.asu, .int .i64 (entOf x).2.ale, .int .i64 (entOf x).2.amo, .int .i64 (entOf x).2.fn, .int .i64 (entOf x).2.fsu, .int .i64 (entOf x).2.fle, .int .i64 (entOf x).2.fmo, .int .i64 (entOf x).2.td, .bool (entOf x).2.tm]) ∧ (W.alloc (.cells #[.int .i64 (entOf x).2.ky, .int .i64 (entOf x).2.st, .int .i64 (entOf x).2.en, .int .i64 (entOf x).2.an, .int .i64 (entOf x).2.asu, .int .i64 (entOf x).2.ale, .int .i64 (entOf x).2.amo, .int .i64 (entOf x).2.fn, .int .i64 (entOf x).2.fsu, .int .i64 (entOf x).2.fle, .int .i64 (entOf x).2.fmo, .int .i64 (entOf x).2.td, .bool (entOf x).2.tm] 76)).drew.grownBy W' rv.ownBlock))) ?_ ?_
  ·exact ⟨fun _ => undef, rfl, ⟨(fun h9 => (by cases h9)), (fun h9 => (by cases h9)), (fun h9 => (by cases h9)), (fun h9 => (by cases h9)), (fun h9 => (by cases h9)), (fun h9 => (by cases h9)), (fun h9 => (by cases h9))⟩, fun _ => rfl, fun h9 => (by cases h9), fun h9 => (by cases h9), fun h9 => (by cases h9), fun h9 => (by cases h9)⟩
  refine ⟨?_, ?_, ?_, ?_, ?_, ?_, ?_, ?_, ?_⟩
  ·intro L a' W' hI hLj hE K' hK
   obtain ⟨V, rfl, ⟨hv0, hv1, hv2, hv3, hv4, hv5, hv7⟩, hw0, hw1, hw2, hw4, hw3⟩ := hI
   go_simp
   exact hK.out _ _ ⟨fun m9 => if m9 = 0 then .pointer (some ⟨w.heap.size + 1, 1, none⟩) else V m9, rfl, ⟨fun _ => rfl, mO hv1, mO hv2, mO hv3, mO hv4, mO hv5, mO hv7⟩, mO hw0, fun h9 h8 => hw1 (mP h9) (mP h8), fun h9 => by have := hw2 (mP h9); simp [more, this], fun h9 => by have := hw4 (mP h9); simp [more, this], mO hw3⟩
  ·intro L a' W' hI hLj hE K' hK
   obtain ⟨V, rfl, ⟨hv0, hv1, hv2, hv3, hv4, hv5, hv7⟩, hw0, hw1, hw2, hw4, hw3⟩ := hI
   have el0 := hE ⟨0, .data⟩ (by simp) rfl
   have ev0 := hv0 el0
   have h6 : L 6 = false := by
    cases h9 : L 6 with
    | false => rfl
    | true => have := (hw4 h9).2; rw [hLj] at this; cases this
   have k1 : W'.cell? ⟨w.heap.size + 1, 1, none⟩ = some rv := by
    cases h5 : L 5 with
    | false => rw [hw0 h5]; exact cS1
    | true => rw [hw1 h5 h6]; exact ((bel_one W _).cell (p := ⟨w.heap.size + 1, 1, none⟩) zS).trans cS1
   rw [ev0]
   go_simp
   exact hK.out _ _ ⟨fun m9 => if m9 = 1 then rv else V m9, (by simp [ev0]), ⟨mO hv0, fun _ => rfl, mO hv2, mO hv3, mO hv4, mO hv5, mO hv7⟩, mO hw0, fun h9 h8 => hw1 (mP h9) (mP h8), fun h9 => by have := hw2 (mP h9); simp [more, this], fun h9 => by have := hw4 (mP h9); simp [more, this], mO hw3⟩
  ·intro L a' W' hI hLj hE K' hK
   obtain ⟨V, rfl, ⟨hv0, hv1, hv2, hv3, hv4, hv5, hv7⟩, hw0, hw1, hw2, hw4, hw3⟩ := hI
   go_simp
   exact hK.out _ _ ⟨fun m9 => if m9 = 2 then .pointer (some ⟨(entOf x).1, 0, none⟩) else V m9, rfl, ⟨mO hv0, mO hv1, fun _ => rfl, mO hv3, mO hv4, mO hv5, mO hv7⟩, mO hw0, fun h9 h8 => hw1 (mP h9) (mP h8), fun h9 => by have := hw2 (mP h9); simp [more, this], fun h9 => by have := hw4 (mP h9); simp [more, this], mO hw3⟩
  ·intro L a' W' hI hLj hE K' hK
   obtain ⟨V, rfl, ⟨hv0, hv1, hv2, hv3, hv4, hv5, hv7⟩, hw0, hw1, hw2, hw4, hw3⟩ := hI
   have el2 := hE ⟨2, .data⟩ (by simp) rfl
   have ev2 := hv2 el2
   rw [ev2]
   go_simp
   exact hK.out _ _ ⟨fun m9 => if m9 = 3 then .pointer (some ⟨(entOf x).1, 0, none⟩) else V m9, (by simp [ev2]), ⟨mO hv0, mO hv1, mO hv2, fun _ => rfl, mO hv4, mO hv5, mO hv7⟩, mO hw0, fun h9 h8 => hw1 (mP h9) (mP h8), fun h9 => by have := hw2 (mP h9); simp [more, this], fun h9 => by have := hw4 (mP h9); simp [more, this], mO hw3⟩
  ·intro L a' W' hI hLj hE K' hK
   obtain ⟨V, rfl, ⟨hv0, hv1, hv2, hv3, hv4, hv5, hv7⟩, hw0, hw1, hw2, hw4, hw3⟩ := hI
   have el3 := hE ⟨3, .data⟩ (by simp) rfl
   have ev3 := hv3 el3
   have h5 : L 5 = false := by
    cases h9 : L 5 with
    | false => rfl
    | true => have := hw2 h9; rw [hLj] at this; cases this
   obtain rfl := hw0 h5
   have d0 : W.drew.cell? ⟨(entOf x).1, 0, none⟩ = some (.int .i64 (entOf x).2.ky) := cB0
   have d1 : W.drew.cell? ⟨(entOf x).1, 1, none⟩ = some (.int .i64 (entOf x).2.st) := cB1
   have d2 : W.drew.cell? ⟨(entOf x).1, 2, none⟩ = some (.int .i64 (entOf x).2.en) := cB2
   have d3 : W.drew.cell? ⟨(entOf x).1, 3, none⟩ = some (.int .i64 (entOf x).2.an) := cB3
   have d4 : W.drew.cell? ⟨(entOf x).1, 4, none⟩ = some (.int .i64 (entOf x).2.asu) := cB4
   have d5 : W.drew.cell? ⟨(entOf x).1, 5, none⟩ = some (.int .i64 (entOf x).2.ale) := cB5
   have d6 : W.drew.cell? ⟨(entOf x).1, 6, none⟩ = some (.int .i64 (entOf x).2.amo) := cB6
   have d7 : W.drew.cell? ⟨(entOf x).1, 7, none⟩ = some (.int .i64 (entOf x).2.fn) := cB7
   have d8 : W.drew.cell? ⟨(entOf x).1, 8, none⟩ = some (.int .i64 (entOf x).2.fsu) := cB8
   have d9 : W.drew.cell? ⟨(entOf x).1, 9, none⟩ = some (.int .i64 (entOf x).2.fle) := cB9
   have d10 : W.drew.cell? ⟨(entOf x).1, 10, none⟩ = some (.int .i64 (entOf x).2.fmo) := cB10
   have d11 : W.drew.cell? ⟨(entOf x).1, 11, none⟩ = some (.int .i64 (entOf x).2.td) := cB11
   have d12 : W.drew.cell? ⟨(entOf x).1, 12, none⟩ = some (.bool (entOf x).2.tm) := cB12
   rw [ev3]
   go_simp
   exact hK.out _ _ ⟨fun m9 => if m9 = 4 then .agg #[.int .i64 (entOf x).2.ky, .int .i64 (entOf x).2.st, .int .i64 (entOf x).2.en, .int .i64 (entOf x).2.an, .int .i64 (entOf x).2.asu, .int .i64 (entOf x).2.ale, .int .i64 (entOf x).2.amo, .int .i64 (entOf x).2.fn, .int .i64 (entOf x).2.fsu, .int .i64 (entOf x).2.fle, .int .i64 (entOf x).2.fmo, .int .i64 (entOf x).2.td, .bool (entOf x).2.tm] else V m9, (by simp [ev3]), ⟨mO hv0, mO hv1, mO hv2, mO hv3, fun _ => rfl, mO hv5, mO hv7⟩, mO hw0, fun h9 h8 => hw1 (mP h9) (mP h8), fun h9 => by have := hw2 (mP h9); simp [more, this], fun h9 => by have := hw4 (mP h9); simp [more, this], mO hw3⟩
  ·intro L a' W' hI hLj hE K' hK
   obtain ⟨V, rfl, ⟨hv0, hv1, hv2, hv3, hv4, hv5, hv7⟩, hw0, hw1, hw2, hw4, hw3⟩ := hI
   have el4 := hE ⟨4, .data⟩ (by simp) rfl
   have ev4 := hv4 el4
   obtain rfl := hw0 hLj
   have h6 : L 6 = false := by
    cases h9 : L 6 with
    | false => rfl
    | true => have := (hw4 h9).1; rw [hLj] at this; cases this
   rw [ev4]
   go_simp
   exact hK.out _ _ ⟨fun m9 => if m9 = 5 then .slice (some ⟨W.heap.size, 0, none⟩) 1 1 else V m9, (by simp [ev4]), ⟨mO hv0, mO hv1, mO hv2, mO hv3, mO hv4, fun _ => rfl, mO hv7⟩, fun h9 => (by simp [more] at h9), fun h9 h8 => rfl, fun h9 => by simp [more, el4], fun h9 => by simp [more, h6] at h9, fun h9 => by simp [more, h6] at h9⟩
  ·intro L a' W' hI hLj hE K' hK
   obtain ⟨V, rfl, ⟨hv0, hv1, hv2, hv3, hv4, hv5, hv7⟩, hw0, hw1, hw2, hw4, hw3⟩ := hI
   have el1 := hE ⟨1, .data⟩ (by simp) rfl
   have ev1 := hv1 el1
   have el5 := hE ⟨5, .data⟩ (by simp) rfl
   have ev5 := hv5 el5
   obtain rfl := hw1 el5 hLj
   refine step_append_F rfl _ _ 30 rfl w.heap.size 76 i0 _ 13 104 Tryz.underlying30 hi hz0' hz1' hz2' rfl (by decide) rv pre.length (flatOr (pre.map (fun x => (entOf x).2))) (show V 1 = rv from ev1) (World.ownsRow.alloc (unhide HR) _) ⟨W.heap.size, 0, none⟩ 1 1 [.int .i64 (entOf x).2.ky, .int .i64 (entOf x).2.st, .int .i64 (entOf x).2.en, .int .i64 (entOf x).2.an, .int .i64 (entOf x).2.asu, .int .i64 (entOf x).2.ale, .int .i64 (entOf x).2.amo, .int .i64 (entOf x).2.fn, .int .i64 (entOf x).2.fsu, .int .i64 (entOf x).2.fle, .int .i64 (entOf x).2.fmo, .int .i64 (entOf x).2.td, .bool (entOf x).2.tm] (show V 5 = _ from ev5) rfl (cells_newOr W _ _ _ _ _ _ _ _ _ _ _ _ _ _) (by simp [Value.oneCell']) (by unfold maxLen; omega) (by omega) (by have := hB.size; simp; omega) ?_
   intro v' w' hown' hgrow _
   exact hK.out _ _ ⟨fun m9 => if m9 = 6 then v' else V m9, rfl, ⟨mO hv0, mO hv1, mO hv2, mO hv3, mO hv4, mO hv5, mO hv7⟩, fun h9 => by simp [more, el5] at h9, fun _ h8 => by simp [more] at h8, fun h9 => by have := hw2 (mP h9); simp [more, this], fun h9 => by simp [more, el5, el1], fun h9 => hide ⟨hown', hgrow⟩⟩
  ·intro L a' W' hI hLj hE K' hK
   obtain ⟨V, rfl, ⟨hv0, hv1, hv2, hv3, hv4, hv5, hv7⟩, hw0, hw1, hw2, hw4, hw3⟩ := hI
   go_simp
   exact hK.out _ _ ⟨fun m9 => if m9 = 7 then .pointer (some ⟨w.heap.size + 1, 1, none⟩) else V m9, rfl, ⟨mO hv0, mO hv1, mO hv2, mO hv3, mO hv4, mO hv5, fun _ => rfl⟩, mO hw0, fun h9 h8 => hw1 (mP h9) (mP h8), fun h9 => by have := hw2 (mP h9); simp [more, this], fun h9 => by have := hw4 (mP h9); simp [more, this], mO hw3⟩
  ·intro L a' W' hI hA K' hK
   obtain ⟨V, rfl, ⟨hv0, hv1, hv2, hv3, hv4, hv5, hv7⟩, hw0, hw1, hw2, hw4, hw3⟩ := hI
   have ev7 := hv7 (hA 7 (by decide))
   obtain ⟨hown', hgrow⟩ := unhide (hw3 (hA 6 (by decide)))
   have hneS : rv.ownBlock ≠ some (w.heap.size + 1) := own_ne_ty (unhide HR) (unhide HS) (by decide)
   have hneR : rv.ownBlock ≠ some (w.heap.size) := own_ne_ty (unhide HR) (unhide HRb) (by decide)
   have bS : W'.heap[w.heap.size + 1]? = some (.cells #[.int .i64 m, rv] 32 (0, 0)) := (hgrow.block _ (by simp; omega) (fun e => hneS e.symm)).trans ((Below.heap_alloc _ _ _ zS).trans (unhide HS))
   have bR : W'.heap[w.heap.size]? = some (.cells #[.int .i64 0, .slice none 0 0] 32 (0, 0)) := (hgrow.block _ (by simp; omega) (fun e => hneR e.symm)).trans ((Below.heap_alloc _ _ _ (by omega)).trans (unhide HRb))
   have k0 : W'.cell? ⟨w.heap.size + 1, 0, none⟩ = some (.int .i64 m) := Joins.cell_of_block bS 0
   have k1 : W'.cell? ⟨w.heap.size + 1, 1, none⟩ = some rv := Joins.cell_of_block bS 1
   have f1 := cF bS 1
   rw [ev7]
   obtain ⟨v6, hv6⟩ : ∃ v6, V 6 = v6 := ⟨_, rfl⟩
   rw [hv6] at hown' ⊢
   obtain ⟨g6, c6, rfl⟩ := ownsRow_succ hown'
   go_simp
   refine hK.out _ _ ?_
   have hbF : Below w.heap.size w (W'.setCell ⟨w.heap.size + 1, 1, none⟩ (.slice (some ⟨g6, 0, none⟩) (pre.length + 1) c6)) := bel_set (Below.grown (bel_drew (bel_alloc hB _)) hgrow (by have := hB.size; simp; omega) (fun k9 e9 => ownOr_geX (unhide HR) k9 e9)) (by simp) _
   have hkp : KpC W (W'.setCell ⟨w.heap.size + 1, 1, none⟩ (.slice (some ⟨g6, 0, none⟩) (pre.length + 1) c6)) := ((KpC.bel (bel_drew (bel_one W _))).trans (KpC.grown hgrow (fun r9 e9 => own_cells (World.ownsRow.alloc (unhide HR) _) r9 e9))).trans (KpC.set _ bS (by decide))
   refine ⟨hkp.from _, hkp.kpo, ⟨_, Joins.block_setCell bS _, ?_, by rw [List.length_append]; simp; omega, (Below.heap_setCell _ _ _ _ (by simp)).trans bR, hbF⟩⟩
   rw [List.map_append, List.length_append]
   simp only [List.map_cons, List.map_nil, List.length_cons, List.length_nil]
   rw [flatOr_snoc]
   exact own_setX hown' (by simpa using own_ne_ty hown' bS (by decide))
 case done =>
  rintro D ys W hD hys ⟨rv, hS, hrow, hpn, hRb, hB⟩ hK
  have hyE := inO hrise hok hys
  have hyl : ys.length = es.length := by have h9 := congrArg List.length hyE; rw [List.length_map] at h9; exact h9
  have hym : ys.map (fun x => (entOf x).2) = es.map (fun e => e.2) := by have h9 := congrArg (List.map (fun e : Ent => e.2)) hyE; rw [List.map_map] at h9; exact h9
  rw [hyl, hym] at hrow
  have hsl : ∃ a c, rv = .slice a es.length c := by
   rcases hrow.2 with ⟨rfl, h0⟩ | ⟨g9, cap9, cur, rfl, _⟩
   ·exact ⟨none, 0, by rw [h0]⟩
   ·exact ⟨_, _, rfl⟩
  obtain ⟨a, c, rfl⟩ := hsl
  have k0 : W.cell? ⟨w.heap.size + 1, 0, none⟩ = some (.int .i64 m) := Joins.cell_of_block hS 0
  have k1 : W.cell? ⟨w.heap.size + 1, 1, none⟩ = some (.slice a es.length c) := Joins.cell_of_block hS 1
  have j0 : W.cell? ⟨w.heap.size, 0, none⟩ = some (.int .i64 0) := Joins.cell_of_block hRb 0
  have j1 : W.cell? ⟨w.heap.size, 1, none⟩ = some (.slice none 0 0) := Joins.cell_of_block hRb 1
  have f0 := cF hRb 0
  have f1 := cF hRb 1
  have zS : w.heap.size + 1 < W.heap.size := (Array.getElem?_eq_some_iff.1 hS).1
  gi_wp2
  have hneD : D ≠ w.heap.size := by rintro rfl; rw [hRb] at hK; cases hK
  have bF : ((W.setCell ⟨w.heap.size, 0, none⟩ (.int .i64 m)).setCell ⟨w.heap.size, 1, none⟩ (.slice a es.length c)).heap[w.heap.size]? = some (.cells #[.int .i64 m, .slice a es.length c] 32 (0, 0)) := Joins.block_setCell (Joins.block_setCell hRb _) _
  have hKF : ((W.setCell ⟨w.heap.size, 0, none⟩ (.int .i64 m)).setCell ⟨w.heap.size, 1, none⟩ (.slice a es.length c)).heap[D]? = some (.deferred (some [])) := (Below.heap_setCell _ _ _ _ hneD).trans ((Below.heap_setCell _ _ _ _ hneD).trans hK)
  have hOF := own_setX (u := .slice a es.length c) (p := ⟨w.heap.size, 1, none⟩) (own_setX (u := .int .i64 m) (p := ⟨w.heap.size, 0, none⟩) hrow (own_ne_ty hrow hRb (by decide))) (own_ne_ty hrow hRb (by decide))
  have hbF : Below w.heap.size w ((W.setCell ⟨w.heap.size, 0, none⟩ (.int .i64 m)).setCell ⟨w.heap.size, 1, none⟩ (.slice a es.length c)) := bel_set (bel_set hB (Nat.le_refl _) _) (Nat.le_refl _) _
  generalize ((W.setCell ⟨w.heap.size, 0, none⟩ (.int .i64 m)).setCell ⟨w.heap.size, 1, none⟩ (.slice a es.length c)) = WF at bF hKF hOF hbF ⊢
  refine ⟨by simp, .inl ⟨_, _, rfl, run_takeDeferred hKF, ?_⟩⟩
  have bG : (WF.putObj D (.deferred none)).heap[w.heap.size]? = some (.cells #[.int .i64 m, .slice a es.length c] 32 (0, 0)) := (World.putObj_heap_other (fun e9 => hneD e9.symm)).trans bF
  have g0 : (WF.putObj D (.deferred none)).cell? ⟨w.heap.size, 0, none⟩ = some (.int .i64 m) := Joins.cell_of_block bG 0
  have g1 : (WF.putObj D (.deferred none)).cell? ⟨w.heap.size, 1, none⟩ = some (.slice a es.length c) := Joins.cell_of_block bG 1
  refine ⟨.agg #[.int .i64 m, .slice a es.length c], (by simp (maxDischargeDepth := 9) [results, Tryz.results29, go_sem, *]), a, c, rfl, ?_, ?_⟩
  ·unfold OwnOr
   rw [List.length_map]
   exact ownsRow_putObj hOF _ hKF rfl
  ·exact hbF.trans (belowK_b (w := w) (Nat.le_refl _) WF D _ _ (by simp at hD; omega) hKF rfl rfl)
 case stop =>
  rintro D c pre W _ _ hx _
  exact hx.elim
end Go.Proofs.YtflignpbboiahaaGreat
namespace Go.Proofs.YtflignpbboiahaaGreat
open Go.ChangeShapes Go.WideShapes Go.ChangeAt Go.RowKit Go.Deep
section
variable {P : Program} {ops : Array Oper} {Q : Exit → Act → World → Prop} {md : Region.Mode} {S0 : World → Prop} {sp : List Nat}
/-- No spoiler has come up. -/
def unsp (sp : List Nat) (l : Array Bool) : Bool := sp.all fun s => !(l.getD s true)
/-- The condition, as long as no spoiler has come up. -/
def SL (sp : List Nat) (S0 : World → Prop) (l : Array Bool) (w : World) : Prop := unsp sp l = true → S0 w
theorem SL_of {l : Array Bool} {w : World} (h : unsp sp l = false) : SL sp S0 l w := fun h9 => by rw [h] at h9; cases h9
theorem unsp_set {l : Array Bool} {i : Nat} (h : i ∉ sp) : unsp sp (l.setIfInBounds i true) = unsp sp l := by
 unfold unsp
 induction sp with
 | nil => rfl
 | cons s sp ih =>
  simp only [List.all_cons]
  rw [ih (fun h9 => h (List.mem_cons_of_mem _ h9)), getD_set_ne true (fun e => h (by rw [e]; exact List.mem_cons_self))]
/-- All that those who have come up waited for has come up. -/
def Closed (md : Region.Mode) (ops : Array Oper) (l : Array Bool) : Prop := ∀ (s : Nat) (o : Oper), ops[s]? = some o → l.getD s false = true → ∀ e ∈ o.after, Region.binds md e = true → l.getD e.on false = true
def closedB (md : Region.Mode) (ops : Array Oper) (l : Array Bool) : Bool := (List.range ops.size).all fun s => !(l.getD s false) || (match ops[s]? with
 | none => true
 | some o => o.after.all fun e => !(Region.binds md e) || l.getD e.on false)
theorem closedB_spec {l : Array Bool} (h : closedB md ops l = true) : Closed md ops l := by
 intro s o ho hl e he hb
 have hs : s < ops.size := (Array.getElem?_eq_some_iff.1 ho).1
 have h1 := List.all_eq_true.1 h s (List.mem_range.2 hs)
 rw [hl, ho] at h1
 simp only [Bool.not_true, Bool.false_or] at h1
 have h2 := Array.all_eq_true_iff_forall_mem.1 h1 e he
 rw [hb] at h2
 simpa using h2
theorem Closed.set {l : Array Bool} {j : Nat} {oj : Oper} (h : Closed md ops l) (hj : ops[j]? = some oj) (hall : ∀ e ∈ oj.after, Region.binds md e = true → l.getD e.on false = true) : Closed md ops (l.setIfInBounds j true) := by
 intro s o ho hl e he hb
 by_cases hsj : j = s
 ·subst hsj
  rw [hj] at ho
  cases ho
  exact getD_set_true (hall e he hb)
 ·rw [getD_set_ne false hsj] at hl
  exact getD_set_true (h s o ho hl e he hb)
/-- Number s waits, through others, for number i. -/
def reach (md : Region.Mode) (ops : Array Oper) (i : Nat) : Nat → Nat → Bool
 | 0, s => s == i
 | f + 1, s => s == i || (match ops[s]? with
  | none => false
  | some o => o.after.any fun e => Region.binds md e && reach md ops i f e.on)
theorem reach_listed {l : Array Bool} {i : Nat} (h : Closed md ops l) : ∀ (f s : Nat), reach md ops i f s = true → l.getD s false = true → l.getD i false = true
 | 0, s, hr, hl => by
  have : s = i := by simpa [reach] using hr
  rw [← this]; exact hl
 | f + 1, s, hr, hl => by
  unfold reach at hr
  rw [Bool.or_eq_true] at hr
  rcases hr with hr | hr
  ·have : s = i := by simpa using hr
   rw [← this]; exact hl
  ·cases ho : ops[s]? with
   | none => rw [ho] at hr; cases hr
   | some o =>
    rw [ho] at hr
    obtain ⟨e, he, h2⟩ : ∃ e ∈ o.after, (Region.binds md e && reach md ops i f e.on) = true := by
     obtain ⟨k, hk, h8⟩ := Array.any_eq_true.1 hr
     exact ⟨_, Array.getElem_mem hk, h8⟩
    rw [Bool.and_eq_true] at h2
    exact reach_listed h f e.on h2.2 (h s o ho hl e he h2.1)
/-- All spoilers wait for number i, which is none. -/
def spWait (md : Region.Mode) (ops : Array Oper) (sp : List Nat) (i : Nat) : Bool := sp.all fun s => !(s == i) && decide (s < ops.size) && reach md ops i 8 s
theorem unl {l : Array Bool} {i : Nat} (h : l.getD i true = false) : l.getD i false = false := by
 rcases Nat.lt_or_ge i l.size with h' | h'
 ·simp [h'] at h ⊢; exact h
 ·simp [Array.getElem?_eq_none h'] at h
theorem spWait_un {l : Array Bool} {i : Nat} (hw : spWait md ops sp i = true) (hc : Closed md ops l) (hz : l.size = ops.size) (hi : l.getD i true = false) : unsp sp l = true := by
 unfold unsp
 rw [List.all_eq_true]
 intro s hs
 have h1 := List.all_eq_true.1 hw s hs
 simp only [Bool.and_eq_true, decide_eq_true_eq] at h1
 cases hl : l.getD s true with
 | false => rfl
 | true =>
  have hlf : l.getD s false = true := by
   have hs' : s < l.size := by omega
   simp [hs'] at hl ⊢; exact hl
  have := reach_listed hc 8 s h1.2 hlf
  rw [unl hi] at this
  cases this
theorem spWait_not {i : Nat} (hw : spWait md ops sp i = true) : i ∉ sp := fun h => by
 have h1 := List.all_eq_true.1 hw i h
 simp at h1
/-- Whatever order is picked from here on, and the condition holds behind every operation till a spoiler has come up. -/
def wpAnyP (P : Program) (md : Region.Mode) (ops : Array Oper) (Q : Exit → Act → World → Prop) (sp : List Nat) (S0 : World → Prop) : Nat → Array Bool → Act → World → Prop
 | 0, listed, a, w => Region.ready md ops listed = [] ∧ Q .normal a w
 | fuel + 1, listed, a, w => (Region.ready md ops listed = [] → Q .normal a w) ∧ ∀ i ∈ Region.ready md ops listed, wpOp P ops Q i (fun a' w' => SL sp S0 (listed.setIfInBounds i true) w' ∧ wpAnyP P md ops Q sp S0 fuel (listed.setIfInBounds i true) a' w') a w
theorem wpAny_of_P : ∀ (fuel : Nat) (listed : Array Bool) (a : Act) (w : World), wpAnyP P md ops Q sp S0 fuel listed a w → wpAny P md ops Q fuel listed a w
 | 0, _, _, _, h => h
 | fuel + 1, _, _, _, h => ⟨h.1, fun i hi => wpOp_mono (fun a' w' h' => wpAny_of_P fuel _ a' w' h'.2) (h.2 i hi)⟩
theorem wpAnyP_first {T : World → Prop} {i : Nat} {oi : Oper} {v : Value} (hi : ops[i]? = some oi) (hsel : ∀ (j : Nat) (o : Oper) cs b, ops[j]? = some o → o.op ≠ .select cs b) (hQ : ∀ c a w, Q (.panic c) (a.put oi.dst v) w → Q (.panic c) a w) (hisp : i ∉ sp) (hT : ∀ l w, Closed md ops l → l.size = ops.size → l.getD i true = false → SL sp S0 l w → T w) :
  ∀ (fuel : Nat) (listed : Array Bool) (a : Act) (w : World),
   (∀ j oj, ops[j]? = some oj → j ≠ i → listed.getD j true = false → (∀ e ∈ oj.after, Region.binds md e = true → e.on ≠ i) → oi.apart ops oj = true) →
   i ∈ Region.ready md ops listed → Closed md ops listed → listed.size = ops.size → YieldsIf P ops T oi v a → SL sp S0 listed w →
   wpAnyP P md ops Q sp S0 fuel (listed.setIfInBounds i true) (a.put oi.dst v) w → wpAnyP P md ops Q sp S0 (fuel + 1) listed a w := by
 intro fuel
 induction fuel with
 | zero =>
  intro listed a w _ hr hc hz hy hS H
  refine ⟨fun h => (by rw [h] at hr; cases hr), fun j hj => ?_⟩
  by_cases hji : j = i
  ·subst hji
   exact hy.wpOp hi (hT listed w hc hz (mem_ready.1 hr).1 hS) ⟨fun h9 => hS (by rw [unsp_set hisp] at h9; exact h9), H⟩
  ·have := ready_mono hj hji
   rw [H.1] at this
   cases this
 | succ fuel ih =>
  intro listed a w hfree hr hc hz hy hS H
  refine ⟨fun h => (by rw [h] at hr; cases hr), fun j hj => ?_⟩
  by_cases hji : j = i
  ·subst hji
   exact hy.wpOp hi (hT listed w hc hz (mem_ready.1 hr).1 hS) ⟨fun h9 => hS (by rw [unsp_set hisp] at h9; exact h9), H⟩
  ·have h1 := H.2 j (ready_mono hj hji)
   obtain ⟨hjun, oj, hoj, hall⟩ := mem_ready.1 hj
   have hnot : ∀ e ∈ oj.after, Region.binds md e = true → e.on ≠ i := fun e he hb heq => by
    have h1 := hall e he hb
    have h0 := (mem_ready.1 hr).1
    rw [heq, unl h0] at h1
    cases h1
   have h2 := wpOp_putIf hoj (hfree j oj hoj hji hjun hnot) (fun cs b => hsel i oi cs b hi) (fun cs b => hsel j oj cs b hoj) hQ hy h1
   have hfree' : ∀ k ok, ops[k]? = some ok → k ≠ i → (listed.setIfInBounds j true).getD k true = false →
     (∀ e ∈ ok.after, Region.binds md e = true → e.on ≠ i) → oi.apart ops ok = true := fun k ok hk hki hun hno => by
    refine hfree k ok hk hki ?_ hno
    by_cases hjk : j = k
    ·subst hjk; exact hjun
    ·rw [getD_set_ne true hjk] at hun; exact hun
   have hsame : ∀ w', SL sp S0 ((listed.setIfInBounds i true).setIfInBounds j true) w' → SL sp S0 (listed.setIfInBounds j true) w' := fun w' h9 h8 => h9 (by
    rw [Array.setIfInBounds_comm _ _ (Ne.symm hji), unsp_set hisp]; exact h8)
   refine wpOp_mono (fun a' w' h3 => ⟨hsame w' h3.2.1, ih (listed.setIfInBounds j true) a' w' hfree' (ready_mono hr (Ne.symm hji)) (hc.set hoj hall) (by simpa using hz) h3.1 (hsame w' h3.2.1) ?_⟩) h2
   rw [Array.setIfInBounds_comm _ _ hji]
   exact h3.2.2
/-- Taken first, by what holds till a spoiler has come up. -/
theorem wpAnyP_take {i : Nat} {oi : Oper} {v : Value} {fuel : Nat} {listed : Array Bool} {a : Act} {w : World} (hi : ops[i]? = some oi) (hs : Region.noSelect ops = true) (hf : Region.free md ops listed i = true) (hr : (Region.ready md ops listed).contains i = true) (hc : (closedB md ops listed && decide (listed.size = ops.size) && spWait md ops sp i) = true) (hQ : ∀ c a w, Q (.panic c) (a.put oi.dst v) w → Q (.panic c) a w) (hy : YieldsIf P ops S0 oi v a) (hS : S0 w)
  (h : wpAnyP P md ops Q sp S0 fuel (listed.setIfInBounds i true) (a.put oi.dst v) w) : wpAnyP P md ops Q sp S0 (fuel + 1) listed a w := by
 simp only [Bool.and_eq_true, decide_eq_true_eq] at hc
 exact wpAnyP_first hi (Region.noSelect_spec hs) hQ (spWait_not hc.2) (fun l w hcl hz hli hSL => hSL (spWait_un hc.2 hcl hz hli)) fuel listed a w (Region.free_spec hi hf) (by simpa using hr) (closedB_spec hc.1.1) hc.1.2 hy (fun _ => hS) h
/-- Taken first: it yields its value in whatever world. -/
theorem wpAnyP_take0 {i : Nat} {oi : Oper} {v : Value} {fuel : Nat} {listed : Array Bool} {a : Act} {w : World} (hi : ops[i]? = some oi) (hs : Region.noSelect ops = true) (hf : Region.free md ops listed i = true) (hr : (Region.ready md ops listed).contains i = true) (hc : (closedB md ops listed && decide (listed.size = ops.size) && !(sp.contains i)) = true) (hQ : ∀ c a w, Q (.panic c) (a.put oi.dst v) w → Q (.panic c) a w) (hy : YieldsIf P ops (fun _ => True) oi v a) (hS : SL sp S0 listed w)
  (h : wpAnyP P md ops Q sp S0 fuel (listed.setIfInBounds i true) (a.put oi.dst v) w) : wpAnyP P md ops Q sp S0 (fuel + 1) listed a w := by
 simp only [Bool.and_eq_true, decide_eq_true_eq, Bool.not_eq_true', ] at hc
 exact wpAnyP_first hi (Region.noSelect_spec hs) hQ (by simpa using hc.2) (fun _ _ _ _ _ _ => trivial) fuel listed a w (Region.free_spec hi hf) (by simpa using hr) (closedB_spec hc.1.1) hc.1.2 hy hS h
theorem wpAnyP_done {listed : Array Bool} {a : Act} {w : World} (hr : Region.ready md ops listed = []) (h : Q .normal a w) :
  ∀ fuel, wpAnyP P md ops Q sp S0 fuel listed a w
 | 0 => ⟨hr, h⟩
 | _ + 1 => ⟨fun _ => h, by rw [hr]; simp⟩
/-- Each of the operations comes up next. -/
def AllReadyP (P : Program) (md : Region.Mode) (ops : Array Oper) (Q : Exit → Act → World → Prop) (sp : List Nat) (S0 : World → Prop) (fuel : Nat) (listed : Array Bool) (a : Act) (w : World) (rs : List Nat) : Prop :=
 ∀ i ∈ rs, wpOp P ops Q i (fun a' w' => SL sp S0 (listed.setIfInBounds i true) w' ∧ wpAnyP P md ops Q sp S0 fuel (listed.setIfInBounds i true) a' w') a w
theorem AllReadyP.nil {fuel : Nat} {listed : Array Bool} {a : Act} {w : World} : AllReadyP P md ops Q sp S0 fuel listed a w [] := fun _ h => by cases h
theorem AllReadyP.cons {fuel : Nat} {listed : Array Bool} {a : Act} {w : World} {i : Nat} {o : Oper} {rs : List Nat} (ho : ops[i]? = some o)
  (h : ∀ K' : Act → World → Prop, Shut (∀ a w, S0 w → (S0 w → wpAnyP P md ops Q sp S0 fuel (listed.setIfInBounds i true) a w) → K' a w) → if Region.wanted o (yielded ops a.tmps) = true then Oper.wp P o a w K' Q else K' (a.put o.dst undef) w)
  (hs : AllReadyP P md ops Q sp S0 fuel listed a w rs) : AllReadyP P md ops Q sp S0 fuel listed a w (i :: rs) := fun j hj => by
 rcases List.mem_cons.1 hj with rfl | hj
 ·exact wpOp_step ho (fun K' hK => h K' (fun a w hS hW => hK a w ⟨fun _ => hS, hW hS⟩))
 ·exact hs j hj
/-- One that is a spoiler, or comes behind one. -/
theorem AllReadyP.consS {fuel : Nat} {listed : Array Bool} {a : Act} {w : World} {i : Nat} {o : Oper} {rs : List Nat} (ho : ops[i]? = some o) (hu : unsp sp (listed.setIfInBounds i true) = false)
  (h : ∀ K' : Act → World → Prop, Shut (∀ a w, wpAnyP P md ops Q sp S0 fuel (listed.setIfInBounds i true) a w → K' a w) → if Region.wanted o (yielded ops a.tmps) = true then Oper.wp P o a w K' Q else K' (a.put o.dst undef) w)
  (hs : AllReadyP P md ops Q sp S0 fuel listed a w rs) : AllReadyP P md ops Q sp S0 fuel listed a w (i :: rs) := fun j hj => by
 rcases List.mem_cons.1 hj with rfl | hj
 ·exact wpOp_step ho (fun K' hK => h K' (fun a w hW => hK a w ⟨SL_of hu, hW⟩))
 ·exact hs j hj
theorem wpAnyP_ready {rs : List Nat} {fuel : Nat} {listed : Array Bool} {a : Act} {w : World} (hr : Region.ready md ops listed = rs) (hne : rs ≠ [])
  (h : AllReadyP P md ops Q sp S0 fuel listed a w rs) : wpAnyP P md ops Q sp S0 (fuel + 1) listed a w := ⟨fun h0 => absurd (hr ▸ h0) hne, hr ▸ h⟩
theorem wp_region_P {id : Nat} {a : Act} {w : World} (sp : List Nat) (S0 : World → Prop) (hm : P.follows .mixedOrders = true) (hS : S0 w.drew)
  (h : S0 w.drew → wpAnyP P .any ops Q sp S0 ops.size (Array.replicate ops.size false) a w.drew) : (Code.region id ops true).wp P Q a w :=
 wp_region_any hm (wpAny_of_P _ _ _ _ (h hS))
end
end Go.Proofs.YtflignpbboiahaaGreat
