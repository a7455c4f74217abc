/- Proved here: in a region whose order is drawn a load may be taken first where whoever writes its cell waits for it: a condition on the world that holds till the first of some operations ('spoilers') has come up. -/
import Derived.OrdersHeld
import Derived.Deep.RegionHeld3
import Derived.Test.YtcokdcehjibanaaDoorGenA
namespace Go.Proofs.YtcokdcehjibanaaDoor
open Go.ChangeShapes Go.WideShapes Go.ChangeAt Go.RowKit Go.Deep
set_option linter.unusedVariables false

section
variable {P : Program} {ops : Array Oper} {Q : Exit → Act → World → Prop} {md : Region.Mode} {S0 : World → Prop} {sp : List Nat}

/-- No spoiler has come up. -/
def unsp (sp : List Nat) (l : Array Bool) : Bool := sp.all fun s => !(l.getD s true)

/-- The condition, as long as no spoiler has come up. -/
def SL (sp : List Nat) (S0 : World → Prop) (l : Array Bool) (w : World) : Prop := unsp sp l = true → S0 w

theorem SL_of {l : Array Bool} {w : World} (h : unsp sp l = false) : SL sp S0 l w := fun h9 => by rw [h] at h9; cases h9

theorem unsp_set {l : Array Bool} {i : Nat} (h : i ∉ sp) : unsp sp (l.setIfInBounds i true) = unsp sp l := by
  unfold unsp
  induction sp with
  | nil => rfl
  | cons s sp ih =>
    simp only [List.all_cons]
    rw [ih (fun h9 => h (List.mem_cons_of_mem _ h9)), getD_set_ne true (fun e => h (by rw [e]; exact List.mem_cons_self))]

/-- All that those who have come up waited for has come up. -/
def Closed (md : Region.Mode) (ops : Array Oper) (l : Array Bool) : Prop := ∀ (s : Nat) (o : Oper), ops[s]? = some o → l.getD s false = true → ∀ e ∈ o.after, Region.binds md e = true → l.getD e.on false = true

def closedB (md : Region.Mode) (ops : Array Oper) (l : Array Bool) : Bool := (List.range ops.size).all fun s => !(l.getD s false) || (match ops[s]? with
  | none => true
  | some o => o.after.all fun e => !(Region.binds md e) || l.getD e.on false)

theorem closedB_spec {l : Array Bool} (h : closedB md ops l = true) : Closed md ops l := by
  intro s o ho hl e he hb
  have hs : s < ops.size := (Array.getElem?_eq_some_iff.1 ho).1
  have h1 := List.all_eq_true.1 h s (List.mem_range.2 hs)
  rw [hl, ho] at h1
  simp only [Bool.not_true, Bool.false_or] at h1
  have h2 := Array.all_eq_true_iff_forall_mem.1 h1 e he
  rw [hb] at h2
  simpa using h2

theorem Closed.set {l : Array Bool} {j : Nat} {oj : Oper} (h : Closed md ops l) (hj : ops[j]? = some oj) (hall : ∀ e ∈ oj.after, Region.binds md e = true → l.getD e.on false = true) : Closed md ops (l.setIfInBounds j true) := by
  intro s o ho hl e he hb
  by_cases hsj : j = s
  · subst hsj
    rw [hj] at ho
    cases ho
    exact getD_set_true (hall e he hb)
  · rw [getD_set_ne false hsj] at hl
    exact getD_set_true (h s o ho hl e he hb)

/-- Number s waits, through others, for number i. -/
def reach (md : Region.Mode) (ops : Array Oper) (i : Nat) : Nat → Nat → Bool
  | 0, s => s == i
  | f + 1, s => s == i || (match ops[s]? with
    | none => false
    | some o => o.after.any fun e => Region.binds md e && reach md ops i f e.on)

theorem reach_listed {l : Array Bool} {i : Nat} (h : Closed md ops l) : ∀ (f s : Nat), reach md ops i f s = true → l.getD s false = true → l.getD i false = true
  | 0, s, hr, hl => by
    have : s = i := by simpa [reach] using hr
    rw [← this]; exact hl
  | f + 1, s, hr, hl => by
    unfold reach at hr
    rw [Bool.or_eq_true] at hr
    rcases hr with hr | hr
    · have : s = i := by simpa using hr
      rw [← this]; exact hl
    · cases ho : ops[s]? with
      | none => rw [ho] at hr; cases hr
      | some o =>
        rw [ho] at hr
        obtain ⟨e, he, h2⟩ : ∃ e ∈ o.after, (Region.binds md e && reach md ops i f e.on) = true := by
          obtain ⟨k, hk, h8⟩ := Array.any_eq_true.1 hr
          exact ⟨_, Array.getElem_mem hk, h8⟩
        rw [Bool.and_eq_true] at h2
        exact reach_listed h f e.on h2.2 (h s o ho hl e he h2.1)

/-- All spoilers wait for number i, which is none. -/
def spWait (md : Region.Mode) (ops : Array Oper) (sp : List Nat) (i : Nat) : Bool := sp.all fun s => !(s == i) && decide (s < ops.size) && reach md ops i 8 s

theorem unl {l : Array Bool} {i : Nat} (h : l.getD i true = false) : l.getD i false = false := by
  rcases Nat.lt_or_ge i l.size with h' | h'
  · simp [h'] at h ⊢; exact h
  · simp [Array.getElem?_eq_none h'] at h

theorem spWait_un {l : Array Bool} {i : Nat} (hw : spWait md ops sp i = true) (hc : Closed md ops l) (hz : l.size = ops.size) (hi : l.getD i true = false) : unsp sp l = true := by
  unfold unsp
  rw [List.all_eq_true]
  intro s hs
  have h1 := List.all_eq_true.1 hw s hs
  simp only [Bool.and_eq_true, decide_eq_true_eq] at h1
  cases hl : l.getD s true with
  | false => rfl
  | true =>
    have hlf : l.getD s false = true := by
      have hs' : s < l.size := by omega
      simp [hs'] at hl ⊢; exact hl
    have := reach_listed hc 8 s h1.2 hlf
    rw [unl hi] at this
    cases this

theorem spWait_not {i : Nat} (hw : spWait md ops sp i = true) : i ∉ sp := fun h => by
  have h1 := List.all_eq_true.1 hw i h
  simp at h1

/-- Whatever order is picked from here on, and the condition holds behind every operation till a spoiler has come up. -/
def wpAnyP (P : Program) (md : Region.Mode) (ops : Array Oper) (Q : Exit → Act → World → Prop) (sp : List Nat) (S0 : World → Prop) : Nat → Array Bool → Act → World → Prop
  | 0, listed, a, w => Region.ready md ops listed = [] ∧ Q .normal a w
  | fuel + 1, listed, a, w => (Region.ready md ops listed = [] → Q .normal a w) ∧ ∀ i ∈ Region.ready md ops listed, wpOp P ops Q i (fun a' w' => SL sp S0 (listed.setIfInBounds i true) w' ∧ wpAnyP P md ops Q sp S0 fuel (listed.setIfInBounds i true) a' w') a w

theorem wpAny_of_P : ∀ (fuel : Nat) (listed : Array Bool) (a : Act) (w : World), wpAnyP P md ops Q sp S0 fuel listed a w → wpAny P md ops Q fuel listed a w
  | 0, _, _, _, h => h
  | fuel + 1, _, _, _, h => ⟨h.1, fun i hi => wpOp_mono (fun a' w' h' => wpAny_of_P fuel _ a' w' h'.2) (h.2 i hi)⟩

theorem wpAnyP_first {T : World → Prop} {i : Nat} {oi : Oper} {v : Value} (hi : ops[i]? = some oi) (hsel : ∀ (j : Nat) (o : Oper) cs b, ops[j]? = some o → o.op ≠ .select cs b) (hQ : ∀ c a w, Q (.panic c) (a.put oi.dst v) w → Q (.panic c) a w) (hisp : i ∉ sp) (hT : ∀ l w, Closed md ops l → l.size = ops.size → l.getD i true = false → SL sp S0 l w → T w) :
    ∀ (fuel : Nat) (listed : Array Bool) (a : Act) (w : World),
      (∀ j oj, ops[j]? = some oj → j ≠ i → listed.getD j true = false → (∀ e ∈ oj.after, Region.binds md e = true → e.on ≠ i) → oi.apart ops oj = true) →
      i ∈ Region.ready md ops listed → Closed md ops listed → listed.size = ops.size → YieldsIf P ops T oi v a → SL sp S0 listed w →
      wpAnyP P md ops Q sp S0 fuel (listed.setIfInBounds i true) (a.put oi.dst v) w → wpAnyP P md ops Q sp S0 (fuel + 1) listed a w := by
  intro fuel
  induction fuel with
  | zero =>
    intro listed a w _ hr hc hz hy hS H
    refine ⟨fun h => (by rw [h] at hr; cases hr), fun j hj => ?_⟩
    by_cases hji : j = i
    · subst hji
      exact hy.wpOp hi (hT listed w hc hz (mem_ready.1 hr).1 hS) ⟨fun h9 => hS (by rw [unsp_set hisp] at h9; exact h9), H⟩
    · have := ready_mono hj hji
      rw [H.1] at this
      cases this
  | succ fuel ih =>
    intro listed a w hfree hr hc hz hy hS H
    refine ⟨fun h => (by rw [h] at hr; cases hr), fun j hj => ?_⟩
    by_cases hji : j = i
    · subst hji
      exact hy.wpOp hi (hT listed w hc hz (mem_ready.1 hr).1 hS) ⟨fun h9 => hS (by rw [unsp_set hisp] at h9; exact h9), H⟩
    · have h1 := H.2 j (ready_mono hj hji)
      obtain ⟨hjun, oj, hoj, hall⟩ := mem_ready.1 hj
      have hnot : ∀ e ∈ oj.after, Region.binds md e = true → e.on ≠ i := fun e he hb heq => by
        have h1 := hall e he hb
        have h0 := (mem_ready.1 hr).1
        rw [heq, unl h0] at h1
        cases h1
      have h2 := wpOp_putIf hoj (hfree j oj hoj hji hjun hnot) (fun cs b => hsel i oi cs b hi) (fun cs b => hsel j oj cs b hoj) hQ hy h1
      have hfree' : ∀ k ok, ops[k]? = some ok → k ≠ i → (listed.setIfInBounds j true).getD k true = false →
          (∀ e ∈ ok.after, Region.binds md e = true → e.on ≠ i) → oi.apart ops ok = true := fun k ok hk hki hun hno => by
        refine hfree k ok hk hki ?_ hno
        by_cases hjk : j = k
        · subst hjk; exact hjun
        · rw [getD_set_ne true hjk] at hun; exact hun
      have hsame : ∀ w', SL sp S0 ((listed.setIfInBounds i true).setIfInBounds j true) w' → SL sp S0 (listed.setIfInBounds j true) w' := fun w' h9 h8 => h9 (by
        rw [Array.setIfInBounds_comm _ _ (Ne.symm hji), unsp_set hisp]; exact h8)
      refine wpOp_mono (fun a' w' h3 => ⟨hsame w' h3.2.1, ih (listed.setIfInBounds j true) a' w' hfree' (ready_mono hr (Ne.symm hji)) (hc.set hoj hall) (by simpa using hz) h3.1 (hsame w' h3.2.1) ?_⟩) h2
      rw [Array.setIfInBounds_comm _ _ hji]
      exact h3.2.2

/-- Taken first, by what holds till a spoiler has come up. -/
theorem wpAnyP_take {i : Nat} {oi : Oper} {v : Value} {fuel : Nat} {listed : Array Bool} {a : Act} {w : World} (hi : ops[i]? = some oi) (hs : Region.noSelect ops = true) (hf : Region.free md ops listed i = true) (hr : (Region.ready md ops listed).contains i = true) (hc : (closedB md ops listed && decide (listed.size = ops.size) && spWait md ops sp i) = true) (hQ : ∀ c a w, Q (.panic c) (a.put oi.dst v) w → Q (.panic c) a w) (hy : YieldsIf P ops S0 oi v a) (hS : S0 w)
    (h : wpAnyP P md ops Q sp S0 fuel (listed.setIfInBounds i true) (a.put oi.dst v) w) : wpAnyP P md ops Q sp S0 (fuel + 1) listed a w := by
  simp only [Bool.and_eq_true, decide_eq_true_eq] at hc
  exact wpAnyP_first hi (Region.noSelect_spec hs) hQ (spWait_not hc.2) (fun l w hcl hz hli hSL => hSL (spWait_un hc.2 hcl hz hli)) fuel listed a w (Region.free_spec hi hf) (by simpa using hr) (closedB_spec hc.1.1) hc.1.2 hy (fun _ => hS) h

/-- Taken first: it yields its value in whatever world. -/
theorem wpAnyP_take0 {i : Nat} {oi : Oper} {v : Value} {fuel : Nat} {listed : Array Bool} {a : Act} {w : World} (hi : ops[i]? = some oi) (hs : Region.noSelect ops = true) (hf : Region.free md ops listed i = true) (hr : (Region.ready md ops listed).contains i = true) (hc : (closedB md ops listed && decide (listed.size = ops.size) && !(sp.contains i)) = true) (hQ : ∀ c a w, Q (.panic c) (a.put oi.dst v) w → Q (.panic c) a w) (hy : YieldsIf P ops (fun _ => True) oi v a) (hS : SL sp S0 listed w)
    (h : wpAnyP P md ops Q sp S0 fuel (listed.setIfInBounds i true) (a.put oi.dst v) w) : wpAnyP P md ops Q sp S0 (fuel + 1) listed a w := by
  simp only [Bool.and_eq_true, decide_eq_true_eq, Bool.not_eq_true', ] at hc
  exact wpAnyP_first hi (Region.noSelect_spec hs) hQ (by simpa using hc.2) (fun _ _ _ _ _ _ => trivial) fuel listed a w (Region.free_spec hi hf) (by simpa using hr) (closedB_spec hc.1.1) hc.1.2 hy hS h

theorem wpAnyP_done {listed : Array Bool} {a : Act} {w : World} (hr : Region.ready md ops listed = []) (h : Q .normal a w) :
    ∀ fuel, wpAnyP P md ops Q sp S0 fuel listed a w
  | 0 => ⟨hr, h⟩
  | _ + 1 => ⟨fun _ => h, by rw [hr]; simp⟩

/-- Each of the operations comes up next. -/
def AllReadyP (P : Program) (md : Region.Mode) (ops : Array Oper) (Q : Exit → Act → World → Prop) (sp : List Nat) (S0 : World → Prop) (fuel : Nat) (listed : Array Bool) (a : Act) (w : World) (rs : List Nat) : Prop :=
  ∀ i ∈ rs, wpOp P ops Q i (fun a' w' => SL sp S0 (listed.setIfInBounds i true) w' ∧ wpAnyP P md ops Q sp S0 fuel (listed.setIfInBounds i true) a' w') a w

theorem AllReadyP.nil {fuel : Nat} {listed : Array Bool} {a : Act} {w : World} : AllReadyP P md ops Q sp S0 fuel listed a w [] := fun _ h => by cases h

theorem AllReadyP.cons {fuel : Nat} {listed : Array Bool} {a : Act} {w : World} {i : Nat} {o : Oper} {rs : List Nat} (ho : ops[i]? = some o)
    (h : ∀ K' : Act → World → Prop, Shut (∀ a w, S0 w → (S0 w → wpAnyP P md ops Q sp S0 fuel (listed.setIfInBounds i true) a w) → K' a w) → if Region.wanted o (yielded ops a.tmps) = true then Oper.wp P o a w K' Q else K' (a.put o.dst undef) w)
    (hs : AllReadyP P md ops Q sp S0 fuel listed a w rs) : AllReadyP P md ops Q sp S0 fuel listed a w (i :: rs) := fun j hj => by
  rcases List.mem_cons.1 hj with rfl | hj
  · exact wpOp_step ho (fun K' hK => h K' (fun a w hS hW => hK a w ⟨fun _ => hS, hW hS⟩))
  · exact hs j hj

/-- One that is a spoiler, or comes behind one. -/
theorem AllReadyP.consS {fuel : Nat} {listed : Array Bool} {a : Act} {w : World} {i : Nat} {o : Oper} {rs : List Nat} (ho : ops[i]? = some o) (hu : unsp sp (listed.setIfInBounds i true) = false)
    (h : ∀ K' : Act → World → Prop, Shut (∀ a w, wpAnyP P md ops Q sp S0 fuel (listed.setIfInBounds i true) a w → K' a w) → if Region.wanted o (yielded ops a.tmps) = true then Oper.wp P o a w K' Q else K' (a.put o.dst undef) w)
    (hs : AllReadyP P md ops Q sp S0 fuel listed a w rs) : AllReadyP P md ops Q sp S0 fuel listed a w (i :: rs) := fun j hj => by
  rcases List.mem_cons.1 hj with rfl | hj
  · exact wpOp_step ho (fun K' hK => h K' (fun a w hW => hK a w ⟨SL_of hu, hW⟩))
  · exact hs j hj

theorem wpAnyP_ready {rs : List Nat} {fuel : Nat} {listed : Array Bool} {a : Act} {w : World} (hr : Region.ready md ops listed = rs) (hne : rs ≠ [])
    (h : AllReadyP P md ops Q sp S0 fuel listed a w rs) : wpAnyP P md ops Q sp S0 (fuel + 1) listed a w := ⟨fun h0 => absurd (hr ▸ h0) hne, hr ▸ h⟩

theorem wp_region_P {id : Nat} {a : Act} {w : World} (sp : List Nat) (S0 : World → Prop) (hm : P.follows .mixedOrders = true) (hS : S0 w.drew)
    (h : S0 w.drew → wpAnyP P .any ops Q sp S0 ops.size (Array.replicate ops.size false) a w.drew) : (Code.region id ops true).wp P Q a w :=
  wp_region_any hm (wpAny_of_P _ _ _ _ (h hS))
end
end Go.Proofs.YtcokdcehjibanaaDoor
