/- Laid together: texts that were built one by one. -/
import Derived.Test.YtflignpbboiahaaGenF
import Derived.OrdersHeld
import Derived.Deep.RegionHeld3
import Derived.Test.YtflignpbboiahaaGenA
import Derived.Test.YtflignpbboiahaaStepA
import Derived.Test.YtflignpbboiahaaRwaOp
import Derived.Lib.SmallJoins
import Derived.Deep.Onto
import Derived.Test.YtflignpbboiahaaOpMk
import Derived.OwnWalk
import Derived.Deep.DeepCutAuto
/- Proved here, for any program: a struct of an int and a slice, read as these two. -/
namespace Go.Proofs.Ytflignpbboiahaa
open Go.ChangeShapes Go.WideShapes Go.ChangeAt Go.RowKit Go.Deep
set_option linter.unusedVariables false

section
variable {H : Type} {enc : TypeId × Value → H} {P : Program} {w : World} {base : Nat} {spare : Nat → Bool} {held : Bool}

theorem slice_shape {t e : TypeId} {fuel : Nat} {cs : List Value} {x : DataW H × List MemPlace} (ht : P.underlying t = some (.slice e)) (h : DataW.trod enc P w base spare held fuel t cs = some x) : ∃ a len cap, cs = [.slice a len cap] := by
  rcases open_slice ht h with ⟨hcs, _⟩ | ⟨a', len', cap', m, n, D, Pl, hcs, _⟩
  · exact ⟨_, _, _, hcs⟩
  · exact ⟨_, _, _, hcs⟩

theorem open_st {r : Reach} {b0 : Nat} {t t1 e : TypeId} {fs : Array Field} {v : Value} {d : DataW H} {p : List MemPlace}
    (hs : P.underlying t = some (.struct fs)) (hC : P.cellsOf t = 2)
    (h0 : (fs[0]?).map (fun f => (f.offset, P.underlying f.type, P.cellsOf f.type)) = some (0, some (.int .i64), 1))
    (h1 : (fs[1]?).map (fun f => (f.offset, f.type, P.cellsOf f.type)) = some (1, t1, 1))
    (ht : P.underlying t1 = some (.slice e))
    (hv : Value.okWide P w r b0 t v) (h : DataW.Trod enc P w base spare held t v d p) :
    ∃ m a len cap d' p', v = .agg #[.int .i64 m, .slice a len cap] ∧ (Lit.int .i64 m).wf = true ∧ DataW.Trod enc P w base spare held t1 (.slice a len cap) d' p' := by
  obtain ⟨cs, rfl, hsz⟩ := okWide_struct hs hv
  obtain ⟨fuel, hf⟩ := h
  obtain ⟨xs, n, _, _, hl, hlen, hfs⟩ := DataW.trod_struct hs hf
  rw [hC] at hsz
  obtain ⟨f0, hf0, e0⟩ := Option.map_eq_some_iff.1 h0
  obtain ⟨f1, hf1, e1⟩ := Option.map_eq_some_iff.1 h1
  simp only [Prod.mk.injEq] at e0 e1
  have l0 : 0 < fs.size := (Array.getElem?_eq_some_iff.1 hf0).1
  have l1 : 1 < fs.size := (Array.getElem?_eq_some_iff.1 hf1).1
  have r0 := hfs 0 f0 hf0
  have r1 := hfs 1 f1 hf1
  rw [e0.1, e0.2.2, List.getElem?_eq_getElem (by omega)] at r0
  rw [e1.1, e1.2.2, e1.2.1, List.getElem?_eq_getElem (by omega)] at r1
  obtain ⟨z, hz, _, hw⟩ := DataW.trod_int e0.2.1 r0
  obtain ⟨a, len, cap, hc⟩ := slice_shape ht r1
  rw [hc] at r1
  have hcl : (Value.agg cs).cells = cs := by simp [Value.cells]
  rw [hcl] at hz hc
  have hcs : cs = #[.int .i64 z, .slice a len cap] := by
    obtain ⟨l⟩ := cs
    match l, hsz with
    | [u, v'], _ =>
      simp at hz hc
      rw [hz, hc]
  exact ⟨z, a, len, cap, _, _, by rw [hcs], hw, n, r1⟩
end
end Go.Proofs.Ytflignpbboiahaa
/- Proved here: in a region whose order is drawn a load may be taken first where whoever writes its cell waits for it: a condition on the world that holds till the first of some operations ('spoilers') has come up. -/
namespace Go.Proofs.Ytflignpbboiahaa
open Go.ChangeShapes Go.WideShapes Go.ChangeAt Go.RowKit Go.Deep
set_option linter.unusedVariables false

section
variable {P : Program} {ops : Array Oper} {Q : Exit → Act → World → Prop} {md : Region.Mode} {S0 : World → Prop} {sp : List Nat}

/-- No spoiler has come up. -/
def unsp (sp : List Nat) (l : Array Bool) : Bool := sp.all fun s => !(l.getD s true)

/-- The condition, as long as no spoiler has come up. -/
def SL (sp : List Nat) (S0 : World → Prop) (l : Array Bool) (w : World) : Prop := unsp sp l = true → S0 w

theorem SL_of {l : Array Bool} {w : World} (h : unsp sp l = false) : SL sp S0 l w := fun h9 => by rw [h] at h9; cases h9

theorem unsp_set {l : Array Bool} {i : Nat} (h : i ∉ sp) : unsp sp (l.setIfInBounds i true) = unsp sp l := by
  unfold unsp
  induction sp with
  | nil => rfl
  | cons s sp ih =>
    simp only [List.all_cons]
    rw [ih (fun h9 => h (List.mem_cons_of_mem _ h9)), getD_set_ne true (fun e => h (by rw [e]; exact List.mem_cons_self))]

/-- All that those who have come up waited for has come up. -/
def Closed (md : Region.Mode) (ops : Array Oper) (l : Array Bool) : Prop := ∀ (s : Nat) (o : Oper), ops[s]? = some o → l.getD s false = true → ∀ e ∈ o.after, Region.binds md e = true → l.getD e.on false = true

def closedB (md : Region.Mode) (ops : Array Oper) (l : Array Bool) : Bool := (List.range ops.size).all fun s => !(l.getD s false) || (match ops[s]? with
  | none => true
  | some o => o.after.all fun e => !(Region.binds md e) || l.getD e.on false)

theorem closedB_spec {l : Array Bool} (h : closedB md ops l = true) : Closed md ops l := by
  intro s o ho hl e he hb
  have hs : s < ops.size := (Array.getElem?_eq_some_iff.1 ho).1
  have h1 := List.all_eq_true.1 h s (List.mem_range.2 hs)
  rw [hl, ho] at h1
  simp only [Bool.not_true, Bool.false_or] at h1
  have h2 := Array.all_eq_true_iff_forall_mem.1 h1 e he
  rw [hb] at h2
  simpa using h2

theorem Closed.set {l : Array Bool} {j : Nat} {oj : Oper} (h : Closed md ops l) (hj : ops[j]? = some oj) (hall : ∀ e ∈ oj.after, Region.binds md e = true → l.getD e.on false = true) : Closed md ops (l.setIfInBounds j true) := by
  intro s o ho hl e he hb
  by_cases hsj : j = s
  · subst hsj
    rw [hj] at ho
    cases ho
    exact getD_set_true (hall e he hb)
  · rw [getD_set_ne false hsj] at hl
    exact getD_set_true (h s o ho hl e he hb)

/-- Number s waits, through others, for number i. -/
def reach (md : Region.Mode) (ops : Array Oper) (i : Nat) : Nat → Nat → Bool
  | 0, s => s == i
  | f + 1, s => s == i || (match ops[s]? with
    | none => false
    | some o => o.after.any fun e => Region.binds md e && reach md ops i f e.on)

theorem reach_listed {l : Array Bool} {i : Nat} (h : Closed md ops l) : ∀ (f s : Nat), reach md ops i f s = true → l.getD s false = true → l.getD i false = true
  | 0, s, hr, hl => by
    have : s = i := by simpa [reach] using hr
    rw [← this]; exact hl
  | f + 1, s, hr, hl => by
    unfold reach at hr
    rw [Bool.or_eq_true] at hr
    rcases hr with hr | hr
    · have : s = i := by simpa using hr
      rw [← this]; exact hl
    · cases ho : ops[s]? with
      | none => rw [ho] at hr; cases hr
      | some o =>
        rw [ho] at hr
        obtain ⟨e, he, h2⟩ : ∃ e ∈ o.after, (Region.binds md e && reach md ops i f e.on) = true := by
          obtain ⟨k, hk, h8⟩ := Array.any_eq_true.1 hr
          exact ⟨_, Array.getElem_mem hk, h8⟩
        rw [Bool.and_eq_true] at h2
        exact reach_listed h f e.on h2.2 (h s o ho hl e he h2.1)

/-- All spoilers wait for number i, which is none. -/
def spWait (md : Region.Mode) (ops : Array Oper) (sp : List Nat) (i : Nat) : Bool := sp.all fun s => !(s == i) && decide (s < ops.size) && reach md ops i 8 s

theorem unl {l : Array Bool} {i : Nat} (h : l.getD i true = false) : l.getD i false = false := by
  rcases Nat.lt_or_ge i l.size with h' | h'
  · simp [h'] at h ⊢; exact h
  · simp [Array.getElem?_eq_none h'] at h

theorem spWait_un {l : Array Bool} {i : Nat} (hw : spWait md ops sp i = true) (hc : Closed md ops l) (hz : l.size = ops.size) (hi : l.getD i true = false) : unsp sp l = true := by
  unfold unsp
  rw [List.all_eq_true]
  intro s hs
  have h1 := List.all_eq_true.1 hw s hs
  simp only [Bool.and_eq_true, decide_eq_true_eq] at h1
  cases hl : l.getD s true with
  | false => rfl
  | true =>
    have hlf : l.getD s false = true := by
      have hs' : s < l.size := by omega
      simp [hs'] at hl ⊢; exact hl
    have := reach_listed hc 8 s h1.2 hlf
    rw [unl hi] at this
    cases this

theorem spWait_not {i : Nat} (hw : spWait md ops sp i = true) : i ∉ sp := fun h => by
  have h1 := List.all_eq_true.1 hw i h
  simp at h1

/-- Whatever order is picked from here on, and the condition holds behind every operation till a spoiler has come up. -/
def wpAnyP (P : Program) (md : Region.Mode) (ops : Array Oper) (Q : Exit → Act → World → Prop) (sp : List Nat) (S0 : World → Prop) : Nat → Array Bool → Act → World → Prop
  | 0, listed, a, w => Region.ready md ops listed = [] ∧ Q .normal a w
  | fuel + 1, listed, a, w => (Region.ready md ops listed = [] → Q .normal a w) ∧ ∀ i ∈ Region.ready md ops listed, wpOp P ops Q i (fun a' w' => SL sp S0 (listed.setIfInBounds i true) w' ∧ wpAnyP P md ops Q sp S0 fuel (listed.setIfInBounds i true) a' w') a w

theorem wpAny_of_P : ∀ (fuel : Nat) (listed : Array Bool) (a : Act) (w : World), wpAnyP P md ops Q sp S0 fuel listed a w → wpAny P md ops Q fuel listed a w
  | 0, _, _, _, h => h
  | fuel + 1, _, _, _, h => ⟨h.1, fun i hi => wpOp_mono (fun a' w' h' => wpAny_of_P fuel _ a' w' h'.2) (h.2 i hi)⟩

theorem wpAnyP_first {T : World → Prop} {i : Nat} {oi : Oper} {v : Value} (hi : ops[i]? = some oi) (hsel : ∀ (j : Nat) (o : Oper) cs b, ops[j]? = some o → o.op ≠ .select cs b) (hQ : ∀ c a w, Q (.panic c) (a.put oi.dst v) w → Q (.panic c) a w) (hisp : i ∉ sp) (hT : ∀ l w, Closed md ops l → l.size = ops.size → l.getD i true = false → SL sp S0 l w → T w) :
    ∀ (fuel : Nat) (listed : Array Bool) (a : Act) (w : World),
      (∀ j oj, ops[j]? = some oj → j ≠ i → listed.getD j true = false → (∀ e ∈ oj.after, Region.binds md e = true → e.on ≠ i) → oi.apart ops oj = true) →
      i ∈ Region.ready md ops listed → Closed md ops listed → listed.size = ops.size → YieldsIf P ops T oi v a → SL sp S0 listed w →
      wpAnyP P md ops Q sp S0 fuel (listed.setIfInBounds i true) (a.put oi.dst v) w → wpAnyP P md ops Q sp S0 (fuel + 1) listed a w := by
  intro fuel
  induction fuel with
  | zero =>
    intro listed a w _ hr hc hz hy hS H
    refine ⟨fun h => (by rw [h] at hr; cases hr), fun j hj => ?_⟩
    by_cases hji : j = i
    · subst hji
      exact hy.wpOp hi (hT listed w hc hz (mem_ready.1 hr).1 hS) ⟨fun h9 => hS (by rw [unsp_set hisp] at h9; exact h9), H⟩
    · have := ready_mono hj hji
      rw [H.1] at this
      cases this
  | succ fuel ih =>
    intro listed a w hfree hr hc hz hy hS H
    refine ⟨fun h => (by rw [h] at hr; cases hr), fun j hj => ?_⟩
    by_cases hji : j = i
    · subst hji
      exact hy.wpOp hi (hT listed w hc hz (mem_ready.1 hr).1 hS) ⟨fun h9 => hS (by rw [unsp_set hisp] at h9; exact h9), H⟩
    · have h1 := H.2 j (ready_mono hj hji)
      obtain ⟨hjun, oj, hoj, hall⟩ := mem_ready.1 hj
      have hnot : ∀ e ∈ oj.after, Region.binds md e = true → e.on ≠ i := fun e he hb heq => by
        have h1 := hall e he hb
        have h0 := (mem_ready.1 hr).1
        rw [heq, unl h0] at h1
        cases h1
      have h2 := wpOp_putIf hoj (hfree j oj hoj hji hjun hnot) (fun cs b => hsel i oi cs b hi) (fun cs b => hsel j oj cs b hoj) hQ hy h1
      have hfree' : ∀ k ok, ops[k]? = some ok → k ≠ i → (listed.setIfInBounds j true).getD k true = false →
          (∀ e ∈ ok.after, Region.binds md e = true → e.on ≠ i) → oi.apart ops ok = true := fun k ok hk hki hun hno => by
        refine hfree k ok hk hki ?_ hno
        by_cases hjk : j = k
        · subst hjk; exact hjun
        · rw [getD_set_ne true hjk] at hun; exact hun
      have hsame : ∀ w', SL sp S0 ((listed.setIfInBounds i true).setIfInBounds j true) w' → SL sp S0 (listed.setIfInBounds j true) w' := fun w' h9 h8 => h9 (by
        rw [Array.setIfInBounds_comm _ _ (Ne.symm hji), unsp_set hisp]; exact h8)
      refine wpOp_mono (fun a' w' h3 => ⟨hsame w' h3.2.1, ih (listed.setIfInBounds j true) a' w' hfree' (ready_mono hr (Ne.symm hji)) (hc.set hoj hall) (by simpa using hz) h3.1 (hsame w' h3.2.1) ?_⟩) h2
      rw [Array.setIfInBounds_comm _ _ hji]
      exact h3.2.2

/-- Taken first, by what holds till a spoiler has come up. -/
theorem wpAnyP_take {i : Nat} {oi : Oper} {v : Value} {fuel : Nat} {listed : Array Bool} {a : Act} {w : World} (hi : ops[i]? = some oi) (hs : Region.noSelect ops = true) (hf : Region.free md ops listed i = true) (hr : (Region.ready md ops listed).contains i = true) (hc : (closedB md ops listed && decide (listed.size = ops.size) && spWait md ops sp i) = true) (hQ : ∀ c a w, Q (.panic c) (a.put oi.dst v) w → Q (.panic c) a w) (hy : YieldsIf P ops S0 oi v a) (hS : S0 w)
    (h : wpAnyP P md ops Q sp S0 fuel (listed.setIfInBounds i true) (a.put oi.dst v) w) : wpAnyP P md ops Q sp S0 (fuel + 1) listed a w := by
  simp only [Bool.and_eq_true, decide_eq_true_eq] at hc
  exact wpAnyP_first hi (Region.noSelect_spec hs) hQ (spWait_not hc.2) (fun l w hcl hz hli hSL => hSL (spWait_un hc.2 hcl hz hli)) fuel listed a w (Region.free_spec hi hf) (by simpa using hr) (closedB_spec hc.1.1) hc.1.2 hy (fun _ => hS) h

/-- Taken first: it yields its value in whatever world. -/
theorem wpAnyP_take0 {i : Nat} {oi : Oper} {v : Value} {fuel : Nat} {listed : Array Bool} {a : Act} {w : World} (hi : ops[i]? = some oi) (hs : Region.noSelect ops = true) (hf : Region.free md ops listed i = true) (hr : (Region.ready md ops listed).contains i = true) (hc : (closedB md ops listed && decide (listed.size = ops.size) && !(sp.contains i)) = true) (hQ : ∀ c a w, Q (.panic c) (a.put oi.dst v) w → Q (.panic c) a w) (hy : YieldsIf P ops (fun _ => True) oi v a) (hS : SL sp S0 listed w)
    (h : wpAnyP P md ops Q sp S0 fuel (listed.setIfInBounds i true) (a.put oi.dst v) w) : wpAnyP P md ops Q sp S0 (fuel + 1) listed a w := by
  simp only [Bool.and_eq_true, decide_eq_true_eq, Bool.not_eq_true', ] at hc
  exact wpAnyP_first hi (Region.noSelect_spec hs) hQ (by simpa using hc.2) (fun _ _ _ _ _ _ => trivial) fuel listed a w (Region.free_spec hi hf) (by simpa using hr) (closedB_spec hc.1.1) hc.1.2 hy hS h

theorem wpAnyP_done {listed : Array Bool} {a : Act} {w : World} (hr : Region.ready md ops listed = []) (h : Q .normal a w) :
    ∀ fuel, wpAnyP P md ops Q sp S0 fuel listed a w
  | 0 => ⟨hr, h⟩
  | _ + 1 => ⟨fun _ => h, by rw [hr]; simp⟩

/-- Each of the operations comes up next. -/
def AllReadyP (P : Program) (md : Region.Mode) (ops : Array Oper) (Q : Exit → Act → World → Prop) (sp : List Nat) (S0 : World → Prop) (fuel : Nat) (listed : Array Bool) (a : Act) (w : World) (rs : List Nat) : Prop :=
  ∀ i ∈ rs, wpOp P ops Q i (fun a' w' => SL sp S0 (listed.setIfInBounds i true) w' ∧ wpAnyP P md ops Q sp S0 fuel (listed.setIfInBounds i true) a' w') a w

theorem AllReadyP.nil {fuel : Nat} {listed : Array Bool} {a : Act} {w : World} : AllReadyP P md ops Q sp S0 fuel listed a w [] := fun _ h => by cases h

theorem AllReadyP.cons {fuel : Nat} {listed : Array Bool} {a : Act} {w : World} {i : Nat} {o : Oper} {rs : List Nat} (ho : ops[i]? = some o)
    (h : ∀ K' : Act → World → Prop, Shut (∀ a w, S0 w → (S0 w → wpAnyP P md ops Q sp S0 fuel (listed.setIfInBounds i true) a w) → K' a w) → if Region.wanted o (yielded ops a.tmps) = true then Oper.wp P o a w K' Q else K' (a.put o.dst undef) w)
    (hs : AllReadyP P md ops Q sp S0 fuel listed a w rs) : AllReadyP P md ops Q sp S0 fuel listed a w (i :: rs) := fun j hj => by
  rcases List.mem_cons.1 hj with rfl | hj
  · exact wpOp_step ho (fun K' hK => h K' (fun a w hS hW => hK a w ⟨fun _ => hS, hW hS⟩))
  · exact hs j hj

/-- One that is a spoiler, or comes behind one. -/
theorem AllReadyP.consS {fuel : Nat} {listed : Array Bool} {a : Act} {w : World} {i : Nat} {o : Oper} {rs : List Nat} (ho : ops[i]? = some o) (hu : unsp sp (listed.setIfInBounds i true) = false)
    (h : ∀ K' : Act → World → Prop, Shut (∀ a w, wpAnyP P md ops Q sp S0 fuel (listed.setIfInBounds i true) a w → K' a w) → if Region.wanted o (yielded ops a.tmps) = true then Oper.wp P o a w K' Q else K' (a.put o.dst undef) w)
    (hs : AllReadyP P md ops Q sp S0 fuel listed a w rs) : AllReadyP P md ops Q sp S0 fuel listed a w (i :: rs) := fun j hj => by
  rcases List.mem_cons.1 hj with rfl | hj
  · exact wpOp_step ho (fun K' hK => h K' (fun a w hW => hK a w ⟨SL_of hu, hW⟩))
  · exact hs j hj

theorem wpAnyP_ready {rs : List Nat} {fuel : Nat} {listed : Array Bool} {a : Act} {w : World} (hr : Region.ready md ops listed = rs) (hne : rs ≠ [])
    (h : AllReadyP P md ops Q sp S0 fuel listed a w rs) : wpAnyP P md ops Q sp S0 (fuel + 1) listed a w := ⟨fun h0 => absurd (hr ▸ h0) hne, hr ▸ h⟩

theorem wp_region_P {id : Nat} {a : Act} {w : World} (sp : List Nat) (S0 : World → Prop) (hm : P.follows .mixedOrders = true) (hS : S0 w.drew)
    (h : S0 w.drew → wpAnyP P .any ops Q sp S0 ops.size (Array.replicate ops.size false) a w.drew) : (Code.region id ops true).wp P Q a w :=
  wp_region_any hm (wpAny_of_P _ _ _ _ (h hS))
end
end Go.Proofs.Ytflignpbboiahaa
/- Proved here: the copy of an operator's state, in the specification, in new memory. -/
namespace Go.Proofs.Ytflignpbboiahaa
open Go.ChangeShapes Go.WideShapes Go.ChangeAt Go.RowKit
set_option linter.unusedVariables false
set_option linter.unusedSimpArgs false
theorem own_upB {W W' : World} {B : Nat} {e : TypeId} {size n : Nat} {v : Value} {xs : List Value} (h : W.ownsRow B e size v n xs) (hb : ∀ b, v.ownBlock = some b → W'.heap[b]? = W.heap[b]?) : W'.ownsRow B e size v n xs := by
  rcases h with ⟨hl, h | ⟨g, cap, cur, rfl, hB, hblk, r⟩⟩
  · exact ⟨hl, Or.inl h⟩
  · exact ⟨hl, Or.inr ⟨g, cap, cur, rfl, hB, (hb g rfl).trans hblk, r⟩⟩
theorem newsOr {W : World} {a : Option Addr} {n : Nat} {xs : List OrR} {q : Addr} (h : OrRs W a n xs) (ha : a = some q) : ∀ j u, (flatOr xs)[j]? = some u → W.cell? (q.add j) = some u := by
  intro j u hu
  obtain ⟨h1, _, h3⟩ := h
  have hj : j < xs.length * 13 := by rw [← flatOr_len]; exact (List.getElem?_eq_some_iff.1 hu).1
  have hi : j / 13 < xs.length := by omega
  obtain ⟨g, o, e, hat⟩ := h3.resolve_left (by omega)
  rw [ha] at e
  cases e
  have e : ((⟨g, o, none⟩ : Addr).add j) = ⟨g, o + j, none⟩ := by
    unfold Addr.add
    split
    · rename_i h0; rw [h0]; rfl
    · rfl
  rw [e]
  obtain ⟨x, hx⟩ : ∃ x, xs[j / 13]? = some x := ⟨_, List.getElem?_eq_getElem hi⟩
  obtain ⟨f0, f1, f2, f3, f4, f5, f6, f7, f8, f9, f10, f11, f12⟩ := flatOr_get hx
  obtain ⟨c0, c1, c2, c3, c4, c5, c6, c7, c8, c9, c10, c11, c12⟩ := hat (j / 13) x hx
  have hmod : j = j / 13 * 13 ∨ j = j / 13 * 13 + 1 ∨ j = j / 13 * 13 + 2 ∨ j = j / 13 * 13 + 3 ∨ j = j / 13 * 13 + 4 ∨ j = j / 13 * 13 + 5 ∨ j = j / 13 * 13 + 6 ∨ j = j / 13 * 13 + 7 ∨ j = j / 13 * 13 + 8 ∨ j = j / 13 * 13 + 9 ∨ j = j / 13 * 13 + 10 ∨ j = j / 13 * 13 + 11 ∨ j = j / 13 * 13 + 12 := by omega
  rcases hmod with hj | hj | hj | hj | hj | hj | hj | hj | hj | hj | hj | hj | hj
  · rw [hj, f0] at hu; cases hu; rw [hj]; exact c0
  · rw [hj, f1] at hu; cases hu; rw [hj, ← Nat.add_assoc]; exact c1
  · rw [hj, f2] at hu; cases hu; rw [hj, ← Nat.add_assoc]; exact c2
  · rw [hj, f3] at hu; cases hu; rw [hj, ← Nat.add_assoc]; exact c3
  · rw [hj, f4] at hu; cases hu; rw [hj, ← Nat.add_assoc]; exact c4
  · rw [hj, f5] at hu; cases hu; rw [hj, ← Nat.add_assoc]; exact c5
  · rw [hj, f6] at hu; cases hu; rw [hj, ← Nat.add_assoc]; exact c6
  · rw [hj, f7] at hu; cases hu; rw [hj, ← Nat.add_assoc]; exact c7
  · rw [hj, f8] at hu; cases hu; rw [hj, ← Nat.add_assoc]; exact c8
  · rw [hj, f9] at hu; cases hu; rw [hj, ← Nat.add_assoc]; exact c9
  · rw [hj, f10] at hu; cases hu; rw [hj, ← Nat.add_assoc]; exact c10
  · rw [hj, f11] at hu; cases hu; rw [hj, ← Nat.add_assoc]; exact c11
  · rw [hj, f12] at hu; cases hu; rw [hj, ← Nat.add_assoc]; exact c12
theorem sliceC {W : World} {B : Nat} {e : TypeId} {size n : Nat} {v : Value} {xs : List Value} (h : W.ownsRow B e size v n xs) : ∃ a c, v = .slice a n c := by
  rcases h.2 with ⟨rfl, h0⟩ | ⟨g, cap, cur, rfl, _⟩
  · exact ⟨none, 0, by rw [h0]⟩
  · exact ⟨_, _, rfl⟩
theorem own_geV {W : World} {B : Nat} {e : TypeId} {s n : Nat} {v : Value} {xs : List Value} (h : W.ownsRow B e s v n xs) : ∀ q, v.ownBlock = some q → B ≤ q := fun q hq => (h.lt q hq).1
theorem blk_new {W : World} {g : Nat} {o : Obj} (hg : g = W.heap.size) : (W.alloc o).heap[g]? = some o := by
  subst hg
  exact heap_alloc_new _ _
theorem step_append_lit {P : Program} {o : Oper} {y : _} {a : Act} {w : World} {K : Act → World → Prop} {Q : Exit → Act → World → Prop} {E : Prop}
    (hg : o.guard = none) (s x : Operand) (t : TypeId) (hop : o.op = Op.call { callee := Callee.builtin Builtin.append, args := #[s, x], argTypes := #[t, t] })
    (e : TypeId) (i : TypeInfo) (z : Value) (size bytes : Nat) (h1 : P.underlying t = some (.slice e)) (h2 : P.info? e = some i) (h3 : i.zero = some z) (h4 : i.size = size) (h5 : i.bytes = bytes) (h6 : z.cells.size = size) (h7 : 0 < size)
    (g B : Nat) (hB : B ≤ g) (hs : a.eval s = .slice (some ⟨g, 0, none⟩) 0 0) (hlit : w.heap[g]? = some (.cells #[] e (0, 0)))
    (ao : Option Addr) (m c : Nat) (news : List Value) (hx : a.eval x = .slice ao m c) (hn : news.length = m * size) (hao : ao = none → m = 0) (hc : ∀ q, ao = some q → ∀ j u, news[j]? = some u → w.cell? (q.add j) = some u) (b1 : m ≤ maxLen) (b2 : m * bytes ≤ 140737488355328)
    (hK : ∀ v' w', w'.ownsRow B e size v' m news → Below w.heap.size w w' → (∀ b, v'.ownBlock = some b → b = g ∨ w.heap.size ≤ b ∧ b < w'.heap.size) → K (a.put o.dst v') w') :
    if Region.wanted o y = true then Oper.wp P o a w K Q else E := by
  have hw : Region.wanted o y = true := by simp [Region.wanted, hg]
  rw [if_pos hw]
  have hgl : g < w.heap.size := (Array.getElem?_eq_some_iff.1 hlit).1
  by_cases hm : m = 0
  · subst hm
    obtain rfl : news = [] := List.eq_nil_of_length_eq_zero (by simpa using hn)
    have hrun : (Builtin.append_ #[t, t] o.type #[.slice (some ⟨g, 0, none⟩) 0 0, .slice ao 0 c]).run P w = .ok (.slice (some ⟨g, 0, none⟩) 0 0) w := by
      cases ao <;> simp [Builtin.append_, run_underlying h1, sizeOf, typeInfo, h2, Builtin.lenOf, Builtin.firstCells, storeCells, loadCells, loadCellsFrom]
    unfold Oper.wp
    simp [execOp, hop, resolve, invoke, builtin, hs, hx, hrun, Result.andThen]
    exact hK _ _ ⟨by simp, Or.inr ⟨g, 0, #[], rfl, hB, hlit, Nat.le_refl _, by unfold maxLen; omega, by simp, by simp⟩⟩ (Below.refl _ _) (fun b hb => Or.inl (by simpa [Value.ownBlock] using hb.symm))
  · cases ao with
    | none => exact absurd (hao rfl) hm
    | some q =>
      obtain ⟨v', w', hrun, r1, r2⟩ := run_append_arg_grows (P := P) w t o.type e i z size bytes h1 h2 h3 h4 h5 h6 h7 ⟨g, 0, none⟩ 0 0 [] (by simp) (fun j u hj => by simp at hj) q m c news hn (hc q rfl) (by omega) (by omega) (by simpa using b2)
      rw [Nat.zero_add, List.nil_append] at r1
      have hb : Below w.heap.size w w' := (Below.refl _ w).grown r2 (Nat.le_refl _) (fun k hk => by cases hk)
      unfold Oper.wp
      simp [execOp, hop, resolve, invoke, builtin, hs, hx, hrun, Result.andThen]
      exact hK _ _ (World.ownsRow.mono r1 (by omega)) hb (fun b hb' => Or.inr (World.ownsRow.lt r1 b hb'))
theorem own_setC {W : World} {p : Addr} {u : Value} {B : Nat} {e : TypeId} {size n : Nat} {v : Value} {xs : List Value} (h : W.ownsRow B e size v n xs) (hp : p.block < B) : (W.setCell p u).ownsRow B e size v n xs := own_upB h (fun b hv => Below.heap_setCell _ _ _ _ (fun e => by have := own_geV h b hv; omega))
set_option maxRecDepth 20000 in
set_option maxHeartbeats 4000000 in
theorem l7copyG_any (m : Int) (a : Option Addr) (len cap : Nat) (xs : List OrR) (w : World) (h : OrRs w a len xs) (hl : len ≤ 1048576) : Calls Try.prog 19 #[.agg #[.int .i64 m, .slice a len cap]] w fun e w' => ∃ v, e = .returned (.agg #[.int .i64 m, v]) ∧ w'.ownsRow (w.heap.size + 2) 66 13 v len (flatOr xs) ∧ Below w.heap.size w w' := by
  obtain ⟨i0, hi, hz0, hz1, hz2⟩ := info_parts Try.infoOr
  have hxl := h.1
  have hnil : a = none → len = 0 := fun e => by
    rcases h.2.2 with h9 | ⟨g, o, e2, _⟩
    · exact h9
    · rw [e] at e2; cases e2
  have hb0 : Below w.heap.size w (((w.alloc (.cells #[.int .i64 m, .slice a len cap] 30)).alloc (.cells #[.int .i64 0, .slice none 0 0] 30)).drew.alloc (.cells #[] 66)) := bel_alloc (bel_drew (bel_alloc (bel_one _ _) _)) _
  have HG := h.below hb0
  have hLit : (((w.alloc (.cells #[.int .i64 m, .slice a len cap] 30)).alloc (.cells #[.int .i64 0, .slice none 0 0] 30)).drew.alloc (.cells #[] 66)).heap[w.heap.size + 1 + 1]? = some (.cells #[] 66 (0, 0)) := blk_new (by simp)
  have hY0 : (((w.alloc (.cells #[.int .i64 m, .slice a len cap] 30)).alloc (.cells #[.int .i64 0, .slice none 0 0] 30)).drew.alloc (.cells #[] 66)).heap[w.heap.size + 1]? = some (.cells #[.int .i64 0, .slice none 0 0] 30 (0, 0)) := ((bel_one ((w.alloc (.cells #[.int .i64 m, .slice a len cap] 30)).alloc (.cells #[.int .i64 0, .slice none 0 0] 30)).drew (.cells #[] 66)).block _ (by simp)).trans (blk_new (by simp))
  go_enter Try.func19, Try.ntmps19
  go_wp2_with fail
  refine wp_region_P [] (fun W => W.cell? ⟨w.heap.size, 0, none⟩ = some (.int .i64 m) ∧ W.cell? ⟨w.heap.size, 1, none⟩ = some (.slice a len cap)) (by kernel_rfl) ?_ (fun hHeld => ?_)
  · (try dsimp only); exact ⟨by first | (with_reducible assumption) | (simp [go_sem, *]; done), by first | (with_reducible assumption) | (simp [go_sem, *]; done)⟩
  refine wpAnyP_take (i := 0) (v := ?_) (by simp only [List.getElem?_toArray, List.getElem?_cons_zero, List.getElem?_cons_succ]; rfl) (by kernel_rfl) (by kernel_rfl) (by kernel_rfl) (by kernel_rfl) (by intro _ _ _ h; exact h) (Or.inl ⟨by rfl, ?_⟩) (by assumption) ?_
  rotate_left
  · (intro w9 hSw; (try dsimp only at hSw); go_simp <;> with_reducible rfl)
  try simp only [Act.put, List.setIfInBounds_toArray, List.set_cons_zero, List.set_cons_succ]
  refine wpAnyP_take (i := 1) (v := ?_) (by simp only [List.getElem?_toArray, List.getElem?_cons_zero, List.getElem?_cons_succ]; rfl) (by kernel_rfl) (by kernel_rfl) (by kernel_rfl) (by kernel_rfl) (by intro _ _ _ h; exact h) (Or.inl ⟨by rfl, ?_⟩) (by assumption) ?_
  rotate_left
  · (intro w9 hSw; (try dsimp only at hSw); go_simp <;> with_reducible rfl)
  try simp only [Act.put, List.setIfInBounds_toArray, List.set_cons_zero, List.set_cons_succ]
  refine wpAnyP_take (i := 3) (v := ?_) (by simp only [List.getElem?_toArray, List.getElem?_cons_zero, List.getElem?_cons_succ]; rfl) (by kernel_rfl) (by kernel_rfl) (by kernel_rfl) (by kernel_rfl) (by intro _ _ _ h; exact h) (Or.inl ⟨by rfl, ?_⟩) (by assumption) ?_
  rotate_left
  · (intro w9 hSw; (try dsimp only at hSw); go_simp <;> with_reducible rfl)
  try simp only [Act.put, List.setIfInBounds_toArray, List.set_cons_zero, List.set_cons_succ]
  refine wpAnyP_take (i := 4) (v := ?_) (by simp only [List.getElem?_toArray, List.getElem?_cons_zero, List.getElem?_cons_succ]; rfl) (by kernel_rfl) (by kernel_rfl) (by kernel_rfl) (by kernel_rfl) (by intro _ _ _ h; exact h) (Or.inl ⟨by rfl, ?_⟩) (by assumption) ?_
  rotate_left
  · (intro w9 hSw; (try dsimp only at hSw); go_simp <;> with_reducible rfl)
  try simp only [Act.put, List.setIfInBounds_toArray, List.set_cons_zero, List.set_cons_succ]
  refine wpAnyP_ready (rs := [2]) (by kernel_rfl) (by simp) ?_
  refine AllReadyP.cons (by simp only [List.getElem?_toArray, List.getElem?_cons_zero, List.getElem?_cons_succ]; rfl) (fun K hK => ?_) AllReadyP.nil
  go_simp
  refine hK.out _ _ ?_ (fun hHeld2 => ?_)
  · (try dsimp only); exact ⟨by first | (with_reducible assumption) | (simp [go_sem, *]; done), by first | (with_reducible assumption) | (simp [go_sem, *]; done)⟩
  clear hK K hHeld
  have hHeld := hHeld2
  clear hHeld2
  try simp only [Act.put, List.setIfInBounds_toArray, List.set_cons_zero, List.set_cons_succ]
  refine wpAnyP_ready (rs := [5]) (by kernel_rfl) (by simp) ?_
  refine AllReadyP.cons (by simp only [List.getElem?_toArray, List.getElem?_cons_zero, List.getElem?_cons_succ]; rfl) (fun K hK => ?_) AllReadyP.nil
  (refine step_append_lit rfl _ _ 28 rfl 66 i0 _ 13 104 Try.underlying28 hi hz0 hz1 hz2 rfl (by decide) (w.heap.size + 1 + 1) (w.heap.size + 2) (by omega) rfl hLit _ len _ (flatOr xs) rfl (by rw [flatOr_len, hxl]) hnil (fun q hq => newsOr HG hq) (by unfold maxLen; omega) (by omega) ?_; intro v' W' hown hbW hblk; obtain ⟨va, vc, rfl⟩ := sliceC hown; have hY := (hbW.block (w.heap.size + 1) (by simp)).trans hY0; have gz : w.heap.size + 1 < W'.heap.size := (by have h9 := hbW.size; (try simp at h9); omega); have g0 : W'.cell? ⟨w.heap.size, 0, none⟩ = some (.int .i64 m) := (hbW.cell (p := ⟨w.heap.size, 0, none⟩) (by simp; omega)).trans (by simp [go_sem]); have g1 : W'.cell? ⟨w.heap.size, 1, none⟩ = some (.slice a len cap) := (hbW.cell (p := ⟨w.heap.size, 1, none⟩) (by simp; omega)).trans (by simp [go_sem]); have r0 : W'.cell? ⟨w.heap.size + 1, 0, none⟩ = some (.int .i64 0) := (by simp [World.cell?, hY, go_sem]); have r1 : W'.cell? ⟨w.heap.size + 1, 1, none⟩ = some (.slice none 0 0) := (by simp [World.cell?, hY, go_sem]); have f0 : W'.frozen? ⟨w.heap.size + 1, 0, none⟩ = false := (by simp [World.frozen?, hY, go_sem]); have f1 : W'.frozen? ⟨w.heap.size + 1, 1, none⟩ = false := (by simp [World.frozen?, hY, go_sem]); have Ho := hide hown; have hbF := bel_trans hb0 hbW; clear hown hY)
  refine hK.out _ _ ?_ (fun hHeld2 => ?_)
  · (try dsimp only); exact ⟨by first | (with_reducible assumption) | (simp [go_sem, *]; done), by first | (with_reducible assumption) | (simp [go_sem, *]; done)⟩
  clear hK K hHeld
  have hHeld := hHeld2
  clear hHeld2
  try simp only [Act.put, List.setIfInBounds_toArray, List.set_cons_zero, List.set_cons_succ]
  refine wpAnyP_take (i := 6) (v := ?_) (by simp only [List.getElem?_toArray, List.getElem?_cons_zero, List.getElem?_cons_succ]; rfl) (by kernel_rfl) (by kernel_rfl) (by kernel_rfl) (by kernel_rfl) (by intro _ _ _ h; exact h) (Or.inl ⟨by rfl, ?_⟩) (by assumption) ?_
  rotate_left
  · (intro w9 hSw; (try dsimp only at hSw); go_simp <;> with_reducible rfl)
  try simp only [Act.put, List.setIfInBounds_toArray, List.set_cons_zero, List.set_cons_succ]
  refine wpAnyP_ready (rs := [7]) (by kernel_rfl) (by simp) ?_
  refine AllReadyP.cons (by simp only [List.getElem?_toArray, List.getElem?_cons_zero, List.getElem?_cons_succ]; rfl) (fun K hK => ?_) AllReadyP.nil
  go_simp
  refine hK.out _ _ ?_ (fun hHeld2 => ?_)
  · (try dsimp only); exact ⟨by first | (with_reducible assumption) | (simp [go_sem, *]; done), by first | (with_reducible assumption) | (simp [go_sem, *]; done)⟩
  clear hK K hHeld
  have hHeld := hHeld2
  clear hHeld2
  try simp only [Act.put, List.setIfInBounds_toArray, List.set_cons_zero, List.set_cons_succ]
  refine wpAnyP_done (by kernel_rfl) ?_ _
  go_wp2
  refine bodyPost_ret (v := .agg #[.int .i64 m, .slice va len vc]) (by simp (maxDischargeDepth := 9) [results, Try.results19, go_sem, *]) rfl ⟨_, rfl, ?_, ?_⟩
  · repeat (first | (with_reducible exact unhide Ho) | (with_reducible refine own_setC ?_ (by simp)))
  · repeat (first | (with_reducible exact hbF) | (with_reducible refine bel_set ?_ (by simp) _))

end Go.Proofs.Ytflignpbboiahaa
/- Proved here: an operator is told a mark, in the specification. -/
namespace Go.Proofs.Ytflignpbboiahaa
open Go.ChangeShapes Go.WideShapes Go.ChangeAt Go.RowKit Go.Shelf Go.Maps
set_option linter.unusedVariables false

set_option linter.unusedSimpArgs false
set_option maxRecDepth 20000 in
set_option maxHeartbeats 2000000 in
theorem l7pane_any (s t k z q l e : Int) (b : Bool) (v r : Int) (x : OrR) (kd : Int) (w : World) : Calls Try.prog 34 #[.agg #[.int .i64 s, .int .i64 t, .int .i64 k, .int .i64 z, .int .i64 q, .int .i64 l, .int .i64 e, .bool b, .int .i64 v, .int .i64 r], .agg #[.int .i64 x.ky, .int .i64 x.st, .int .i64 x.en, .int .i64 x.an, .int .i64 x.asu, .int .i64 x.ale, .int .i64 x.amo, .int .i64 x.fn, .int .i64 x.fsu, .int .i64 x.fle, .int .i64 x.fmo, .int .i64 x.td, .bool x.tm], .int .i64 kd] w fun e' w' => e' = .returned (.agg #[.int .i64 x.ky, .int .i64 x.st, .int .i64 x.en, .int .i64 x.td, .int .i64 kd, .int .i64 (if b = true then x.fn else x.an), .int .i64 (if b = true then x.fsu else x.asu), .int .i64 (if b = true then x.fle else x.ale), .int .i64 (if b = true then x.fmo else x.amo)]) ∧ Below w.heap.size w w' := by
  obtain ⟨ky, st, en, an, asu, ale, amo, fn, fsu, fle, fmo, td, tm⟩ := x
  dsimp only
  cases b
  · go_enter Try.func34, Try.ntmps34
    go_wp2
    refine bodyPost_ret (v := .agg #[.int .i64 ky, .int .i64 st, .int .i64 en, .int .i64 td, .int .i64 kd, .int .i64 an, .int .i64 asu, .int .i64 ale, .int .i64 amo]) (by simp (maxDischargeDepth := 9) [results, Try.results34, go_sem, *]) rfl ⟨by simp, ?_⟩
    repeat (first | exact Below.refl _ _ | refine bel_set ?_ (by first | (simp; done) | (simp; omega)) _ | refine bel_alloc ?_ _)
  · go_enter Try.func34, Try.ntmps34
    go_wp2
    refine bodyPost_ret (v := .agg #[.int .i64 ky, .int .i64 st, .int .i64 en, .int .i64 td, .int .i64 kd, .int .i64 fn, .int .i64 fsu, .int .i64 fle, .int .i64 fmo]) (by simp (maxDischargeDepth := 9) [results, Try.results34, go_sem, *]) rfl ⟨by simp, ?_⟩
    repeat (first | exact Below.refl _ _ | refine bel_set ?_ (by first | (simp; done) | (simp; omega)) _ | refine bel_alloc ?_ _)
end Go.Proofs.Ytflignpbboiahaa
/- Proved here, for any program: a slice of the call's own stays so where older memory stays as it is. -/
namespace Go.Proofs.Ytflignpbboiahaa
open Go.ChangeShapes Go.WideShapes Go.ChangeAt Go.RowKit
set_option linter.unusedVariables false

theorem ownBel {W W' : World} {B : Nat} {e : TypeId} {size n : Nat} {v : Value} {xs : List Value} (h : W.ownsRow B e size v n xs) (hb : Below W.heap.size W W') : W'.ownsRow B e size v n xs := by
  rcases h with ⟨hl, h | ⟨g, cap, cur, hv, hB, hblk, r⟩⟩
  · exact ⟨hl, Or.inl h⟩
  · exact ⟨hl, Or.inr ⟨g, cap, cur, hv, hB, (hb.block g (Array.getElem?_eq_some_iff.1 hblk).1).trans hblk, r⟩⟩
theorem belDrew {B : Nat} {W W' : World} (h : Below B W W') (n : Nat) : Below B W (W'.drewN n) := h.trans ⟨rfl, rfl, rfl, Nat.le_refl _, fun _ _ => rfl⟩

theorem ownLit {W : World} {B g : Nat} (ty k : Nat) (h : B ≤ W.heap.size) (hg : g = W.heap.size) : (W.alloc (.cells #[] ty)).ownsRow B ty k (.slice (some ⟨g, 0, none⟩) 0 0) 0 [] := by
  subst hg
  exact World.ownsRow_lit (base := B) (size := k) W #[] 0 h (Nat.zero_le _) (by simp)
end Go.Proofs.Ytflignpbboiahaa
/- Proved here: an operator is told a mark, in the specification: row by row. -/
namespace Go.Proofs.Ytflignpbboiahaa
open Go.ChangeShapes Go.WideShapes Go.ChangeAt Go.RowKit Go.Shelf Go.Maps
set_option linter.unusedVariables false

set_option linter.unusedSimpArgs false
theorem mkRows_snoc {l mark : Int} {xs : List OrR} {i : Nat} {x : OrR} (h : xs[i]? = some x) : mkRows l mark (xs.take (i + 1)) = if decide (mark < (mkRow mark x).en + l) = true then mkRows l mark (xs.take i) ++ [mkRow mark x] else mkRows l mark (xs.take i) := by
  unfold mkRows
  rw [List.take_add_one, h, List.map_append, List.filter_append]
  simp only [Option.toList, List.map_cons, List.map_nil, List.filter_cons, List.filter_nil]
  split <;> simp
theorem mkPans_snoc {b : Bool} {mark : Int} {xs : List OrR} {i : Nat} {x : OrR} (h : xs[i]? = some x) : mkPans b mark (xs.take (i + 1)) = mkPans b mark (xs.take i) ++ (if mkTel mark x = true then [mkPan b x] else []) := by
  unfold mkPans
  rw [List.take_add_one, h, List.filter_append, List.map_append]
  simp only [Option.toList, List.filter_cons, List.filter_nil]
  split <;> simp
theorem mkRows_le (l mark : Int) (xs : List OrR) : (mkRows l mark xs).length ≤ xs.length := by
  unfold mkRows
  refine Nat.le_trans (List.length_filter_le _ _) ?_
  rw [List.length_map]
  exact Nat.le_refl _
theorem mkPans_le (b : Bool) (mark : Int) (xs : List OrR) : (mkPans b mark xs).length ≤ xs.length := by
  unfold mkPans
  rw [List.length_map]
  exact List.length_filter_le _ _
theorem own_gP {W W' : World} {row : Option Nat} {B size n : Nat} {e : TypeId} {v : Value} {ys : List Value} (h : W.ownsRow B e size v n ys) (hg : W.grownBy W' row) (hne : ∀ k, row = some k → v.ownBlock ≠ some k) : W'.ownsRow B e size v n ys := by
  rcases h with ⟨hl, h | ⟨q, cap, cur, rfl, hB, hblk, r⟩⟩
  · exact ⟨hl, Or.inl h⟩
  · exact ⟨hl, Or.inr ⟨q, cap, cur, rfl, hB, (hg.block q (Array.getElem?_eq_some_iff.1 hblk).1 (fun e9 => hne q e9.symm rfl)).trans hblk, r⟩⟩
theorem own_no_both {W : World} {B B' size size' n n' : Nat} {e e' : TypeId} {v v' : Value} {ys ys' : List Value} (h : W.ownsRow B e size v n ys) (h' : W.ownsRow B' e' size' v' n' ys') (hne : e' ≠ e) : ∀ k, v.ownBlock = some k → v'.ownBlock ≠ some k := by
  intro k hk hk'
  rcases h'.2 with ⟨rfl, _⟩ | ⟨g, cap, cur, rfl, _, hgb, _⟩
  · cases hk'
  · simp [Value.ownBlock] at hk'
    subst hk'
    exact own_ne_ty h hgb hne hk

set_option maxRecDepth 100000 in
set_option maxHeartbeats 8000000 in
theorem l7mark_t (s t k z q l e : Int) (b : Bool) (v r m : Int) (a : Option Addr) (len cap : Nat) (xs : List OrR) (mark : Int) (w : World) (h : OrRs w a len xs) (hm : m < mark) (hl : 0 ≤ l ∧ l ≤ 20) (hx : ∀ x ∈ xs, (0 ≤ x.en ∧ x.en ≤ 1000) ∧ 0 ≤ x.td ∧ x.td ≤ 100000) (hlen : len ≤ 1000) : Calls Try.prog 18 #[.agg #[.int .i64 s, .int .i64 t, .int .i64 k, .int .i64 z, .int .i64 q, .int .i64 l, .int .i64 e, .bool b, .int .i64 v, .int .i64 r], .agg #[.int .i64 m, .slice a len cap], .int .i64 mark] w fun e' w' => ∃ v1 v2, e' = .returned (.tuple #[.agg #[.int .i64 mark, v1], v2]) ∧ OwnOr w' w.heap.size v1 (mkRows l mark xs) ∧ OwnPn w' w.heap.size v2 (mkPans b mark xs) ∧ Below w.heap.size w w' := by
  obtain ⟨i0, hi, hz0', hz1', hz2'⟩ := info_parts Try.infoOr
  obtain ⟨i1, hi1, hy0, hy1, hy2⟩ := info_parts Try.infoPn
  have hxl := h.1
  have hnm : ¬ mark ≤ m := by omega
  go_enter Try.func18, Try.ntmps18
  go_wp2
  go_loopw [8, 9, 10] (fun pv rv iv wr => ∃ i : Nat, i ≤ len ∧ iv = .int .i64 i ∧ Hid (OwnPn wr (w.heap.size + 1 + 1 + 1) pv (mkPans b mark (xs.take i))) ∧ Hid (OwnOr wr (w.heap.size + 1 + 1 + 1) rv (mkRows l mark (xs.take i))) ∧ wr.heap[w.heap.size]? = some (.cells #[.int .i64 s, .int .i64 t, .int .i64 k, .int .i64 z, .int .i64 q, .int .i64 l, .int .i64 e, .bool b, .int .i64 v, .int .i64 r] 34 (0, 0)) ∧ wr.heap[w.heap.size + 1]? = some (.cells #[.int .i64 mark, .slice a len cap] 30 (0, 0)) ∧ wr.heap[w.heap.size + 1 + 1]? = some (.cells #[.int .i64 0, .slice none 0 0] 30 (0, 0)) ∧ Below w.heap.size w wr) (fun _ _ iv _ => len - (intOf iv).toNat)
  case atStart =>
    refine ⟨0, Nat.zero_le _, rfl, hide ?_, hide ?_, ?_, ?_, ?_, bel_alloc (bel_alloc (bel_alloc (bel_alloc (bel_one _ _) _) _) _) _⟩
    · rw [List.take_zero]
      exact World.ownsRow.alloc (ownLit (W := ((w.alloc (.cells #[.int .i64 s, .int .i64 t, .int .i64 k, .int .i64 z, .int .i64 q, .int .i64 l, .int .i64 e, .bool b, .int .i64 v, .int .i64 r] 34)).alloc (.cells #[.int .i64 mark, .slice a len cap] 30)).alloc (.cells #[.int .i64 0, .slice none 0 0] 30)) (B := w.heap.size + 1 + 1 + 1) _ _ (by simp) (by simp)) _
    · rw [List.take_zero]
      exact ownLit (W := (((w.alloc (.cells #[.int .i64 s, .int .i64 t, .int .i64 k, .int .i64 z, .int .i64 q, .int .i64 l, .int .i64 e, .bool b, .int .i64 v, .int .i64 r] 34)).alloc (.cells #[.int .i64 mark, .slice a len cap] 30)).alloc (.cells #[.int .i64 0, .slice none 0 0] 30)).alloc (.cells #[] 62)) (B := w.heap.size + 1 + 1 + 1) _ _ (by simp) (by simp)
    · exact (Below.heap_alloc _ _ _ (by first | (simp; done) | (simp; omega))).trans ((Below.heap_alloc _ _ _ (by first | (simp; done) | (simp; omega))).trans ((Below.heap_alloc _ _ _ (by first | (simp; done) | (simp; omega))).trans ((Below.heap_alloc _ _ _ (by simp)).trans (World.alloc_heap_new w _))))
    · refine (Below.heap_alloc _ _ _ (by first | (simp; done) | (simp; omega))).trans ((Below.heap_alloc _ _ _ (by first | (simp; done) | (simp; omega))).trans ((Below.heap_alloc _ _ _ (by simp)).trans ?_))
      have h9 := World.alloc_heap_new (w.alloc (.cells #[.int .i64 s, .int .i64 t, .int .i64 k, .int .i64 z, .int .i64 q, .int .i64 l, .int .i64 e, .bool b, .int .i64 v, .int .i64 r] 34)) (.cells #[.int .i64 mark, .slice a len cap] 30)
      rw [World.size_alloc] at h9
      exact h9
    · refine (Below.heap_alloc _ _ _ (by first | (simp; done) | (simp; omega))).trans ((Below.heap_alloc _ _ _ (by simp)).trans ?_)
      have h9 := World.alloc_heap_new ((w.alloc (.cells #[.int .i64 s, .int .i64 t, .int .i64 k, .int .i64 z, .int .i64 q, .int .i64 l, .int .i64 e, .bool b, .int .i64 v, .int .i64 r] 34)).alloc (.cells #[.int .i64 mark, .slice a len cap] 30)) (.cells #[.int .i64 0, .slice none 0 0] 30)
      rw [World.size_alloc, World.size_alloc] at h9
      exact h9
  case round =>
    obtain ⟨i, hil, rfl, HP, HO, bJ, bS, bR, hbw⟩ := hrel
    have hzr : w.heap.size + 1 + 1 + 1 ≤ wr.heap.size := by have := (Array.getElem?_eq_some_iff.1 bR).1; omega
    have hPl := mkPans_le b mark (xs.take i)
    have hOl := mkRows_le l mark (xs.take i)
    rw [List.length_take] at hPl hOl
    have s1 : wr.cell? ⟨w.heap.size + 1, 1, none⟩ = some (.slice a len cap) := Joins.cell_of_block bS 1
    have hzs : w.heap.size + 1 < wr.heap.size := by omega
    by_cases hlt : i < len
    · obtain ⟨_, _, hy⟩ := h
      obtain ⟨g, o, rfl, hr⟩ := hy.resolve_left (by omega)
      obtain ⟨x, hxk⟩ : ∃ x, xs[i]? = some x := ⟨_, List.getElem?_eq_getElem (by omega)⟩
      have hg : g < w.heap.size := hr.lt (by omega)
      obtain ⟨d0, d1, d2, d3, d4, d5, d6, d7, d8, d9, d10, d11, d12⟩ := (hr i _ hxk).below hbw hg
      have hxx := hx x (List.mem_of_getElem? hxk)
      have Hxk := hide hxk
      have hgr : g < wr.heap.size := by omega
      clear hr hy hxk
      obtain ⟨ky, st, en, an, asu, ale, amo, fn, fsu, fle, fmo, td, tm⟩ := x
      dsimp only at d0 d1 d2 d3 d4 d5 d6 d7 d8 d9 d10 d11 d12 hxx
      cases tm with
      | true =>
        have Hmt : Hid (mkTel mark (⟨ky, st, en, an, asu, ale, amo, fn, fsu, fle, fmo, td, true⟩ : OrR) = false) := hide rfl
        have HPn2 : Hid (mkPans b mark (xs.take (i + 1)) = mkPans b mark (xs.take i)) := hide (by rw [mkPans_snoc (unhide Hxk), unhide Hmt]; exact List.append_nil _)
        have Htl : Hid (mkRow mark (⟨ky, st, en, an, asu, ale, amo, fn, fsu, fle, fmo, td, true⟩ : OrR) = (⟨ky, st, en, an, asu, ale, amo, fn, fsu, fle, fmo, td, true⟩ : OrR)) := hide (by unfold mkRow; rw [unhide Hmt]; rfl)
        go_upto_region 9 with fail
        go_cut [11] (fun pv W => pv = .pointer (some ⟨wr.heap.size, 0, none⟩) ∧ W.heap[wr.heap.size]? = some (.cells #[.int .i64 ky, .int .i64 st, .int .i64 en, .int .i64 an, .int .i64 asu, .int .i64 ale, .int .i64 amo, .int .i64 fn, .int .i64 fsu, .int .i64 fle, .int .i64 fmo, .int .i64 td, .bool true] 66 (0, 0)) ∧ W.heap[w.heap.size]? = some (.cells #[.int .i64 s, .int .i64 t, .int .i64 k, .int .i64 z, .int .i64 q, .int .i64 l, .int .i64 e, .bool b, .int .i64 v, .int .i64 r] 34 (0, 0)) ∧ W.heap[w.heap.size + 1]? = some (.cells #[.int .i64 mark, .slice (some ⟨g, o, none⟩) len cap] 30 (0, 0)) ∧ W.heap[w.heap.size + 1 + 1]? = some (.cells #[.int .i64 0, .slice none 0 0] 30 (0, 0)) ∧ Hid (OwnPn W (w.heap.size + 1 + 1 + 1) u8 (mkPans b mark (xs.take (i + 1)))) ∧ Hid (OwnOr W (w.heap.size + 1 + 1 + 1) u9 (mkRows l mark (xs.take i))) ∧ Below w.heap.size w W ∧ w.heap.size + 1 + 1 + 1 ≤ W.heap.size)
        case first =>
          go_wp2
          go_meet
          exact ⟨rfl, World.alloc_heap_new wr _, (Below.heap_alloc wr _ _ (Array.getElem?_eq_some_iff.1 bJ).1).trans bJ, (Below.heap_alloc wr _ _ (Array.getElem?_eq_some_iff.1 bS).1).trans bS, (Below.heap_alloc wr _ _ (Array.getElem?_eq_some_iff.1 bR).1).trans bR, hide ((by rw [unhide HPn2]; exact World.ownsRow.alloc (unhide HP) _)), hide (World.ownsRow.alloc (unhide HO) _), bel_alloc hbw _, (by simp; omega)⟩
        case rest =>
          rename World => wq
          obtain ⟨rfl, bG1, bJ1, bS1, bR1, HP1, HO1, hb1, hz1⟩ := hcut
          clear HP HO bJ bS bR hbw s1 d0 d1 d2 d3 d4 d5 d6 d7 d8 d9 d10 d11 d12
          have g0 := Joins.cell_of_block bG1 0
          have g1 := Joins.cell_of_block bG1 1
          have g2 := Joins.cell_of_block bG1 2
          have g3 := Joins.cell_of_block bG1 3
          have g4 := Joins.cell_of_block bG1 4
          have g5 := Joins.cell_of_block bG1 5
          have g6 := Joins.cell_of_block bG1 6
          have g7 := Joins.cell_of_block bG1 7
          have g8 := Joins.cell_of_block bG1 8
          have g9 := Joins.cell_of_block bG1 9
          have g10 := Joins.cell_of_block bG1 10
          have g11 := Joins.cell_of_block bG1 11
          have g12 := Joins.cell_of_block bG1 12
          have c5 := Joins.cell_of_block bJ1 5
          simp only [List.getElem?_toArray, List.getElem?_cons_zero, List.getElem?_cons_succ] at g0 g1 g2 g3 g4 g5 g6 g7 g8 g9 g10 g11 g12 c5
          have hwr2 : IntKind.i64.wrap (en + l) = en + l := IntWalk.i64_in _ ⟨by omega, by omega⟩
          have zG : wr.heap.size < wq.heap.size := (Array.getElem?_eq_some_iff.1 bG1).1
          by_cases hkp : mark < en + l
          · have HROW : Hid (mkRows l mark (xs.take (i + 1)) = mkRows l mark (xs.take i) ++ [⟨ky, st, en, an, asu, ale, amo, fn, fsu, fle, fmo, td, true⟩]) := hide (by rw [mkRows_snoc (unhide Hxk), unhide Htl]; exact if_pos (by exact decide_eq_true hkp))
            have dk : decide (mark < en + l) = true := decide_eq_true hkp
            have hge := hide (fun b9 (hb9 : u9.ownBlock = some b9) => (World.ownsRow.lt (unhide HO1) b9 hb9).1)
            go_wp2_with (at_builtin; go_loud (refine wpList_append_own _ rfl _ _ 28 rfl (w.heap.size + 1 + 1 + 1) 66 i0 _ 13 104 Try.underlying28 hi hz0' hz1' hz2' rfl (by decide) u9 _ _ rfl (World.ownsRow.alloc (unhide HO1) _) ⟨wq.heap.size, 0, none⟩ 1 1 [.int .i64 ky, .int .i64 st, .int .i64 en, .int .i64 an, .int .i64 asu, .int .i64 ale, .int .i64 amo, .int .i64 fn, .int .i64 fsu, .int .i64 fle, .int .i64 fmo, .int .i64 td, .bool true] rfl rfl (cells_newOr wq _ _ _ _ _ _ _ _ _ _ _ _ _ _) (by simp [Value.oneCell']) (by unfold maxLen; omega) (by omega) (by simp; omega) ?_); intro v' w5 hown hgrow hnn)
            have hne : ∀ (b9 : Nat) (cs : Array Value) (ty : TypeId), wq.heap[b9]? = some (.cells cs ty (0, 0)) → ty ≠ 66 → w5.heap[b9]? = some (.cells cs ty (0, 0)) := fun b9 cs ty h9 h8 => (hgrow.block b9 (by have := (Array.getElem?_eq_some_iff.1 h9).1; simp; omega) (fun e9 => own_ne_ty (unhide HO1) h9 h8 e9.symm)).trans ((Below.heap_alloc _ _ _ (Array.getElem?_eq_some_iff.1 h9).1).trans h9)
            have bJ5 := hne _ _ _ bJ1 (by decide)
            have bS5 := hne _ _ _ bS1 (by decide)
            have bR5 := hne _ _ _ bR1 (by decide)
            have hb5 : Below w.heap.size w w5 := (bel_alloc hb1 _).grown hgrow (by have := hb1.size; simp; omega) (fun k9 e9 => by have := unhide hge k9 e9; omega)
            have hP5 : Hid (OwnPn w5 (w.heap.size + 1 + 1 + 1) u8 (mkPans b mark (xs.take (i + 1)))) := hide (by
              have h9 : OwnPn (wq.alloc (.cells #[.int .i64 ky, .int .i64 st, .int .i64 en, .int .i64 an, .int .i64 asu, .int .i64 ale, .int .i64 amo, .int .i64 fn, .int .i64 fsu, .int .i64 fle, .int .i64 fmo, .int .i64 td, .bool true] 66)) (w.heap.size + 1 + 1 + 1) u8 (mkPans b mark (xs.take (i + 1))) := World.ownsRow.alloc (unhide HP1) _
              exact own_gP h9 hgrow (fun k9 e9 => own_no_both (World.ownsRow.alloc (unhide HO1) _) h9 (by decide) k9 e9))
            have hO5 : Hid (OwnOr w5 (w.heap.size + 1 + 1 + 1) v' (mkRows l mark (xs.take (i + 1)))) := hide (by rw [unhide HROW]; exact ownOr_snoc hown)
            clear g0 g1 g2 g3 g4 g5 g6 g7 g8 g9 g10 g11 g12 c5 hown hgrow hne
            go_wp2
            refine ⟨⟨i + 1, by omega, by go_num, hP5, hO5, bJ5, bS5, bR5, hb5⟩, by simp [intOf]; omega⟩
          · have HROW : Hid (mkRows l mark (xs.take (i + 1)) = mkRows l mark (xs.take i)) := hide (by rw [mkRows_snoc (unhide Hxk), unhide Htl]; exact (if_neg (fun h9 => hkp (of_decide_eq_true h9))))
            have dk : decide (mark < en + l) = false := decide_eq_false hkp
            go_wp2
            refine ⟨⟨i + 1, by omega, by go_num, HP1, (by rw [unhide HROW]; exact HO1), bJ1, bS1, bR1, hb1⟩, by simp [intOf]; omega⟩
      | false =>
        by_cases hen : en ≤ mark
        · have Hmt : Hid (mkTel mark (⟨ky, st, en, an, asu, ale, amo, fn, fsu, fle, fmo, td, false⟩ : OrR) = true) := hide (by simp [mkTel, hen])
          have dn : decide (en ≤ mark) = true := decide_eq_true hen
          clear hen
          obtain ⟨pn, psu, ple, pmo, hpa⟩ : ∃ pn psu ple pmo, ((if b = true then fn else an) = pn ∧ (if b = true then fsu else asu) = psu ∧ (if b = true then fle else ale) = ple ∧ (if b = true then fmo else amo) = pmo) := ⟨_, _, _, _, rfl, rfl, rfl, rfl⟩
          have HPn2 : Hid (mkPans b mark (xs.take (i + 1)) = mkPans b mark (xs.take i) ++ [⟨ky, st, en, td, 1, pn, psu, ple, pmo⟩]) := hide (by rw [mkPans_snoc (unhide Hxk), unhide Hmt]; unfold mkPan; dsimp only; rw [hpa.1, hpa.2.1, hpa.2.2.1, hpa.2.2.2]; rfl)
          have hpl := hide (fun w9 => l7pane_any s t k z q l e b v r (⟨ky, st, en, an, asu, ale, amo, fn, fsu, fle, fmo, td, false⟩ : OrR) 1 w9)
          dsimp only at hpl
          rw [hpa.1, hpa.2.1, hpa.2.2.1, hpa.2.2.2] at hpl
          have Htl : Hid (mkRow mark (⟨ky, st, en, an, asu, ale, amo, fn, fsu, fle, fmo, td, false⟩ : OrR) = ⟨ky, st, en, an, asu, ale, amo, 0, 0, 0, 0, (td + 1), true⟩) := hide (by unfold mkRow; rw [unhide Hmt]; rfl)
          have hn9 : u9.ownBlock ≠ some wr.heap.size := fun e9 => by have := (World.ownsRow.lt (unhide HO) _ e9).2; omega
          clear hpa
          go_upto_region 9 with fail
          go_cut [11] (fun pv W => pv = .pointer (some ⟨wr.heap.size, 0, none⟩) ∧ W.heap[wr.heap.size]? = some (.cells #[.int .i64 ky, .int .i64 st, .int .i64 en, .int .i64 an, .int .i64 asu, .int .i64 ale, .int .i64 amo, .int .i64 fn, .int .i64 fsu, .int .i64 fle, .int .i64 fmo, .int .i64 td, .bool false] 66 (0, 0)) ∧ W.heap[w.heap.size]? = some (.cells #[.int .i64 s, .int .i64 t, .int .i64 k, .int .i64 z, .int .i64 q, .int .i64 l, .int .i64 e, .bool b, .int .i64 v, .int .i64 r] 34 (0, 0)) ∧ W.heap[w.heap.size + 1]? = some (.cells #[.int .i64 mark, .slice (some ⟨g, o, none⟩) len cap] 30 (0, 0)) ∧ W.heap[w.heap.size + 1 + 1]? = some (.cells #[.int .i64 0, .slice none 0 0] 30 (0, 0)) ∧ Hid (OwnPn W (w.heap.size + 1 + 1 + 1) u8 (mkPans b mark (xs.take i))) ∧ Hid (OwnOr W (w.heap.size + 1 + 1 + 1) u9 (mkRows l mark (xs.take i))) ∧ Below w.heap.size w W ∧ w.heap.size + 1 + 1 + 1 ≤ W.heap.size)
          case first =>
            go_wp2
            go_meet
            exact ⟨rfl, World.alloc_heap_new wr _, (Below.heap_alloc wr _ _ (Array.getElem?_eq_some_iff.1 bJ).1).trans bJ, (Below.heap_alloc wr _ _ (Array.getElem?_eq_some_iff.1 bS).1).trans bS, (Below.heap_alloc wr _ _ (Array.getElem?_eq_some_iff.1 bR).1).trans bR, hide (World.ownsRow.alloc (unhide HP) _), hide (World.ownsRow.alloc (unhide HO) _), bel_alloc hbw _, (by simp; omega)⟩
          case rest =>
            rename World => wq
            obtain ⟨rfl, bG1, bJ1, bS1, bR1, HP1, HO1, hb1, hz1⟩ := hcut
            clear HP HO bJ bS bR hbw s1 d0 d1 d2 d3 d4 d5 d6 d7 d8 d9 d10 d11 d12
            have j0 := Joins.cell_of_block bJ1 0
            have j1 := Joins.cell_of_block bJ1 1
            have j2 := Joins.cell_of_block bJ1 2
            have j3 := Joins.cell_of_block bJ1 3
            have j4 := Joins.cell_of_block bJ1 4
            have j5 := Joins.cell_of_block bJ1 5
            have j6 := Joins.cell_of_block bJ1 6
            have j7 := Joins.cell_of_block bJ1 7
            have j8 := Joins.cell_of_block bJ1 8
            have j9 := Joins.cell_of_block bJ1 9
            have g0 := Joins.cell_of_block bG1 0
            have g1 := Joins.cell_of_block bG1 1
            have g2 := Joins.cell_of_block bG1 2
            have g3 := Joins.cell_of_block bG1 3
            have g4 := Joins.cell_of_block bG1 4
            have g5 := Joins.cell_of_block bG1 5
            have g6 := Joins.cell_of_block bG1 6
            have g7 := Joins.cell_of_block bG1 7
            have g8 := Joins.cell_of_block bG1 8
            have g9 := Joins.cell_of_block bG1 9
            have g10 := Joins.cell_of_block bG1 10
            have g11 := Joins.cell_of_block bG1 11
            have g12 := Joins.cell_of_block bG1 12
            simp only [List.getElem?_toArray, List.getElem?_cons_zero, List.getElem?_cons_succ] at j0 j1 j2 j3 j4 j5 j6 j7 j8 j9 g0 g1 g2 g3 g4 g5 g6 g7 g8 g9 g10 g11 g12
            have hgeP := hide (fun b9 (hb9 : u8.ownBlock = some b9) => (World.ownsRow.lt (unhide HP1) b9 hb9).1)
            go_upto_region 11 with fail
            go_cut [8] (fun pv W => ∃ v4, pv = v4 ∧ W.heap[wr.heap.size]? = some (.cells #[.int .i64 ky, .int .i64 st, .int .i64 en, .int .i64 an, .int .i64 asu, .int .i64 ale, .int .i64 amo, .int .i64 fn, .int .i64 fsu, .int .i64 fle, .int .i64 fmo, .int .i64 td, .bool false] 66 (0, 0)) ∧ W.heap[w.heap.size]? = some (.cells #[.int .i64 s, .int .i64 t, .int .i64 k, .int .i64 z, .int .i64 q, .int .i64 l, .int .i64 e, .bool b, .int .i64 v, .int .i64 r] 34 (0, 0)) ∧ W.heap[w.heap.size + 1]? = some (.cells #[.int .i64 mark, .slice (some ⟨g, o, none⟩) len cap] 30 (0, 0)) ∧ W.heap[w.heap.size + 1 + 1]? = some (.cells #[.int .i64 0, .slice none 0 0] 30 (0, 0)) ∧ Hid (OwnPn W (w.heap.size + 1 + 1 + 1) v4 (mkPans b mark (xs.take (i + 1)))) ∧ Hid (OwnOr W (w.heap.size + 1 + 1 + 1) u9 (mkRows l mark (xs.take i))) ∧ Below w.heap.size w W ∧ w.heap.size + 1 + 1 + 1 ≤ W.heap.size)
            case first =>
              go_wp2_with fail
              clear j0 j1 j2 j3 j4 j5 j6 j7 j8 j9 g0 g1 g2 g3 g4 g5 g6 g7 g8 g9 g10 g11 g12
              refine (unhide hpl _).mono ?_
              rintro e9 w3 ⟨rfl, hb3⟩
              have bG3 := (hb3.block _ (Array.getElem?_eq_some_iff.1 bG1).1).trans bG1
              have bJ3 := (hb3.block _ (Array.getElem?_eq_some_iff.1 bJ1).1).trans bJ1
              have bS3 := (hb3.block _ (Array.getElem?_eq_some_iff.1 bS1).1).trans bS1
              have bR3 := (hb3.block _ (Array.getElem?_eq_some_iff.1 bR1).1).trans bR1
              have HP3 : Hid (OwnPn w3 (w.heap.size + 1 + 1 + 1) u8 (mkPans b mark (xs.take i))) := hide (own_row (unhide HP1) (grown_of0 hb3) (fun _ e9 => by cases e9))
              have HO3 : Hid (OwnOr w3 (w.heap.size + 1 + 1 + 1) u9 (mkRows l mark (xs.take i))) := hide (own_row (unhide HO1) (grown_of0 hb3) (fun _ e9 => by cases e9))
              have hbq3 : Below w.heap.size w w3 := bel_trans hb1 hb3
              have hz3 : w.heap.size + 1 + 1 + 1 ≤ w3.heap.size := Nat.le_trans hz1 hb3.size
              clear hpl bG1 bJ1 bS1 bR1 HP1 HO1 hb1 hz1 hb3
              go_wp2_with (at_builtin; go_loud (refine wpList_append_own _ rfl _ _ 31 rfl (w.heap.size + 1 + 1 + 1) 62 i1 _ 9 72 Try.underlying31 hi1 hy0 hy1 hy2 rfl (by decide) u8 _ _ rfl (World.ownsRow.alloc (unhide HP3) _) ⟨w3.heap.size, 0, none⟩ 1 1 [.int .i64 ky, .int .i64 st, .int .i64 en, .int .i64 td, .int .i64 1, .int .i64 pn, .int .i64 psu, .int .i64 ple, .int .i64 pmo] rfl rfl (cells_newPn w3 _ _ _ _ _ _ _ _ _ _) (by simp [Value.oneCell']) (by unfold maxLen; omega) (by omega) (by simp; omega) ?_); intro v4 w4 hown4 hgrow4 hnn4)
              have hne4 : ∀ (b9 : Nat) (cs : Array Value) (ty : TypeId), w3.heap[b9]? = some (.cells cs ty (0, 0)) → ty ≠ 62 → w4.heap[b9]? = some (.cells cs ty (0, 0)) := fun b9 cs ty h9 h8 => (hgrow4.block b9 (by have := (Array.getElem?_eq_some_iff.1 h9).1; simp; omega) (fun e9 => own_ne_ty (unhide HP3) h9 h8 e9.symm)).trans ((Below.heap_alloc _ _ _ (Array.getElem?_eq_some_iff.1 h9).1).trans h9)
              have hP4 : OwnPn w4 (w.heap.size + 1 + 1 + 1) v4 (mkPans b mark (xs.take (i + 1))) := by rw [unhide HPn2]; exact ownPn_snoc hown4
              have hO4 : OwnOr w4 (w.heap.size + 1 + 1 + 1) u9 (mkRows l mark (xs.take i)) := by
                have h9 : OwnOr (w3.alloc (.cells #[.int .i64 ky, .int .i64 st, .int .i64 en, .int .i64 td, .int .i64 1, .int .i64 pn, .int .i64 psu, .int .i64 ple, .int .i64 pmo] 62)) (w.heap.size + 1 + 1 + 1) u9 (mkRows l mark (xs.take i)) := World.ownsRow.alloc (unhide HO3) _
                exact own_gP h9 hgrow4 (fun k9 e9 => own_no_both (World.ownsRow.alloc (unhide HP3) _) h9 (by decide) k9 e9)
              have hb4 : Below w.heap.size w w4 := (bel_alloc hbq3 _).grown hgrow4 (by have := hbq3.size; simp; omega) (fun k9 e9 => by have := unhide hgeP k9 e9; omega)
              have hz4 : w.heap.size + 1 + 1 + 1 ≤ w4.heap.size := by have := hgrow4.size; simp at this; omega
              go_wp2
              go_meet
              exact ⟨v4, rfl, hne4 _ _ _ bG3 (by decide), hne4 _ _ _ bJ3 (by decide), hne4 _ _ _ bS3 (by decide), hne4 _ _ _ bR3 (by decide), hide hP4, hide hO4, hb4, hz4⟩
            case rest =>
              rename World => wt
              obtain ⟨v4, hv4, bG4, bJ4, bS4, bR4, HP4, HO4, hb4, hz4⟩ := hcut
              rw [hv4]
              clear hv4 hpl bG1 bJ1 bS1 bR1 HP1 HO1 hb1 hz1 hgeP j0 j1 j2 j3 j4 j5 j6 j7 j8 j9 g0 g1 g2 g3 g4 g5 g6 g7 g8 g9 g10 g11 g12
              have hwr : IntKind.i64.wrap (td + 1) = td + 1 := IntWalk.i64_in _ ⟨by omega, by omega⟩
              have hn84 : v4.ownBlock ≠ some wr.heap.size := own_ne_ty (unhide HP4) bG4 (by decide)
              have hn94 : u9.ownBlock ≠ some wr.heap.size := hn9
              have g0 := Joins.cell_of_block bG4 0
              have g1 := Joins.cell_of_block bG4 1
              have g2 := Joins.cell_of_block bG4 2
              have g3 := Joins.cell_of_block bG4 3
              have g4 := Joins.cell_of_block bG4 4
              have g5 := Joins.cell_of_block bG4 5
              have g6 := Joins.cell_of_block bG4 6
              have g7 := Joins.cell_of_block bG4 7
              have g8 := Joins.cell_of_block bG4 8
              have g9 := Joins.cell_of_block bG4 9
              have g10 := Joins.cell_of_block bG4 10
              have g11 := Joins.cell_of_block bG4 11
              have g12 := Joins.cell_of_block bG4 12
              simp only [List.getElem?_toArray, List.getElem?_cons_zero, List.getElem?_cons_succ] at g0 g1 g2 g3 g4 g5 g6 g7 g8 g9 g10 g11 g12
              have fg12 : wt.frozen? ⟨wr.heap.size, 12, none⟩ = false := by simp [World.frozen?, bG4]
              have zG : wr.heap.size < wt.heap.size := (Array.getElem?_eq_some_iff.1 bG4).1
              go_upto_region 12 with fail
              go_cut [11] (fun pv W => pv = .pointer (some ⟨wr.heap.size, 0, none⟩) ∧ W.heap[wr.heap.size]? = some (.cells #[.int .i64 ky, .int .i64 st, .int .i64 en, .int .i64 an, .int .i64 asu, .int .i64 ale, .int .i64 amo, .int .i64 fn, .int .i64 fsu, .int .i64 fle, .int .i64 fmo, .int .i64 td, .bool true] 66 (0, 0)) ∧ W.heap[w.heap.size]? = some (.cells #[.int .i64 s, .int .i64 t, .int .i64 k, .int .i64 z, .int .i64 q, .int .i64 l, .int .i64 e, .bool b, .int .i64 v, .int .i64 r] 34 (0, 0)) ∧ W.heap[w.heap.size + 1]? = some (.cells #[.int .i64 mark, .slice (some ⟨g, o, none⟩) len cap] 30 (0, 0)) ∧ W.heap[w.heap.size + 1 + 1]? = some (.cells #[.int .i64 0, .slice none 0 0] 30 (0, 0)) ∧ Hid (OwnPn W (w.heap.size + 1 + 1 + 1) v4 (mkPans b mark (xs.take (i + 1)))) ∧ Hid (OwnOr W (w.heap.size + 1 + 1 + 1) u9 (mkRows l mark (xs.take i))) ∧ Below w.heap.size w W ∧ w.heap.size + 1 + 1 + 1 ≤ W.heap.size)
              case first =>
                go_wp2
                go_meet
                exact ⟨rfl, (Joins.block_setCell bG4 _), (Below.heap_setCell _ _ _ _ (by simp; omega)).trans (bJ4), (Below.heap_setCell _ _ _ _ (by simp; omega)).trans (bS4), (Below.heap_setCell _ _ _ _ (by simp; omega)).trans (bR4), hide (own_setX (unhide HP4) hn84), hide (own_setX (unhide HO4) hn94), (bel_set hb4 (by simp; omega) _), (by simp [World.setCell]; omega)⟩
              case rest =>
                rename World => wu
                obtain ⟨rfl, bG5, bJ5, bS5, bR5, HP5, HO5, hb5, hz5⟩ := hcut
                clear g0 g1 g2 g3 g4 g5 g6 g7 g8 g9 g10 g11 g12 fg12 zG bG4 bJ4 bS4 bR4 HP4 HO4 hb4 hz4 hn84 hn94
                have hn85 : v4.ownBlock ≠ some wr.heap.size := own_ne_ty (unhide HP5) bG5 (by decide)
                have hn95 : u9.ownBlock ≠ some wr.heap.size := hn9
                have g0 := Joins.cell_of_block bG5 0
                have g1 := Joins.cell_of_block bG5 1
                have g2 := Joins.cell_of_block bG5 2
                have g3 := Joins.cell_of_block bG5 3
                have g4 := Joins.cell_of_block bG5 4
                have g5 := Joins.cell_of_block bG5 5
                have g6 := Joins.cell_of_block bG5 6
                have g7 := Joins.cell_of_block bG5 7
                have g8 := Joins.cell_of_block bG5 8
                have g9 := Joins.cell_of_block bG5 9
                have g10 := Joins.cell_of_block bG5 10
                have g11 := Joins.cell_of_block bG5 11
                have g12 := Joins.cell_of_block bG5 12
                simp only [List.getElem?_toArray, List.getElem?_cons_zero, List.getElem?_cons_succ] at g0 g1 g2 g3 g4 g5 g6 g7 g8 g9 g10 g11 g12
                have fg11 : wu.frozen? ⟨wr.heap.size, 11, none⟩ = false := by simp [World.frozen?, bG5]
                have zG : wr.heap.size < wu.heap.size := (Array.getElem?_eq_some_iff.1 bG5).1
                go_upto_region 13 with fail
                go_cut [11] (fun pv W => pv = .pointer (some ⟨wr.heap.size, 0, none⟩) ∧ W.heap[wr.heap.size]? = some (.cells #[.int .i64 ky, .int .i64 st, .int .i64 en, .int .i64 an, .int .i64 asu, .int .i64 ale, .int .i64 amo, .int .i64 fn, .int .i64 fsu, .int .i64 fle, .int .i64 fmo, .int .i64 (td + 1), .bool true] 66 (0, 0)) ∧ W.heap[w.heap.size]? = some (.cells #[.int .i64 s, .int .i64 t, .int .i64 k, .int .i64 z, .int .i64 q, .int .i64 l, .int .i64 e, .bool b, .int .i64 v, .int .i64 r] 34 (0, 0)) ∧ W.heap[w.heap.size + 1]? = some (.cells #[.int .i64 mark, .slice (some ⟨g, o, none⟩) len cap] 30 (0, 0)) ∧ W.heap[w.heap.size + 1 + 1]? = some (.cells #[.int .i64 0, .slice none 0 0] 30 (0, 0)) ∧ Hid (OwnPn W (w.heap.size + 1 + 1 + 1) v4 (mkPans b mark (xs.take (i + 1)))) ∧ Hid (OwnOr W (w.heap.size + 1 + 1 + 1) u9 (mkRows l mark (xs.take i))) ∧ Below w.heap.size w W ∧ w.heap.size + 1 + 1 + 1 ≤ W.heap.size)
                case first =>
                  go_wp2
                  go_meet
                  exact ⟨rfl, (Joins.block_setCell bG5 _), (Below.heap_setCell _ _ _ _ (by simp; omega)).trans (bJ5), (Below.heap_setCell _ _ _ _ (by simp; omega)).trans (bS5), (Below.heap_setCell _ _ _ _ (by simp; omega)).trans (bR5), hide (own_setX (unhide HP5) hn85), hide (own_setX (unhide HO5) hn95), (bel_set hb5 (by simp; omega) _), (by simp [World.setCell]; omega)⟩
                case rest =>
                  rename World => wv
                  obtain ⟨rfl, bG6, bJ6, bS6, bR6, HP6, HO6, hb6, hz6⟩ := hcut
                  clear g0 g1 g2 g3 g4 g5 g6 g7 g8 g9 g10 g11 g12 fg11 zG bG5 bJ5 bS5 bR5 HP5 HO5 hb5 hz5 hn85 hn95
                  have hn86 : v4.ownBlock ≠ some wr.heap.size := own_ne_ty (unhide HP6) bG6 (by decide)
                  have hn96 : u9.ownBlock ≠ some wr.heap.size := hn9
                  have g0 := Joins.cell_of_block bG6 0
                  have g1 := Joins.cell_of_block bG6 1
                  have g2 := Joins.cell_of_block bG6 2
                  have g3 := Joins.cell_of_block bG6 3
                  have g4 := Joins.cell_of_block bG6 4
                  have g5 := Joins.cell_of_block bG6 5
                  have g6 := Joins.cell_of_block bG6 6
                  have g7 := Joins.cell_of_block bG6 7
                  have g8 := Joins.cell_of_block bG6 8
                  have g9 := Joins.cell_of_block bG6 9
                  have g10 := Joins.cell_of_block bG6 10
                  have g11 := Joins.cell_of_block bG6 11
                  have g12 := Joins.cell_of_block bG6 12
                  simp only [List.getElem?_toArray, List.getElem?_cons_zero, List.getElem?_cons_succ] at g0 g1 g2 g3 g4 g5 g6 g7 g8 g9 g10 g11 g12
                  have fg7 : wv.frozen? ⟨wr.heap.size, 7, none⟩ = false := by simp [World.frozen?, bG6]
                  have fg8 : wv.frozen? ⟨wr.heap.size, 8, none⟩ = false := by simp [World.frozen?, bG6]
                  have fg9 : wv.frozen? ⟨wr.heap.size, 9, none⟩ = false := by simp [World.frozen?, bG6]
                  have fg10 : wv.frozen? ⟨wr.heap.size, 10, none⟩ = false := by simp [World.frozen?, bG6]
                  have zG : wr.heap.size < wv.heap.size := (Array.getElem?_eq_some_iff.1 bG6).1
                  go_upto_region 14 with fail
                  go_cut [11] (fun pv W => pv = .pointer (some ⟨wr.heap.size, 0, none⟩) ∧ W.heap[wr.heap.size]? = some (.cells #[.int .i64 ky, .int .i64 st, .int .i64 en, .int .i64 an, .int .i64 asu, .int .i64 ale, .int .i64 amo, .int .i64 0, .int .i64 0, .int .i64 0, .int .i64 0, .int .i64 (td + 1), .bool true] 66 (0, 0)) ∧ W.heap[w.heap.size]? = some (.cells #[.int .i64 s, .int .i64 t, .int .i64 k, .int .i64 z, .int .i64 q, .int .i64 l, .int .i64 e, .bool b, .int .i64 v, .int .i64 r] 34 (0, 0)) ∧ W.heap[w.heap.size + 1]? = some (.cells #[.int .i64 mark, .slice (some ⟨g, o, none⟩) len cap] 30 (0, 0)) ∧ W.heap[w.heap.size + 1 + 1]? = some (.cells #[.int .i64 0, .slice none 0 0] 30 (0, 0)) ∧ Hid (OwnPn W (w.heap.size + 1 + 1 + 1) v4 (mkPans b mark (xs.take (i + 1)))) ∧ Hid (OwnOr W (w.heap.size + 1 + 1 + 1) u9 (mkRows l mark (xs.take i))) ∧ Below w.heap.size w W ∧ w.heap.size + 1 + 1 + 1 ≤ W.heap.size)
                  case first =>
                    go_wp2
                    go_meet
                    exact ⟨rfl, (Joins.block_setCell (Joins.block_setCell (Joins.block_setCell (Joins.block_setCell bG6 _) _) _) _), (Below.heap_setCell _ _ _ _ (by simp; omega)).trans ((Below.heap_setCell _ _ _ _ (by simp; omega)).trans ((Below.heap_setCell _ _ _ _ (by simp; omega)).trans ((Below.heap_setCell _ _ _ _ (by simp; omega)).trans (bJ6)))), (Below.heap_setCell _ _ _ _ (by simp; omega)).trans ((Below.heap_setCell _ _ _ _ (by simp; omega)).trans ((Below.heap_setCell _ _ _ _ (by simp; omega)).trans ((Below.heap_setCell _ _ _ _ (by simp; omega)).trans (bS6)))), (Below.heap_setCell _ _ _ _ (by simp; omega)).trans ((Below.heap_setCell _ _ _ _ (by simp; omega)).trans ((Below.heap_setCell _ _ _ _ (by simp; omega)).trans ((Below.heap_setCell _ _ _ _ (by simp; omega)).trans (bR6)))), hide (own_setX (own_setX (own_setX (own_setX (unhide HP6) hn86) hn86) hn86) hn86), hide (own_setX (own_setX (own_setX (own_setX (unhide HO6) hn96) hn96) hn96) hn96), (bel_set (bel_set (bel_set (bel_set hb6 (by simp; omega) _) (by simp; omega) _) (by simp; omega) _) (by simp; omega) _), (by simp [World.setCell]; omega)⟩
                  case rest =>
                    rename World => wx
                    obtain ⟨rfl, bG7, bJ7, bS7, bR7, HP7, HO7, hb7, hz7⟩ := hcut
                    clear g0 g1 g2 g3 g4 g5 g6 g7 g8 g9 g10 g11 g12 fg7 fg8 fg9 fg10 zG bG6 bJ6 bS6 bR6 HP6 HO6 hb6 hz6 hn86 hn96
                    have g0 := Joins.cell_of_block bG7 0
                    have g1 := Joins.cell_of_block bG7 1
                    have g2 := Joins.cell_of_block bG7 2
                    have g3 := Joins.cell_of_block bG7 3
                    have g4 := Joins.cell_of_block bG7 4
                    have g5 := Joins.cell_of_block bG7 5
                    have g6 := Joins.cell_of_block bG7 6
                    have g7 := Joins.cell_of_block bG7 7
                    have g8 := Joins.cell_of_block bG7 8
                    have g9 := Joins.cell_of_block bG7 9
                    have g10 := Joins.cell_of_block bG7 10
                    have g11 := Joins.cell_of_block bG7 11
                    have g12 := Joins.cell_of_block bG7 12
                    have c5 := Joins.cell_of_block bJ7 5
                    simp only [List.getElem?_toArray, List.getElem?_cons_zero, List.getElem?_cons_succ] at g0 g1 g2 g3 g4 g5 g6 g7 g8 g9 g10 g11 g12 c5
                    have hwr2 : IntKind.i64.wrap (en + l) = en + l := IntWalk.i64_in _ ⟨by omega, by omega⟩
                    have zG : wr.heap.size < wx.heap.size := (Array.getElem?_eq_some_iff.1 bG7).1
                    by_cases hkp : mark < en + l
                    · have HROW : Hid (mkRows l mark (xs.take (i + 1)) = mkRows l mark (xs.take i) ++ [⟨ky, st, en, an, asu, ale, amo, 0, 0, 0, 0, (td + 1), true⟩]) := hide (by rw [mkRows_snoc (unhide Hxk), unhide Htl]; exact if_pos (by exact decide_eq_true hkp))
                      have dk : decide (mark < en + l) = true := decide_eq_true hkp
                      have hge := hide (fun b9 (hb9 : u9.ownBlock = some b9) => (World.ownsRow.lt (unhide HO7) b9 hb9).1)
                      go_wp2_with (at_builtin; go_loud (refine wpList_append_own _ rfl _ _ 28 rfl (w.heap.size + 1 + 1 + 1) 66 i0 _ 13 104 Try.underlying28 hi hz0' hz1' hz2' rfl (by decide) u9 _ _ rfl (World.ownsRow.alloc (unhide HO7) _) ⟨wx.heap.size, 0, none⟩ 1 1 [.int .i64 ky, .int .i64 st, .int .i64 en, .int .i64 an, .int .i64 asu, .int .i64 ale, .int .i64 amo, .int .i64 0, .int .i64 0, .int .i64 0, .int .i64 0, .int .i64 (td + 1), .bool true] rfl rfl (cells_newOr wx _ _ _ _ _ _ _ _ _ _ _ _ _ _) (by simp [Value.oneCell']) (by unfold maxLen; omega) (by omega) (by simp; omega) ?_); intro v' w5 hown hgrow hnn)
                      have hne : ∀ (b9 : Nat) (cs : Array Value) (ty : TypeId), wx.heap[b9]? = some (.cells cs ty (0, 0)) → ty ≠ 66 → w5.heap[b9]? = some (.cells cs ty (0, 0)) := fun b9 cs ty h9 h8 => (hgrow.block b9 (by have := (Array.getElem?_eq_some_iff.1 h9).1; simp; omega) (fun e9 => own_ne_ty (unhide HO7) h9 h8 e9.symm)).trans ((Below.heap_alloc _ _ _ (Array.getElem?_eq_some_iff.1 h9).1).trans h9)
                      have bJ5 := hne _ _ _ bJ7 (by decide)
                      have bS5 := hne _ _ _ bS7 (by decide)
                      have bR5 := hne _ _ _ bR7 (by decide)
                      have hb5 : Below w.heap.size w w5 := (bel_alloc hb7 _).grown hgrow (by have := hb7.size; simp; omega) (fun k9 e9 => by have := unhide hge k9 e9; omega)
                      have hP5 : Hid (OwnPn w5 (w.heap.size + 1 + 1 + 1) v4 (mkPans b mark (xs.take (i + 1)))) := hide (by
                        have h9 : OwnPn (wx.alloc (.cells #[.int .i64 ky, .int .i64 st, .int .i64 en, .int .i64 an, .int .i64 asu, .int .i64 ale, .int .i64 amo, .int .i64 0, .int .i64 0, .int .i64 0, .int .i64 0, .int .i64 (td + 1), .bool true] 66)) (w.heap.size + 1 + 1 + 1) v4 (mkPans b mark (xs.take (i + 1))) := World.ownsRow.alloc (unhide HP7) _
                        exact own_gP h9 hgrow (fun k9 e9 => own_no_both (World.ownsRow.alloc (unhide HO7) _) h9 (by decide) k9 e9))
                      have hO5 : Hid (OwnOr w5 (w.heap.size + 1 + 1 + 1) v' (mkRows l mark (xs.take (i + 1)))) := hide (by rw [unhide HROW]; exact ownOr_snoc hown)
                      clear g0 g1 g2 g3 g4 g5 g6 g7 g8 g9 g10 g11 g12 c5 hown hgrow hne
                      go_wp2
                      refine ⟨⟨i + 1, by omega, by go_num, hP5, hO5, bJ5, bS5, bR5, hb5⟩, by simp [intOf]; omega⟩
                    · have HROW : Hid (mkRows l mark (xs.take (i + 1)) = mkRows l mark (xs.take i)) := hide (by rw [mkRows_snoc (unhide Hxk), unhide Htl]; exact (if_neg (fun h9 => hkp (of_decide_eq_true h9))))
                      have dk : decide (mark < en + l) = false := decide_eq_false hkp
                      go_wp2
                      refine ⟨⟨i + 1, by omega, by go_num, HP7, (by rw [unhide HROW]; exact HO7), bJ7, bS7, bR7, hb7⟩, by simp [intOf]; omega⟩
        · have Hmt : Hid (mkTel mark (⟨ky, st, en, an, asu, ale, amo, fn, fsu, fle, fmo, td, false⟩ : OrR) = false) := hide (by simp [mkTel, hen])
          have dn : decide (en ≤ mark) = false := decide_eq_false hen
          clear hen
          have HPn2 : Hid (mkPans b mark (xs.take (i + 1)) = mkPans b mark (xs.take i)) := hide (by rw [mkPans_snoc (unhide Hxk), unhide Hmt]; exact List.append_nil _)
          have Htl : Hid (mkRow mark (⟨ky, st, en, an, asu, ale, amo, fn, fsu, fle, fmo, td, false⟩ : OrR) = (⟨ky, st, en, an, asu, ale, amo, fn, fsu, fle, fmo, td, false⟩ : OrR)) := hide (by unfold mkRow; rw [unhide Hmt]; rfl)
          go_upto_region 9 with fail
          go_cut [11] (fun pv W => pv = .pointer (some ⟨wr.heap.size, 0, none⟩) ∧ W.heap[wr.heap.size]? = some (.cells #[.int .i64 ky, .int .i64 st, .int .i64 en, .int .i64 an, .int .i64 asu, .int .i64 ale, .int .i64 amo, .int .i64 fn, .int .i64 fsu, .int .i64 fle, .int .i64 fmo, .int .i64 td, .bool false] 66 (0, 0)) ∧ W.heap[w.heap.size]? = some (.cells #[.int .i64 s, .int .i64 t, .int .i64 k, .int .i64 z, .int .i64 q, .int .i64 l, .int .i64 e, .bool b, .int .i64 v, .int .i64 r] 34 (0, 0)) ∧ W.heap[w.heap.size + 1]? = some (.cells #[.int .i64 mark, .slice (some ⟨g, o, none⟩) len cap] 30 (0, 0)) ∧ W.heap[w.heap.size + 1 + 1]? = some (.cells #[.int .i64 0, .slice none 0 0] 30 (0, 0)) ∧ Hid (OwnPn W (w.heap.size + 1 + 1 + 1) u8 (mkPans b mark (xs.take (i + 1)))) ∧ Hid (OwnOr W (w.heap.size + 1 + 1 + 1) u9 (mkRows l mark (xs.take i))) ∧ Below w.heap.size w W ∧ w.heap.size + 1 + 1 + 1 ≤ W.heap.size)
          case first =>
            go_wp2
            go_meet
            exact ⟨rfl, World.alloc_heap_new wr _, (Below.heap_alloc wr _ _ (Array.getElem?_eq_some_iff.1 bJ).1).trans bJ, (Below.heap_alloc wr _ _ (Array.getElem?_eq_some_iff.1 bS).1).trans bS, (Below.heap_alloc wr _ _ (Array.getElem?_eq_some_iff.1 bR).1).trans bR, hide ((by rw [unhide HPn2]; exact World.ownsRow.alloc (unhide HP) _)), hide (World.ownsRow.alloc (unhide HO) _), bel_alloc hbw _, (by simp; omega)⟩
          case rest =>
            rename World => wq
            obtain ⟨rfl, bG1, bJ1, bS1, bR1, HP1, HO1, hb1, hz1⟩ := hcut
            clear HP HO bJ bS bR hbw s1 d0 d1 d2 d3 d4 d5 d6 d7 d8 d9 d10 d11 d12
            have g0 := Joins.cell_of_block bG1 0
            have g1 := Joins.cell_of_block bG1 1
            have g2 := Joins.cell_of_block bG1 2
            have g3 := Joins.cell_of_block bG1 3
            have g4 := Joins.cell_of_block bG1 4
            have g5 := Joins.cell_of_block bG1 5
            have g6 := Joins.cell_of_block bG1 6
            have g7 := Joins.cell_of_block bG1 7
            have g8 := Joins.cell_of_block bG1 8
            have g9 := Joins.cell_of_block bG1 9
            have g10 := Joins.cell_of_block bG1 10
            have g11 := Joins.cell_of_block bG1 11
            have g12 := Joins.cell_of_block bG1 12
            have c5 := Joins.cell_of_block bJ1 5
            simp only [List.getElem?_toArray, List.getElem?_cons_zero, List.getElem?_cons_succ] at g0 g1 g2 g3 g4 g5 g6 g7 g8 g9 g10 g11 g12 c5
            have hwr2 : IntKind.i64.wrap (en + l) = en + l := IntWalk.i64_in _ ⟨by omega, by omega⟩
            have zG : wr.heap.size < wq.heap.size := (Array.getElem?_eq_some_iff.1 bG1).1
            by_cases hkp : mark < en + l
            · have HROW : Hid (mkRows l mark (xs.take (i + 1)) = mkRows l mark (xs.take i) ++ [⟨ky, st, en, an, asu, ale, amo, fn, fsu, fle, fmo, td, false⟩]) := hide (by rw [mkRows_snoc (unhide Hxk), unhide Htl]; exact if_pos (by exact decide_eq_true hkp))
              have dk : decide (mark < en + l) = true := decide_eq_true hkp
              have hge := hide (fun b9 (hb9 : u9.ownBlock = some b9) => (World.ownsRow.lt (unhide HO1) b9 hb9).1)
              go_wp2_with (at_builtin; go_loud (refine wpList_append_own _ rfl _ _ 28 rfl (w.heap.size + 1 + 1 + 1) 66 i0 _ 13 104 Try.underlying28 hi hz0' hz1' hz2' rfl (by decide) u9 _ _ rfl (World.ownsRow.alloc (unhide HO1) _) ⟨wq.heap.size, 0, none⟩ 1 1 [.int .i64 ky, .int .i64 st, .int .i64 en, .int .i64 an, .int .i64 asu, .int .i64 ale, .int .i64 amo, .int .i64 fn, .int .i64 fsu, .int .i64 fle, .int .i64 fmo, .int .i64 td, .bool false] rfl rfl (cells_newOr wq _ _ _ _ _ _ _ _ _ _ _ _ _ _) (by simp [Value.oneCell']) (by unfold maxLen; omega) (by omega) (by simp; omega) ?_); intro v' w5 hown hgrow hnn)
              have hne : ∀ (b9 : Nat) (cs : Array Value) (ty : TypeId), wq.heap[b9]? = some (.cells cs ty (0, 0)) → ty ≠ 66 → w5.heap[b9]? = some (.cells cs ty (0, 0)) := fun b9 cs ty h9 h8 => (hgrow.block b9 (by have := (Array.getElem?_eq_some_iff.1 h9).1; simp; omega) (fun e9 => own_ne_ty (unhide HO1) h9 h8 e9.symm)).trans ((Below.heap_alloc _ _ _ (Array.getElem?_eq_some_iff.1 h9).1).trans h9)
              have bJ5 := hne _ _ _ bJ1 (by decide)
              have bS5 := hne _ _ _ bS1 (by decide)
              have bR5 := hne _ _ _ bR1 (by decide)
              have hb5 : Below w.heap.size w w5 := (bel_alloc hb1 _).grown hgrow (by have := hb1.size; simp; omega) (fun k9 e9 => by have := unhide hge k9 e9; omega)
              have hP5 : Hid (OwnPn w5 (w.heap.size + 1 + 1 + 1) u8 (mkPans b mark (xs.take (i + 1)))) := hide (by
                have h9 : OwnPn (wq.alloc (.cells #[.int .i64 ky, .int .i64 st, .int .i64 en, .int .i64 an, .int .i64 asu, .int .i64 ale, .int .i64 amo, .int .i64 fn, .int .i64 fsu, .int .i64 fle, .int .i64 fmo, .int .i64 td, .bool false] 66)) (w.heap.size + 1 + 1 + 1) u8 (mkPans b mark (xs.take (i + 1))) := World.ownsRow.alloc (unhide HP1) _
                exact own_gP h9 hgrow (fun k9 e9 => own_no_both (World.ownsRow.alloc (unhide HO1) _) h9 (by decide) k9 e9))
              have hO5 : Hid (OwnOr w5 (w.heap.size + 1 + 1 + 1) v' (mkRows l mark (xs.take (i + 1)))) := hide (by rw [unhide HROW]; exact ownOr_snoc hown)
              clear g0 g1 g2 g3 g4 g5 g6 g7 g8 g9 g10 g11 g12 c5 hown hgrow hne
              go_wp2
              refine ⟨⟨i + 1, by omega, by go_num, hP5, hO5, bJ5, bS5, bR5, hb5⟩, by simp [intOf]; omega⟩
            · have HROW : Hid (mkRows l mark (xs.take (i + 1)) = mkRows l mark (xs.take i)) := hide (by rw [mkRows_snoc (unhide Hxk), unhide Htl]; exact (if_neg (fun h9 => hkp (of_decide_eq_true h9))))
              have dk : decide (mark < en + l) = false := decide_eq_false hkp
              go_wp2
              refine ⟨⟨i + 1, by omega, by go_num, HP1, (by rw [unhide HROW]; exact HO1), bJ1, bS1, bR1, hb1⟩, by simp [intOf]; omega⟩
    · obtain rfl : i = len := by omega
      have HPf : Hid (OwnPn wr (w.heap.size + 1 + 1 + 1) u8 (mkPans b mark xs)) := by have h9 := unhide HP; rw [List.take_of_length_le (by omega)] at h9; exact hide h9
      have HOf : Hid (OwnOr wr (w.heap.size + 1 + 1 + 1) u9 (mkRows l mark xs)) := by have h9 := unhide HO; rw [List.take_of_length_le (by omega)] at h9; exact hide h9
      have hsl : ∃ a9 n9 c9, u9 = .slice a9 n9 c9 := by
        rcases (unhide HOf).2 with ⟨rfl, h0⟩ | ⟨g9, cap9, cur, rfl, _⟩
        · exact ⟨_, _, _, rfl⟩
        · exact ⟨_, _, _, rfl⟩
      obtain ⟨a9, n9, c9, rfl⟩ := hsl
      have s0 : wr.cell? ⟨w.heap.size + 1, 0, none⟩ = some (.int .i64 mark) := Joins.cell_of_block bS 0
      have fs1 : wr.frozen? ⟨w.heap.size + 1, 1, none⟩ = false := by simp [World.frozen?, bS]
      have r0 : wr.cell? ⟨w.heap.size + 1 + 1, 0, none⟩ = some (.int .i64 0) := Joins.cell_of_block bR 0
      have r1 : wr.cell? ⟨w.heap.size + 1 + 1, 1, none⟩ = some (.slice none 0 0) := Joins.cell_of_block bR 1
      have fr0 : wr.frozen? ⟨w.heap.size + 1 + 1, 0, none⟩ = false := by simp [World.frozen?, bR]
      have fr1 : wr.frozen? ⟨w.heap.size + 1 + 1, 1, none⟩ = false := by simp [World.frozen?, bR]
      have hzR : w.heap.size + 1 + 1 < wr.heap.size := (Array.getElem?_eq_some_iff.1 bR).1
      have nS : ∀ {ty : TypeId} {size n : Nat} {v9 : Value} {ys : List Value}, wr.ownsRow (w.heap.size + 1 + 1 + 1) ty size v9 n ys → v9.ownBlock ≠ some (w.heap.size + 1) := fun h9 e9 => by have := ownOr_geX h9 _ e9; omega
      have nR : ∀ {ty : TypeId} {size n : Nat} {v9 : Value} {ys : List Value}, wr.ownsRow (w.heap.size + 1 + 1 + 1) ty size v9 n ys → v9.ownBlock ≠ some (w.heap.size + 1 + 1) := fun h9 e9 => by have := ownOr_geX h9 _ e9; omega
      have hOF := own_setX (u := .slice a9 n9 c9) (p := ⟨w.heap.size + 1 + 1, 1, none⟩) (own_setX (u := .int .i64 mark) (p := ⟨w.heap.size + 1 + 1, 0, none⟩) (own_setX (u := .slice a9 n9 c9) (p := ⟨w.heap.size + 1, 1, none⟩) (unhide HOf) (nS (unhide HOf))) (nR (unhide HOf))) (nR (unhide HOf))
      have hPF := own_setX (u := .slice a9 n9 c9) (p := ⟨w.heap.size + 1 + 1, 1, none⟩) (own_setX (u := .int .i64 mark) (p := ⟨w.heap.size + 1 + 1, 0, none⟩) (own_setX (u := .slice a9 n9 c9) (p := ⟨w.heap.size + 1, 1, none⟩) (unhide HPf) (nS (unhide HPf))) (nR (unhide HPf))) (nR (unhide HPf))
      have hbF : Below w.heap.size w (((wr.setCell ⟨w.heap.size + 1, 1, none⟩ (.slice a9 n9 c9)).setCell ⟨w.heap.size + 1 + 1, 0, none⟩ (.int .i64 mark)).setCell ⟨w.heap.size + 1 + 1, 1, none⟩ (.slice a9 n9 c9)) := bel_set (bel_set (bel_set hbw (by first | (simp; done) | (simp; omega)) _) (by first | (simp; done) | (simp; omega)) _) (by first | (simp; done) | (simp; omega)) _
      clear nS nR HP HO
      go_wp2
      refine bodyPost_ret (v := .tuple #[.agg #[.int .i64 mark, .slice a9 n9 c9], u8]) (by simp (maxDischargeDepth := 9) [results, Try.results18, go_sem, *]) rfl ⟨_, _, rfl, own_monoX hOF (by omega), own_monoX hPF (by omega), hbF⟩
theorem l7mark_f (s t k z q l e : Int) (b : Bool) (v r m : Int) (a : Option Addr) (len cap : Nat) (mark : Int) (w : World) (hm : ¬ m < mark) : Calls Try.prog 18 #[.agg #[.int .i64 s, .int .i64 t, .int .i64 k, .int .i64 z, .int .i64 q, .int .i64 l, .int .i64 e, .bool b, .int .i64 v, .int .i64 r], .agg #[.int .i64 m, .slice a len cap], .int .i64 mark] w fun e' w' => ∃ v2, e' = .returned (.tuple #[.agg #[.int .i64 m, .slice a len cap], v2]) ∧ OwnPn w' w.heap.size v2 [] ∧ Below w.heap.size w w' := by
  have hnm : mark ≤ m := by omega
  go_enter Try.func18, Try.ntmps18
  go_wp2
  refine bodyPost_ret (v := .tuple #[.agg #[.int .i64 m, .slice a len cap], .slice (some ⟨w.heap.size + 1 + 1 + 1, 0, none⟩) 0 0]) (by simp (maxDischargeDepth := 9) [results, Try.results18, go_sem, *]) rfl ⟨_, rfl, ?_, ?_⟩
  · exact ownLit (W := ((w.alloc (.cells #[.int .i64 s, .int .i64 t, .int .i64 k, .int .i64 z, .int .i64 q, .int .i64 l, .int .i64 e, .bool b, .int .i64 v, .int .i64 r] 34)).alloc (.cells #[.int .i64 m, .slice a len cap] 30)).alloc (.cells #[.int .i64 m, .slice a len cap] 30)) (B := w.heap.size) _ _ (by first | (simp; done) | (simp; omega)) (by simp)
  · repeat (first | exact Below.refl _ _ | refine bel_set ?_ (by first | (simp; done) | (simp; omega)) _ | refine bel_alloc ?_ _)
set_option maxRecDepth 100000 in
set_option maxHeartbeats 8000000 in
theorem specmark_any (s t k z q l e : Int) (b : Bool) (v r m : Int) (a : Option Addr) (len cap : Nat) (xs : List OrR) (mark : Int) (w : World) (h : OrRs w a len xs) : Calls Try.prog 5 #[.agg #[.int .i64 s, .int .i64 t, .int .i64 k, .int .i64 z, .int .i64 q, .int .i64 l, .int .i64 e, .bool b, .int .i64 v, .int .i64 r], .agg #[.int .i64 m, .slice a len cap], .int .i64 mark] w fun e' w' => ∃ v1 v2, e' = .returned (.tuple #[.agg #[.int .i64 (markF s t k z q l e b v r m xs mark).1, v1], v2]) ∧ OwnOr w' w.heap.size v1 (markF s t k z q l e b v r m xs mark).2.1 ∧ OwnPn w' w.heap.size v2 (markF s t k z q l e b v r m xs mark).2.2 ∧ Below w.heap.size w w' := by
  have hxl := h.1
  have hbE : Below w.heap.size w (((w.alloc (.cells #[.int .i64 s, .int .i64 t, .int .i64 k, .int .i64 z, .int .i64 q, .int .i64 l, .int .i64 e, .bool b, .int .i64 v, .int .i64 r] 34)).alloc (.cells #[.int .i64 m, .slice a len cap] 30)).alloc (.cells #[.int .i64 0, .slice none 0 0] 30)) := bel_alloc (bel_alloc (bel_one _ _) _) _
  have HE := hide (h.below hbE)
  have bRE : (((w.alloc (.cells #[.int .i64 s, .int .i64 t, .int .i64 k, .int .i64 z, .int .i64 q, .int .i64 l, .int .i64 e, .bool b, .int .i64 v, .int .i64 r] 34)).alloc (.cells #[.int .i64 m, .slice a len cap] 30)).alloc (.cells #[.int .i64 0, .slice none 0 0] 30)).heap[w.heap.size + 1 + 1]? = some (.cells #[.int .i64 0, .slice none 0 0] 30 (0, 0)) := by
    have h9 := World.alloc_heap_new ((w.alloc (.cells #[.int .i64 s, .int .i64 t, .int .i64 k, .int .i64 z, .int .i64 q, .int .i64 l, .int .i64 e, .bool b, .int .i64 v, .int .i64 r] 34)).alloc (.cells #[.int .i64 m, .slice a len cap] 30)) (.cells #[.int .i64 0, .slice none 0 0] 30)
    rw [World.size_alloc, World.size_alloc] at h9
    exact h9
  obtain ⟨ob, hob⟩ : ∃ ob, okOp s t k z q l e v r m xs = ob := ⟨_, rfl⟩
  have HOB := hide hob
  go_enter Try.func5, Try.ntmps5
  go_wp2_with fail
  refine (specopok_eq s t k z q l e b v r m _ _ _ xs _ (unhide HE) HOB).mono ?_
  rintro e' w1 ⟨rfl, hb1⟩
  have hz1 : w.heap.size + 1 + 1 < w1.heap.size := by have := hb1.size; simp at this; omega
  have bR1 := (hb1.block (w.heap.size + 1 + 1) (by simp)).trans bRE
  have hbw1 : Below w.heap.size w w1 := bel_trans hbE hb1
  have H1 := hide ((unhide HE).below hb1)
  have j0 : w1.heap[w.heap.size]? = some (.cells #[.int .i64 s, .int .i64 t, .int .i64 k, .int .i64 z, .int .i64 q, .int .i64 l, .int .i64 e, .bool b, .int .i64 v, .int .i64 r] 34 (0, 0)) := (hb1.block w.heap.size (by simp; omega)).trans ((Below.heap_alloc _ _ _ (by simp; omega)).trans ((Below.heap_alloc _ _ _ (by simp)).trans (World.alloc_heap_new w _)))
  have j1 : w1.heap[w.heap.size + 1]? = some (.cells #[.int .i64 m, .slice a len cap] 30 (0, 0)) := (hb1.block (w.heap.size + 1) (by simp)).trans ((Below.heap_alloc _ _ _ (by simp)).trans (by
    have h9 := World.alloc_heap_new (w.alloc (.cells #[.int .i64 s, .int .i64 t, .int .i64 k, .int .i64 z, .int .i64 q, .int .i64 l, .int .i64 e, .bool b, .int .i64 v, .int .i64 r] 34)) (.cells #[.int .i64 m, .slice a len cap] 30)
    rw [World.size_alloc] at h9
    exact h9))
  have rc0 : w1.cell? ⟨w.heap.size + 1 + 1, 0, none⟩ = some (.int .i64 0) := Joins.cell_of_block bR1 0
  have rc1 : w1.cell? ⟨w.heap.size + 1 + 1, 1, none⟩ = some (.slice none 0 0) := Joins.cell_of_block bR1 1
  have rf0 : w1.frozen? ⟨w.heap.size + 1 + 1, 0, none⟩ = false := by simp [World.frozen?, bR1]
  have rf1 : w1.frozen? ⟨w.heap.size + 1 + 1, 1, none⟩ = false := by simp [World.frozen?, bR1]
  clear HE hbE hb1 hob
  have hnone : (okOp s t k z q l e v r m xs && inB mark 0 1000) = false → ∀ (W : World) (v2 : Value), OwnPn W w.heap.size v2 [] → Below w.heap.size w W → ∃ v1 v3, (Ending.returned (.tuple #[.agg #[.int .i64 0, .slice none 0 0], v2])) = .returned (.tuple #[.agg #[.int .i64 (markF s t k z q l e b v r m xs mark).1, v1], v3]) ∧ OwnOr W w.heap.size v1 (markF s t k z q l e b v r m xs mark).2.1 ∧ OwnPn W w.heap.size v3 (markF s t k z q l e b v r m xs mark).2.2 ∧ Below w.heap.size w W := by
    intro h9 W v2 hv2 hW
    have e9 : markF s t k z q l e b v r m xs mark = (0, [], []) := by unfold markF; rw [h9]; rfl
    rw [e9]
    exact ⟨_, _, rfl, World.ownsRow_nil _ _ _ _, hv2, hW⟩
  have hlit : OwnPn (((w1.setCell ⟨w.heap.size + 1 + 1, 0, none⟩ (.int .i64 0)).setCell ⟨w.heap.size + 1 + 1, 1, none⟩ (.slice none 0 0)).alloc (.cells #[] 62)) w.heap.size (.slice (some ⟨w1.heap.size, 0, none⟩) 0 0) [] := ownLit (W := ((w1.setCell ⟨w.heap.size + 1 + 1, 0, none⟩ (.int .i64 0)).setCell ⟨w.heap.size + 1 + 1, 1, none⟩ (.slice none 0 0))) (B := w.heap.size) _ _ (by first | (simp; done) | (simp; omega)) (by simp)
  cases ob with
  | false =>
    have hno := hide (hnone (by rw [unhide HOB]; rfl))
    clear hnone
    go_wp2
    refine bodyPost_ret (v := .tuple #[.agg #[.int .i64 0, .slice none 0 0], .slice (some ⟨w1.heap.size, 0, none⟩) 0 0]) (by simp (maxDischargeDepth := 9) [results, Try.results5, go_sem, *]) rfl (unhide hno _ _ ?_ ?_)
    · exact hlit
    · exact bel_alloc (bel_set (p := ⟨w.heap.size + 1 + 1, 1, none⟩) (bel_set (p := ⟨w.heap.size + 1 + 1, 0, none⟩) hbw1 (by first | omega | (simp; done) | (simp; omega)) _) (by first | omega | (simp; done) | (simp; omega)) _) _
  | true =>
    obtain ⟨ib, hib⟩ : ∃ ib, inB mark 0 1000 = ib := ⟨_, rfl⟩
    have HIB := hide hib
    have hwi := l1In_any mark 0 1000 w1
    rw [hib] at hwi
    have Hwi := hide hwi
    clear hib hwi
    go_wp2_with fail
    refine (unhide Hwi).mono ?_
    rintro e' w1x ⟨rfl, h1x⟩
    have h1y := h1x.symm
    clear h1x
    subst h1y
    cases ib with
    | false =>
      have hno := hide (hnone (by rw [unhide HOB, unhide HIB]; rfl))
      clear hnone
      go_wp2
      refine bodyPost_ret (v := .tuple #[.agg #[.int .i64 0, .slice none 0 0], .slice (some ⟨w1.heap.size, 0, none⟩) 0 0]) (by simp (maxDischargeDepth := 9) [results, Try.results5, go_sem, *]) rfl (unhide hno _ _ ?_ ?_)
      · exact hlit
      · exact bel_alloc (bel_set (p := ⟨w.heap.size + 1 + 1, 1, none⟩) (bel_set (p := ⟨w.heap.size + 1 + 1, 0, none⟩) hbw1 (by first | omega | (simp; done) | (simp; omega)) _) (by first | omega | (simp; done) | (simp; omega)) _) _
    | true =>
      clear hnone Hwi hlit
      obtain ⟨hx3, hl, hmb, hokx, hrs⟩ := okOp_at (unhide HOB)
      have hxx : ∀ x ∈ xs, (0 ≤ x.en ∧ x.en ≤ 1000) ∧ 0 ≤ x.td ∧ x.td ≤ 100000 := fun x hx => by have := (okB_all (hokx x hx)).2.1; have := (okB_all (hokx x hx)).2.2.2.1; omega
      have hMF : markF s t k z q l e b v r m xs mark = if m < mark then (mark, mkRows l mark xs, mkPans b mark xs) else (m, xs, []) := by unfold markF; rw [unhide HOB, unhide HIB]; rfl
      have HMF := hide hMF
      have HXX := hide hxx
      have bJ : w1.drew.heap[w.heap.size]? = some (.cells #[.int .i64 s, .int .i64 t, .int .i64 k, .int .i64 z, .int .i64 q, .int .i64 l, .int .i64 e, .bool b, .int .i64 v, .int .i64 r] 34 (0, 0)) := j0
      have bS : w1.drew.heap[w.heap.size + 1]? = some (.cells #[.int .i64 m, .slice a len cap] 30 (0, 0)) := j1
      clear hMF hxx hokx hrs rc0 rc1 rf0 rf1 j0 j1
      go_wp2_with fail
      by_cases hcm : m < mark
      · skip
        refine wp_region_held_drew (S := (fun W => W.heap[w.heap.size]? = some (.cells #[.int .i64 s, .int .i64 t, .int .i64 k, .int .i64 z, .int .i64 q, .int .i64 l, .int .i64 e, .bool b, .int .i64 v, .int .i64 r] 34 (0, 0)) ∧ W.heap[w.heap.size + 1]? = some (.cells #[.int .i64 m, .slice a len cap] 30 (0, 0)))) (by kernel_rfl) ?_ (fun hHeld => ?_)
        · (try dsimp only); exact ⟨bJ, bS⟩
        refine wpAnyH_take (i := 0) (v := ?_) (by simp only [List.getElem?_toArray, List.getElem?_cons_zero, List.getElem?_cons_succ]; rfl) (by kernel_rfl) (by kernel_rfl) (by kernel_rfl) (by intro _ _ _ h; exact h) (Or.inl ⟨by rfl, ?_⟩) (by assumption) ?_
        rotate_left
        · (intro w9 hSw; (try dsimp only at hSw); obtain ⟨q0, q1⟩ := hSw; have g0x0 : w9.cell? ⟨w.heap.size, 0, none⟩ = some (.int .i64 s) := (by simp [World.cell?, q0, go_sem]); have g0x1 : w9.cell? ⟨w.heap.size, 1, none⟩ = some (.int .i64 t) := (by simp [World.cell?, q0, go_sem]); have g0x2 : w9.cell? ⟨w.heap.size, 2, none⟩ = some (.int .i64 k) := (by simp [World.cell?, q0, go_sem]); have g0x3 : w9.cell? ⟨w.heap.size, 3, none⟩ = some (.int .i64 z) := (by simp [World.cell?, q0, go_sem]); have g0x4 : w9.cell? ⟨w.heap.size, 4, none⟩ = some (.int .i64 q) := (by simp [World.cell?, q0, go_sem]); have g0x5 : w9.cell? ⟨w.heap.size, 5, none⟩ = some (.int .i64 l) := (by simp [World.cell?, q0, go_sem]); have g0x6 : w9.cell? ⟨w.heap.size, 6, none⟩ = some (.int .i64 e) := (by simp [World.cell?, q0, go_sem]); have g0x7 : w9.cell? ⟨w.heap.size, 7, none⟩ = some (.bool b) := (by simp [World.cell?, q0, go_sem]); have g0x8 : w9.cell? ⟨w.heap.size, 8, none⟩ = some (.int .i64 v) := (by simp [World.cell?, q0, go_sem]); have g0x9 : w9.cell? ⟨w.heap.size, 9, none⟩ = some (.int .i64 r) := (by simp [World.cell?, q0, go_sem]); go_simp <;> with_reducible rfl)
        try simp only [Act.put, List.setIfInBounds_toArray, List.set_cons_zero, List.set_cons_succ]
        refine wpAnyH_take (i := 1) (v := ?_) (by simp only [List.getElem?_toArray, List.getElem?_cons_zero, List.getElem?_cons_succ]; rfl) (by kernel_rfl) (by kernel_rfl) (by kernel_rfl) (by intro _ _ _ h; exact h) (Or.inl ⟨by rfl, ?_⟩) (by assumption) ?_
        rotate_left
        · (intro w9 hSw; (try dsimp only at hSw); obtain ⟨q0, q1⟩ := hSw; have g1x0 : w9.cell? ⟨w.heap.size + 1, 0, none⟩ = some (.int .i64 m) := (by simp [World.cell?, q1, go_sem]); have g1x1 : w9.cell? ⟨w.heap.size + 1, 1, none⟩ = some (.slice a len cap) := (by simp [World.cell?, q1, go_sem]); go_simp <;> with_reducible rfl)
        try simp only [Act.put, List.setIfInBounds_toArray, List.set_cons_zero, List.set_cons_succ]
        refine wpAnyH_take (i := 3) (v := ?_) (by simp only [List.getElem?_toArray, List.getElem?_cons_zero, List.getElem?_cons_succ]; rfl) (by kernel_rfl) (by kernel_rfl) (by kernel_rfl) (by intro _ _ _ h; exact h) (Or.inl ⟨by rfl, ?_⟩) (by assumption) ?_
        rotate_left
        · (intro w9 hSw; (try dsimp only at hSw); go_simp <;> with_reducible rfl)
        try simp only [Act.put, List.setIfInBounds_toArray, List.set_cons_zero, List.set_cons_succ]
        refine wpAnyH_ready (rs := [2]) (by kernel_rfl) (by simp) ?_
        refine AllReadyH.cons (by simp only [List.getElem?_toArray, List.getElem?_cons_zero, List.getElem?_cons_succ]; rfl) (fun K hK => ?_) AllReadyH.nil
        go_simp
        (go_at_call 19; refine (l7copyG_any m a len cap xs _ ((unhide H1).below (bel_drew (Below.refl _ _))) (by omega)).mono ?_; rintro e9 w2 ⟨vc, rfl, hOc, hbw2⟩; obtain ⟨ac, cc, rfl⟩ : ∃ ac cc, vc = .slice ac len cc := (by rcases hOc.2 with ⟨rfl, h0⟩ | ⟨g9, cap9, cur, rfl, _⟩ <;> first | exact ⟨none, 0, by rw [h0]⟩ | exact ⟨_, _, rfl⟩))
        (try go_wp2_with fail)
        have zw2 := hbw2.size
        (try simp at zw2)
        have bJ := (hbw2.block (w.heap.size) (by first | omega | (simp; done) | (simp; omega))).trans bJ
        have bS := (hbw2.block (w.heap.size + 1) (by first | omega | (simp; done) | (simp; omega))).trans bS
        refine hK.out _ _ ?_ (fun hHeld2 => ?_)
        · (try dsimp only); exact ⟨bJ, bS⟩
        clear hK K hHeld
        have hHeld := hHeld2
        clear hHeld2
        try simp only [Act.put, List.setIfInBounds_toArray, List.set_cons_zero, List.set_cons_succ]
        have HRc : OrRs w2 ac len xs := by
          have h9 : OwnOr w2 (w1.drew.heap.size + 2) (.slice ac len cc) xs := by unfold OwnOr; rw [hxl]; exact hOc
          obtain ⟨a8, c8, e8, H8, _, _⟩ := holdOr h9 (by omega)
          simp at e8
          obtain ⟨rfl, e7, rfl⟩ := e8
          rw [hxl] at H8
          exact H8
        refine wpAnyH_ready (rs := [4]) (by kernel_rfl) (by simp) ?_
        refine AllReadyH.cons (by simp only [List.getElem?_toArray, List.getElem?_cons_zero, List.getElem?_cons_succ]; rfl) (fun K hK => ?_) AllReadyH.nil
        go_simp
        (go_at_call 18; refine (l7mark_t s t k z q l e b v r m ac len cc xs mark _ HRc hcm hl (unhide HXX) (by omega)).mono ?_; rintro e9 w3 ⟨v1, v2, rfl, hO3, hP3, hbw3⟩)
        (try go_wp2_with fail)
        have zw3 := hbw3.size
        (try simp at zw3)
        have bJ := (hbw3.block (w.heap.size) (by first | omega | (simp; done) | (simp; omega))).trans bJ
        have bS := (hbw3.block (w.heap.size + 1) (by first | omega | (simp; done) | (simp; omega))).trans bS
        refine hK.out _ _ ?_ (fun hHeld2 => ?_)
        · (try dsimp only); exact ⟨bJ, bS⟩
        clear hK K hHeld
        have hHeld := hHeld2
        clear hHeld2
        try simp only [Act.put, List.setIfInBounds_toArray, List.set_cons_zero, List.set_cons_succ]
        refine wpAnyH_take (i := 5) (v := ?_) (by simp only [List.getElem?_toArray, List.getElem?_cons_zero, List.getElem?_cons_succ]; rfl) (by kernel_rfl) (by kernel_rfl) (by kernel_rfl) (by intro _ _ _ h; exact h) (Or.inl ⟨by rfl, ?_⟩) (by assumption) ?_
        rotate_left
        · (intro w9 hSw; (try dsimp only at hSw); go_simp <;> with_reducible rfl)
        try simp only [Act.put, List.setIfInBounds_toArray, List.set_cons_zero, List.set_cons_succ]
        refine wpAnyH_take (i := 6) (v := ?_) (by simp only [List.getElem?_toArray, List.getElem?_cons_zero, List.getElem?_cons_succ]; rfl) (by kernel_rfl) (by kernel_rfl) (by kernel_rfl) (by intro _ _ _ h; exact h) (Or.inl ⟨by rfl, ?_⟩) (by assumption) ?_
        rotate_left
        · (intro w9 hSw; (try dsimp only at hSw); go_simp <;> with_reducible rfl)
        try simp only [Act.put, List.setIfInBounds_toArray, List.set_cons_zero, List.set_cons_succ]
        obtain ⟨a1, n1, c1, rfl⟩ : ∃ a1 n1 c1, v1 = .slice a1 n1 c1 := (by rcases hO3.2 with ⟨rfl, h0⟩ | ⟨g9, cap9, cur, rfl, _⟩ <;> exact ⟨_, _, _, rfl⟩)
        have zz2 : w1.heap.size ≤ w2.heap.size := hbw2.size
        have zz3 : w2.heap.size ≤ w3.heap.size := hbw3.size
        have bR3 : w3.heap[w.heap.size + 1 + 1]? = some (.cells #[.int .i64 0, .slice none 0 0] 30 (0, 0)) := (hbw3.block (w.heap.size + 1 + 1) (by omega)).trans ((hbw2.block (w.heap.size + 1 + 1) (show w.heap.size + 1 + 1 < w1.heap.size from hz1)).trans bR1)
        have q0 : w3.cell? ⟨w.heap.size + 1 + 1, 0, none⟩ = some (.int .i64 0) := Joins.cell_of_block bR3 0
        have q1 : w3.cell? ⟨w.heap.size + 1 + 1, 1, none⟩ = some (.slice none 0 0) := Joins.cell_of_block bR3 1
        have f0 : w3.frozen? ⟨w.heap.size + 1 + 1, 0, none⟩ = false := by simp [World.frozen?, bR3]
        have f1 : w3.frozen? ⟨w.heap.size + 1 + 1, 1, none⟩ = false := by simp [World.frozen?, bR3]
        have bRf : ((w3.setCell ⟨w.heap.size + 1 + 1, 0, none⟩ (.int .i64 mark)).setCell ⟨w.heap.size + 1 + 1, 1, none⟩ (.slice a1 n1 c1)).heap[w.heap.size + 1 + 1]? = some (.cells #[.int .i64 mark, .slice a1 n1 c1] 30 (0, 0)) := Joins.block_setCell (Joins.block_setCell bR3 _) _
        have hOf := own_setX (u := .slice a1 n1 c1) (p := ⟨w.heap.size + 1 + 1, 1, none⟩) (own_setX (u := .int .i64 mark) (p := ⟨w.heap.size + 1 + 1, 0, none⟩) hO3 (own_ne_ty hO3 bR3 (by decide))) (own_ne_ty hO3 bR3 (by decide))
        have hPf := own_setX (u := .slice a1 n1 c1) (p := ⟨w.heap.size + 1 + 1, 1, none⟩) (own_setX (u := .int .i64 mark) (p := ⟨w.heap.size + 1 + 1, 0, none⟩) hP3 (own_ne_ty hP3 bR3 (by decide))) (own_ne_ty hP3 bR3 (by decide))
        have hbf : Below w.heap.size w ((w3.setCell ⟨w.heap.size + 1 + 1, 0, none⟩ (.int .i64 mark)).setCell ⟨w.heap.size + 1 + 1, 1, none⟩ (.slice a1 n1 c1)) := bel_set (bel_set (bel_trans (bel_trans (bel_drew hbw1) hbw2) hbw3) (by simp; omega) _) (by simp; omega) _
        refine wpAnyH_ready (rs := [7]) (by kernel_rfl) (by simp) ?_
        refine AllReadyH.cons (by simp only [List.getElem?_toArray, List.getElem?_cons_zero, List.getElem?_cons_succ]; rfl) (fun K hK => ?_) AllReadyH.nil
        go_simp
        refine hK.out _ _ ?_ (fun hHeld2 => ?_)
        · (try dsimp only); exact ⟨(Below.heap_setCell _ _ _ _ (by first | (simp; done) | (simp; omega) | omega)).trans ((Below.heap_setCell _ _ _ _ (by first | (simp; done) | (simp; omega) | omega)).trans bJ), (Below.heap_setCell _ _ _ _ (by first | (simp; done) | (simp; omega) | omega)).trans ((Below.heap_setCell _ _ _ _ (by first | (simp; done) | (simp; omega) | omega)).trans bS)⟩
        clear hK K hHeld
        have hHeld := hHeld2
        clear hHeld2
        try simp only [Act.put, List.setIfInBounds_toArray, List.set_cons_zero, List.set_cons_succ]
        refine wpAnyH_take (i := 8) (v := ?_) (by simp only [List.getElem?_toArray, List.getElem?_cons_zero, List.getElem?_cons_succ]; rfl) (by kernel_rfl) (by kernel_rfl) (by kernel_rfl) (by intro _ _ _ h; exact h) (Or.inl ⟨by rfl, ?_⟩) (by assumption) ?_
        rotate_left
        · (intro w9 hSw; (try dsimp only at hSw); go_simp <;> with_reducible rfl)
        try simp only [Act.put, List.setIfInBounds_toArray, List.set_cons_zero, List.set_cons_succ]
        refine wpAnyH_done (by kernel_rfl) ?_ _
        clear hHeld q0 q1 f0 f1 bJ bS bR3 hO3 hP3
        generalize ((w3.setCell ⟨w.heap.size + 1 + 1, 0, none⟩ (.int .i64 mark)).setCell ⟨w.heap.size + 1 + 1, 1, none⟩ (.slice a1 n1 c1)) = wF at bRf hOf hPf hbf ⊢
        have g0 : wF.cell? ⟨w.heap.size + 1 + 1, 0, none⟩ = some (.int .i64 mark) := Joins.cell_of_block bRf 0
        have g1 : wF.cell? ⟨w.heap.size + 1 + 1, 1, none⟩ = some (.slice a1 n1 c1) := Joins.cell_of_block bRf 1
        have e9 : markF s t k z q l e b v r m xs mark = (mark, mkRows l mark xs, mkPans b mark xs) := by rw [unhide HMF]; exact if_pos hcm
        have HE9 := hide e9
        clear e9 HMF
        go_wp2
        refine bodyPost_ret (v := .tuple #[.agg #[.int .i64 mark, .slice a1 n1 c1], v2]) (by simp (maxDischargeDepth := 9) [results, Try.results5, go_sem, *]) rfl ?_
        refine ⟨_, _, by rw [unhide HE9], ?_, ?_, hbf⟩
        · rw [unhide HE9]
          exact own_monoX hOf (by omega)
        · rw [unhide HE9]
          exact own_monoX hPf (by omega)
      · skip
        refine wp_region_held_drew (S := (fun W => W.heap[w.heap.size]? = some (.cells #[.int .i64 s, .int .i64 t, .int .i64 k, .int .i64 z, .int .i64 q, .int .i64 l, .int .i64 e, .bool b, .int .i64 v, .int .i64 r] 34 (0, 0)) ∧ W.heap[w.heap.size + 1]? = some (.cells #[.int .i64 m, .slice a len cap] 30 (0, 0)))) (by kernel_rfl) ?_ (fun hHeld => ?_)
        · (try dsimp only); exact ⟨bJ, bS⟩
        refine wpAnyH_take (i := 0) (v := ?_) (by simp only [List.getElem?_toArray, List.getElem?_cons_zero, List.getElem?_cons_succ]; rfl) (by kernel_rfl) (by kernel_rfl) (by kernel_rfl) (by intro _ _ _ h; exact h) (Or.inl ⟨by rfl, ?_⟩) (by assumption) ?_
        rotate_left
        · (intro w9 hSw; (try dsimp only at hSw); obtain ⟨q0, q1⟩ := hSw; have g0x0 : w9.cell? ⟨w.heap.size, 0, none⟩ = some (.int .i64 s) := (by simp [World.cell?, q0, go_sem]); have g0x1 : w9.cell? ⟨w.heap.size, 1, none⟩ = some (.int .i64 t) := (by simp [World.cell?, q0, go_sem]); have g0x2 : w9.cell? ⟨w.heap.size, 2, none⟩ = some (.int .i64 k) := (by simp [World.cell?, q0, go_sem]); have g0x3 : w9.cell? ⟨w.heap.size, 3, none⟩ = some (.int .i64 z) := (by simp [World.cell?, q0, go_sem]); have g0x4 : w9.cell? ⟨w.heap.size, 4, none⟩ = some (.int .i64 q) := (by simp [World.cell?, q0, go_sem]); have g0x5 : w9.cell? ⟨w.heap.size, 5, none⟩ = some (.int .i64 l) := (by simp [World.cell?, q0, go_sem]); have g0x6 : w9.cell? ⟨w.heap.size, 6, none⟩ = some (.int .i64 e) := (by simp [World.cell?, q0, go_sem]); have g0x7 : w9.cell? ⟨w.heap.size, 7, none⟩ = some (.bool b) := (by simp [World.cell?, q0, go_sem]); have g0x8 : w9.cell? ⟨w.heap.size, 8, none⟩ = some (.int .i64 v) := (by simp [World.cell?, q0, go_sem]); have g0x9 : w9.cell? ⟨w.heap.size, 9, none⟩ = some (.int .i64 r) := (by simp [World.cell?, q0, go_sem]); go_simp <;> with_reducible rfl)
        try simp only [Act.put, List.setIfInBounds_toArray, List.set_cons_zero, List.set_cons_succ]
        refine wpAnyH_take (i := 1) (v := ?_) (by simp only [List.getElem?_toArray, List.getElem?_cons_zero, List.getElem?_cons_succ]; rfl) (by kernel_rfl) (by kernel_rfl) (by kernel_rfl) (by intro _ _ _ h; exact h) (Or.inl ⟨by rfl, ?_⟩) (by assumption) ?_
        rotate_left
        · (intro w9 hSw; (try dsimp only at hSw); obtain ⟨q0, q1⟩ := hSw; have g1x0 : w9.cell? ⟨w.heap.size + 1, 0, none⟩ = some (.int .i64 m) := (by simp [World.cell?, q1, go_sem]); have g1x1 : w9.cell? ⟨w.heap.size + 1, 1, none⟩ = some (.slice a len cap) := (by simp [World.cell?, q1, go_sem]); go_simp <;> with_reducible rfl)
        try simp only [Act.put, List.setIfInBounds_toArray, List.set_cons_zero, List.set_cons_succ]
        refine wpAnyH_take (i := 3) (v := ?_) (by simp only [List.getElem?_toArray, List.getElem?_cons_zero, List.getElem?_cons_succ]; rfl) (by kernel_rfl) (by kernel_rfl) (by kernel_rfl) (by intro _ _ _ h; exact h) (Or.inl ⟨by rfl, ?_⟩) (by assumption) ?_
        rotate_left
        · (intro w9 hSw; (try dsimp only at hSw); go_simp <;> with_reducible rfl)
        try simp only [Act.put, List.setIfInBounds_toArray, List.set_cons_zero, List.set_cons_succ]
        refine wpAnyH_ready (rs := [2]) (by kernel_rfl) (by simp) ?_
        refine AllReadyH.cons (by simp only [List.getElem?_toArray, List.getElem?_cons_zero, List.getElem?_cons_succ]; rfl) (fun K hK => ?_) AllReadyH.nil
        go_simp
        (go_at_call 19; refine (l7copyG_any m a len cap xs _ ((unhide H1).below (bel_drew (Below.refl _ _))) (by omega)).mono ?_; rintro e9 w2 ⟨vc, rfl, hOc, hbw2⟩; obtain ⟨ac, cc, rfl⟩ : ∃ ac cc, vc = .slice ac len cc := (by rcases hOc.2 with ⟨rfl, h0⟩ | ⟨g9, cap9, cur, rfl, _⟩ <;> first | exact ⟨none, 0, by rw [h0]⟩ | exact ⟨_, _, rfl⟩))
        (try go_wp2_with fail)
        have zw2 := hbw2.size
        (try simp at zw2)
        have bJ := (hbw2.block (w.heap.size) (by first | omega | (simp; done) | (simp; omega))).trans bJ
        have bS := (hbw2.block (w.heap.size + 1) (by first | omega | (simp; done) | (simp; omega))).trans bS
        refine hK.out _ _ ?_ (fun hHeld2 => ?_)
        · (try dsimp only); exact ⟨bJ, bS⟩
        clear hK K hHeld
        have hHeld := hHeld2
        clear hHeld2
        try simp only [Act.put, List.setIfInBounds_toArray, List.set_cons_zero, List.set_cons_succ]
        have HRc : OrRs w2 ac len xs := by
          have h9 : OwnOr w2 (w1.drew.heap.size + 2) (.slice ac len cc) xs := by unfold OwnOr; rw [hxl]; exact hOc
          obtain ⟨a8, c8, e8, H8, _, _⟩ := holdOr h9 (by omega)
          simp at e8
          obtain ⟨rfl, e7, rfl⟩ := e8
          rw [hxl] at H8
          exact H8
        refine wpAnyH_ready (rs := [4]) (by kernel_rfl) (by simp) ?_
        refine AllReadyH.cons (by simp only [List.getElem?_toArray, List.getElem?_cons_zero, List.getElem?_cons_succ]; rfl) (fun K hK => ?_) AllReadyH.nil
        go_simp
        (go_at_call 18; refine (l7mark_f s t k z q l e b v r m ac len cc mark _ (by omega)).mono ?_; rintro e9 w3 ⟨v2, rfl, hP3, hbw3⟩)
        (try go_wp2_with fail)
        have zw3 := hbw3.size
        (try simp at zw3)
        have bJ := (hbw3.block (w.heap.size) (by first | omega | (simp; done) | (simp; omega))).trans bJ
        have bS := (hbw3.block (w.heap.size + 1) (by first | omega | (simp; done) | (simp; omega))).trans bS
        refine hK.out _ _ ?_ (fun hHeld2 => ?_)
        · (try dsimp only); exact ⟨bJ, bS⟩
        clear hK K hHeld
        have hHeld := hHeld2
        clear hHeld2
        try simp only [Act.put, List.setIfInBounds_toArray, List.set_cons_zero, List.set_cons_succ]
        refine wpAnyH_take (i := 5) (v := ?_) (by simp only [List.getElem?_toArray, List.getElem?_cons_zero, List.getElem?_cons_succ]; rfl) (by kernel_rfl) (by kernel_rfl) (by kernel_rfl) (by intro _ _ _ h; exact h) (Or.inl ⟨by rfl, ?_⟩) (by assumption) ?_
        rotate_left
        · (intro w9 hSw; (try dsimp only at hSw); go_simp <;> with_reducible rfl)
        try simp only [Act.put, List.setIfInBounds_toArray, List.set_cons_zero, List.set_cons_succ]
        refine wpAnyH_take (i := 6) (v := ?_) (by simp only [List.getElem?_toArray, List.getElem?_cons_zero, List.getElem?_cons_succ]; rfl) (by kernel_rfl) (by kernel_rfl) (by kernel_rfl) (by intro _ _ _ h; exact h) (Or.inl ⟨by rfl, ?_⟩) (by assumption) ?_
        rotate_left
        · (intro w9 hSw; (try dsimp only at hSw); go_simp <;> with_reducible rfl)
        try simp only [Act.put, List.setIfInBounds_toArray, List.set_cons_zero, List.set_cons_succ]
        have hO3 : OwnOr w3 (w1.drew.heap.size + 2) (.slice ac len cc) xs := by
          have h9 : OwnOr w2 (w1.drew.heap.size + 2) (.slice ac len cc) xs := by unfold OwnOr; rw [hxl]; exact hOc
          exact own_row h9 (grown_of0 hbw3) (fun _ e9 => by cases e9)
        have zz2 : w1.heap.size ≤ w2.heap.size := hbw2.size
        have zz3 : w2.heap.size ≤ w3.heap.size := hbw3.size
        have bR3 : w3.heap[w.heap.size + 1 + 1]? = some (.cells #[.int .i64 0, .slice none 0 0] 30 (0, 0)) := (hbw3.block (w.heap.size + 1 + 1) (by omega)).trans ((hbw2.block (w.heap.size + 1 + 1) (show w.heap.size + 1 + 1 < w1.heap.size from hz1)).trans bR1)
        have q0 : w3.cell? ⟨w.heap.size + 1 + 1, 0, none⟩ = some (.int .i64 0) := Joins.cell_of_block bR3 0
        have q1 : w3.cell? ⟨w.heap.size + 1 + 1, 1, none⟩ = some (.slice none 0 0) := Joins.cell_of_block bR3 1
        have f0 : w3.frozen? ⟨w.heap.size + 1 + 1, 0, none⟩ = false := by simp [World.frozen?, bR3]
        have f1 : w3.frozen? ⟨w.heap.size + 1 + 1, 1, none⟩ = false := by simp [World.frozen?, bR3]
        have bRf : ((w3.setCell ⟨w.heap.size + 1 + 1, 0, none⟩ (.int .i64 m)).setCell ⟨w.heap.size + 1 + 1, 1, none⟩ (.slice ac len cc)).heap[w.heap.size + 1 + 1]? = some (.cells #[.int .i64 m, .slice ac len cc] 30 (0, 0)) := Joins.block_setCell (Joins.block_setCell bR3 _) _
        have hOf := own_setX (u := .slice ac len cc) (p := ⟨w.heap.size + 1 + 1, 1, none⟩) (own_setX (u := .int .i64 m) (p := ⟨w.heap.size + 1 + 1, 0, none⟩) hO3 (own_ne_ty hO3 bR3 (by decide))) (own_ne_ty hO3 bR3 (by decide))
        have hPf := own_setX (u := .slice ac len cc) (p := ⟨w.heap.size + 1 + 1, 1, none⟩) (own_setX (u := .int .i64 m) (p := ⟨w.heap.size + 1 + 1, 0, none⟩) hP3 (own_ne_ty hP3 bR3 (by decide))) (own_ne_ty hP3 bR3 (by decide))
        have hbf : Below w.heap.size w ((w3.setCell ⟨w.heap.size + 1 + 1, 0, none⟩ (.int .i64 m)).setCell ⟨w.heap.size + 1 + 1, 1, none⟩ (.slice ac len cc)) := bel_set (bel_set (bel_trans (bel_trans (bel_drew hbw1) hbw2) hbw3) (by simp; omega) _) (by simp; omega) _
        refine wpAnyH_ready (rs := [7]) (by kernel_rfl) (by simp) ?_
        refine AllReadyH.cons (by simp only [List.getElem?_toArray, List.getElem?_cons_zero, List.getElem?_cons_succ]; rfl) (fun K hK => ?_) AllReadyH.nil
        go_simp
        refine hK.out _ _ ?_ (fun hHeld2 => ?_)
        · (try dsimp only); exact ⟨(Below.heap_setCell _ _ _ _ (by first | (simp; done) | (simp; omega) | omega)).trans ((Below.heap_setCell _ _ _ _ (by first | (simp; done) | (simp; omega) | omega)).trans bJ), (Below.heap_setCell _ _ _ _ (by first | (simp; done) | (simp; omega) | omega)).trans ((Below.heap_setCell _ _ _ _ (by first | (simp; done) | (simp; omega) | omega)).trans bS)⟩
        clear hK K hHeld
        have hHeld := hHeld2
        clear hHeld2
        try simp only [Act.put, List.setIfInBounds_toArray, List.set_cons_zero, List.set_cons_succ]
        refine wpAnyH_take (i := 8) (v := ?_) (by simp only [List.getElem?_toArray, List.getElem?_cons_zero, List.getElem?_cons_succ]; rfl) (by kernel_rfl) (by kernel_rfl) (by kernel_rfl) (by intro _ _ _ h; exact h) (Or.inl ⟨by rfl, ?_⟩) (by assumption) ?_
        rotate_left
        · (intro w9 hSw; (try dsimp only at hSw); go_simp <;> with_reducible rfl)
        try simp only [Act.put, List.setIfInBounds_toArray, List.set_cons_zero, List.set_cons_succ]
        refine wpAnyH_done (by kernel_rfl) ?_ _
        clear hHeld q0 q1 f0 f1 bJ bS bR3 hO3 hP3
        generalize ((w3.setCell ⟨w.heap.size + 1 + 1, 0, none⟩ (.int .i64 m)).setCell ⟨w.heap.size + 1 + 1, 1, none⟩ (.slice ac len cc)) = wF at bRf hOf hPf hbf ⊢
        have g0 : wF.cell? ⟨w.heap.size + 1 + 1, 0, none⟩ = some (.int .i64 m) := Joins.cell_of_block bRf 0
        have g1 : wF.cell? ⟨w.heap.size + 1 + 1, 1, none⟩ = some (.slice ac len cc) := Joins.cell_of_block bRf 1
        have e9 : markF s t k z q l e b v r m xs mark = (m, xs, []) := by rw [unhide HMF]; exact if_neg (by omega)
        have HE9 := hide e9
        clear e9 HMF
        go_wp2
        refine bodyPost_ret (v := .tuple #[.agg #[.int .i64 m, .slice ac len cc], v2]) (by simp (maxDischargeDepth := 9) [results, Try.results5, go_sem, *]) rfl ?_
        refine ⟨_, _, by rw [unhide HE9], ?_, ?_, hbf⟩
        · rw [unhide HE9]
          exact own_monoX hOf (by show w.heap.size ≤ w1.heap.size + 2; omega)
        · rw [unhide HE9]
          exact own_monoX hPf (by omega)
end Go.Proofs.Ytflignpbboiahaa
