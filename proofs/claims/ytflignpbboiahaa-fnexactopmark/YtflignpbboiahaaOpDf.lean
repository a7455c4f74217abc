/- Proved here, for any program: a deferred call of a function whose body ranges over a function. -/
import Derived.RangeFuncLeaves
import Derived.Test.YtflignpbboiahaaGenA
namespace Go.Proofs.Ytflignpbboiahaa
open Go.RowKit
set_option linter.unusedVariables false
variable {P : Program} {F : Fence} {n : Nat}
/-- What the body must achieve: one mark, that holds no call. -/
def bodyPost1 (P : Program) (fn : Func) (R : Ending → World → Prop) : Exit → Act → World → Prop
  | .normal, a, w | .ret, a, w => ∃ D w', a.defers = [{ target := .collected D, args := #[] }] ∧ (Instr.takeDeferred D).run P w = .ok [] w' ∧ ∃ v, (results fn a.tmps).run P w' = .ok v w' ∧ R (.returned v) w'
  | .outgrown, _, w => R .outgrown w
  | _, _, _ => False
theorem callsDIn_of_wp_mark {f : FuncId} {fn : Func} {c : Code} {args : Array Value} {u : FrameMode} {w : World} {R : Ending → World → Prop}
    (hf : P.funcs[f]? = some fn) (hb : fn.body = some c) (hF : F.fn f)
    (h : c.wpIn F n P (bodyPost1 P fn R) { tmps := args ++ Array.replicate (fn.ntmps - args.size) undef, defers := [] } w) (hro : F.round = none := by rfl) :
    CallsDIn F n P f args u w fun e u' w' => u' = u ∧ R e w' := by
  refine ⟨hF, fun c₀ cs hu hr => ?_⟩
  let b : Frame := { (default : Frame) with fn := f, kind := .deferred, roundOf := none }
  have henter : Frame.enter P f args .deferred = b.atR { tmps := args ++ Array.replicate (fn.ntmps - args.size) undef, defers := [] } [.code c] := by
    simp [Frame.enter, Frame.atR, hf, hb, b]
  have hc : ({ c₀ with mode := u } : Frame) = c₀ := by subst hu; rfl
  obtain ⟨e, a', w', hq, harr⟩ := h b [] (c₀ :: cs) hro.symm hF hr
  rw [← henter] at harr
  cases e with
  | normal =>
    obtain ⟨D, w2, hd, htk, v, hr', hR⟩ := hq
    have h1 := step_collected (P := P) (fr := { b.atR a' [] with mode := .returning }) (cs := c₀ :: cs) (w := w') (by simp) hd rfl htk
    have i1 : (lone { b.atR a' [] with mode := .returning } (c₀ :: cs) w').fenced P F := fenced_out hF hr (by simp) hd (fun g hg => by simp [Target.leads] at hg)
    exact ⟨.returned v, u, w2, _, ⟨rfl, hR⟩, (by rw [hc]; exact StepsIn.trans (StepsIn.trans harr (.one (fenced_calm (fr := b.atR a' []) hF hr rfl) (stepR_end rfl))) (.one i1 h1)), rfl, rfl, rfl, rfl, fn, hf, hr'⟩
  | ret =>
    obtain ⟨D, w2, hd, htk, v, hr', hR⟩ := hq
    obtain ⟨todo, hs⟩ := harr.1 rfl
    have h1 := step_collected (P := P) (fr := { b.atR a' todo with mode := .returning }) (cs := c₀ :: cs) (w := w') (by simp) hd rfl htk
    have i1 : (lone { b.atR a' todo with mode := .returning } (c₀ :: cs) w').fenced P F := fenced_out hF hr (by simp) hd (fun g hg => by simp [Target.leads] at hg)
    exact ⟨.returned v, u, w2, _, ⟨rfl, hR⟩, (by rw [hc]; exact StepsIn.trans hs (.one i1 h1)), rfl, rfl, rfl, rfl, fn, hf, hr'⟩
  | panic chain => exact hq.elim
  | exit id => exact hq.elim
  | goto l => exact hq.elim
  | outgrown => exact ⟨.outgrown, u, w', b, ⟨rfl, hq⟩, harr.resolve_left (by simp [b]), rfl, rfl, trivial⟩
end Go.Proofs.Ytflignpbboiahaa
