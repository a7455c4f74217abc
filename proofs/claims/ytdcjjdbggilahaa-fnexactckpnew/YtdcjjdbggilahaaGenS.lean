/- Proved here, for any program: a struct of an int and a slice, read as these two. -/
import Derived.Test.YtdcjjdbggilahaaGenF
namespace Go.Proofs.Ytdcjjdbggilahaa
open Go.ChangeShapes Go.WideShapes Go.ChangeAt Go.RowKit Go.Deep
set_option linter.unusedVariables false

section
variable {H : Type} {enc : TypeId × Value → H} {P : Program} {w : World} {base : Nat} {spare : Nat → Bool} {held : Bool}

theorem slice_shape {t e : TypeId} {fuel : Nat} {cs : List Value} {x : DataW H × List MemPlace} (ht : P.underlying t = some (.slice e)) (h : DataW.trod enc P w base spare held fuel t cs = some x) : ∃ a len cap, cs = [.slice a len cap] := by
  rcases open_slice ht h with ⟨hcs, _⟩ | ⟨a', len', cap', m, n, D, Pl, hcs, _⟩
  · exact ⟨_, _, _, hcs⟩
  · exact ⟨_, _, _, hcs⟩

theorem open_st {r : Reach} {b0 : Nat} {t t1 e : TypeId} {fs : Array Field} {v : Value} {d : DataW H} {p : List MemPlace}
    (hs : P.underlying t = some (.struct fs)) (hC : P.cellsOf t = 2)
    (h0 : (fs[0]?).map (fun f => (f.offset, P.underlying f.type, P.cellsOf f.type)) = some (0, some (.int .i64), 1))
    (h1 : (fs[1]?).map (fun f => (f.offset, f.type, P.cellsOf f.type)) = some (1, t1, 1))
    (ht : P.underlying t1 = some (.slice e))
    (hv : Value.okWide P w r b0 t v) (h : DataW.Trod enc P w base spare held t v d p) :
    ∃ m a len cap d' p', v = .agg #[.int .i64 m, .slice a len cap] ∧ (Lit.int .i64 m).wf = true ∧ DataW.Trod enc P w base spare held t1 (.slice a len cap) d' p' := by
  obtain ⟨cs, rfl, hsz⟩ := okWide_struct hs hv
  obtain ⟨fuel, hf⟩ := h
  obtain ⟨xs, n, _, _, hl, hlen, hfs⟩ := DataW.trod_struct hs hf
  rw [hC] at hsz
  obtain ⟨f0, hf0, e0⟩ := Option.map_eq_some_iff.1 h0
  obtain ⟨f1, hf1, e1⟩ := Option.map_eq_some_iff.1 h1
  simp only [Prod.mk.injEq] at e0 e1
  have l0 : 0 < fs.size := (Array.getElem?_eq_some_iff.1 hf0).1
  have l1 : 1 < fs.size := (Array.getElem?_eq_some_iff.1 hf1).1
  have r0 := hfs 0 f0 hf0
  have r1 := hfs 1 f1 hf1
  rw [e0.1, e0.2.2, List.getElem?_eq_getElem (by omega)] at r0
  rw [e1.1, e1.2.2, e1.2.1, List.getElem?_eq_getElem (by omega)] at r1
  obtain ⟨z, hz, _, hw⟩ := DataW.trod_int e0.2.1 r0
  obtain ⟨a, len, cap, hc⟩ := slice_shape ht r1
  rw [hc] at r1
  have hcl : (Value.agg cs).cells = cs := by simp [Value.cells]
  rw [hcl] at hz hc
  have hcs : cs = #[.int .i64 z, .slice a len cap] := by
    obtain ⟨l⟩ := cs
    match l, hsz with
    | [u, v'], _ =>
      simp at hz hc
      rw [hz, hc]
  exact ⟨z, a, len, cap, _, _, by rw [hcs], hw, n, r1⟩
end
end Go.Proofs.Ytdcjjdbggilahaa
