/- Proved here: what a row that lists the words of a job's lines gives a walk. -/
import Derived.Test.YtgccnmegbdlefaaDoorJpI
import Derived.LaidMore
import Derived.LaidSub
import Derived.LaidLaws
import Derived.Lib.LaidTab
import Derived.OpenVars
namespace Go.Proofs.YtgccnmegbdlefaaDoor
open Go.ChangeShapes Go.WideShapes Go.ChangeAt Go.RowKit
set_option linter.unusedVariables false
set_option linter.unusedSimpArgs false

def txtData {H : Type} (zs : List ByteArray) : DataW H := .agg (zs.map fun b => .lit (.string b.data.toList))
theorem cells_of_txts {H : Type} {enc : TypeId × Value → H} {P : Program} {w : World} {base : Nat} {sp : Nat → Bool} {held : Bool} {fuel : Nat} {t e : TypeId} {n : Nat} {cs : List Value} {zs : List ByteArray} {p : List MemPlace}
    (ht : P.underlying t = some (.array n e)) (he : P.underlying e = some .string) (hce : P.cellsOf e = 1) (hct : P.cellsOf t = n)
    (h : DataW.trod enc P w base sp held fuel t cs = some (txtData zs, p)) : cs = zs.map Value.string := by
  cases fuel with
  | zero => simp [DataW.trod] at h
  | succ fuel =>
    simp only [DataW.trod, ht, hce, hct, Nat.mul_one] at h
    split at h
    · rename_i hl
      obtain ⟨xs, hm, hx⟩ := Option.map_eq_some_iff.1 h
      have hxs : xs.map (·.1) = zs.map fun z => (DataW.lit (.string z.data.toList) : DataW H) := by
        have := congrArg Prod.fst hx
        simpa [txtData] using this
      have hxl : xs.length = n := by simpa using Lib.mapM_length hm
      have hzl : zs.length = n := by
        have := congrArg List.length hxs
        simp at this
        omega
      apply List.ext_getElem?
      intro i
      by_cases hi : i < n
      · obtain ⟨b, hb, hf⟩ := Lib.mapM_at hm i i (by simp [hi])
        obtain ⟨z, hc, rfl, _⟩ := DataW.trod_string he hf
        have h1 : cs[i]? = some (.string z) := by
          have := congrArg (·[0]?) hc
          simpa [List.getElem?_take, List.getElem?_drop] using this
        have h2 : (xs.map (·.1))[i]? = some (DataW.lit (.string z.data.toList) : DataW H) := by simp [hb]
        rw [hxs] at h2
        simp only [List.getElem?_map, Option.map_eq_some_iff, DataW.lit.injEq, Lit.string.injEq] at h2
        obtain ⟨z', hz', hzz⟩ := h2
        have h3 : z' = z := by
          obtain ⟨⟨l⟩⟩ := z; obtain ⟨⟨l'⟩⟩ := z'
          simp at hzz; rw [hzz]
        rw [h1, List.getElem?_map, hz', h3]; rfl
      · rw [List.getElem?_eq_none (by omega), List.getElem?_eq_none (by simp; omega)]
    · cases h
theorem gWords : Tryd.prog.globalNamed "loop.example/freshet/impl.jobWords" = some 0 := by kernel_rfl
theorem tyWords : (Tryd.prog.globals[0]?).map (·.type) = some 47 := by kernel_rfl
theorem words_of {W : World} {l : List (String × DataW Unit)} (h : laidMetH Tryd.prog l W) (hl : (l.filter fun x => x.1 == "loop.example/freshet/impl.jobWords") = [("loop.example/freshet/impl.jobWords", txtData jNames)]) : WordsG W := by
  have h1 := h.filter (fun x => x.1 == "loop.example/freshet/impl.jobWords")
  rw [hl, MakeChecks.laidMetH_plain _ _ _ (by kernel_rfl)] at h1
  obtain ⟨ps, ⟨g', t', cs, fuel, p, q, hg', ht', hvar, hd, _, _⟩, _⟩ := h1
  obtain rfl := Option.some.inj (gWords.symm.trans hg')
  obtain rfl := Option.some.inj (tyWords.symm.trans ht')
  have hc := cells_of_txts Tryd.underlying47 Tryd.underlying9 (by kernel_rfl) (by kernel_rfl) hd
  have hb : 0 < W.heap.size := by
    unfold World.var? at hvar
    rw [gWords] at hvar
    simp only [Option.bind_some] at hvar
    cases hh : W.heap[0]? with
    | none => rw [hh] at hvar; cases hvar
    | some o => exact (Array.getElem?_eq_some_iff.1 hh).1
  refine ⟨fun i x hx => ?_, hb⟩
  rw [World.var?_cell gWords hvar i, ← Array.getElem?_toList, hc, List.getElem?_map, hx]; rfl
end Go.Proofs.YtgccnmegbdlefaaDoor
