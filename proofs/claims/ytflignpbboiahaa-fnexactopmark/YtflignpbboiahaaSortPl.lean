/- Proved here: places are sorted, each once, as slices.SortFunc does it with compare. -/
import Derived.Test.YtflignpbboiahaaShelf
import Derived.Test.YtflignpbboiahaaCmpG
namespace Go.Proofs.Ytflignpbboiahaa
open Go.ChangeShapes Go.WideShapes Go.ChangeAt Go.RowKit Go.Shelf Go.Lib Go.Sort
set_option linter.unusedVariables false

/-- A place as its three numbers; how two stand. -/
abbrev Pl := Int × Int × Int
def encPl (x : Pl) : List Value := [.int .i64 x.1, .int .i64 x.2.1, .int .i64 x.2.2]
def cfPl (x y : Pl) : Int := plCmp x.1 x.2.1 x.2.2 y.1 y.2.1 y.2.2
def ltPl (x y : Pl) : Prop := x.1 < y.1 ∨ (x.1 = y.1 ∧ (x.2.1 < y.2.1 ∨ (x.2.1 = y.2.1 ∧ x.2.2 < y.2.2)))
theorem cfPl_iff (x y : Pl) : cfPl x y < 0 ↔ ltPl x y := by
  unfold cfPl plCmp orI cmpI ltPl
  by_cases h1 : x.1 < y.1
  · simp [h1]
  · by_cases h2 : y.1 < x.1
    · simp [h1, h2]; omega
    · have e1 : x.1 = y.1 := by omega
      by_cases h3 : x.2.1 < y.2.1
      · simp [e1, h3]
      · by_cases h4 : y.2.1 < x.2.1
        · simp [e1, h3, h4]; omega
        · have e2 : x.2.1 = y.2.1 := by omega
          by_cases h5 : x.2.2 < y.2.2
          · simp [e1, e2, h5]
          · by_cases h6 : y.2.2 < x.2.2
            · simp [e1, e2, h5, h6]
            · simp [e1, e2, h5, h6]
theorem ltOfPl (x y : Pl) : ltOf cfPl x y = true ↔ ltPl x y := by
  unfold ltOf
  rw [decide_eq_true_iff]
  exact cfPl_iff x y
theorem ltOfPl_f (x y : Pl) : ltOf cfPl x y = false ↔ ¬ ltPl x y := by
  rw [← ltOfPl]
  simp
theorem swoPl : SWO (ltOf cfPl) where
  irrefl x := by rw [ltOfPl_f]; unfold ltPl; omega
  trans x y z h1 h2 := by rw [ltOfPl] at *; unfold ltPl at *; omega
  ntrans x y z h1 h2 := by rw [ltOfPl_f] at *; unfold ltPl at *; omega
theorem totPl (x y : Pl) (h1 : ltOf cfPl x y = false) (h2 : ltOf cfPl y x = false) : x = y := by
  rw [ltOfPl_f] at h1 h2
  unfold ltPl at h1 h2
  obtain ⟨a, b, c⟩ := x
  obtain ⟨a', b', c'⟩ := y
  simp only at h1 h2
  have e1 : a = a' := by omega
  have e2 : b = b' := by omega
  have e3 : c = c' := by omega
  rw [e1, e2, e3]
theorem cmpPl (blk off size : Nat) (w : World) : CmpLays Try.prog 55 #[] encPl 3 cfPl blk off size w := by
  intro m os dk hd x y
  exact compare_grow x.1 x.2.1 x.2.2 y.1 y.2.1 y.2.2 _
theorem sortpl_any (blk off cap : Nat) (d : Array Pl) (w : World) (hH : HoldsK encPl 3 w blk off d) (hblk : blk < w.heap.size) (hsz : d.size < 4611686018427387904) :
    Calls Try.prog 67 #[.slice (some ⟨blk, off, none⟩) d.size cap, .func (.func 55) #[] #[]] w fun e w' =>
      e = .returned (.tuple #[]) ∧ ∃ n os, w' = sortWorldK encPl 3 w blk off n (d.toList.mergeSort fun x y => !(ltOf cfPl) y x).toArray os := by
  have eg : ∀ args w, (callFunc 55 args).run Try.prog w = .ok (.enter 55 args) w := enters_of Try.func55 (by kernel_rfl) rfl
  exact AnyQ.slices_SortFunc_total Try.sortPl 3 Try.isAgg80 Try.sizeOf80 encPl (fun _ => rfl) (fun x v hv => by simp [encPl] at hv; rcases hv with rfl | rfl | rfl <;> rfl) cfPl swoPl _ #[] blk off cap d w eg (cmpPl blk off d.size w) hH hblk hsz totPl
end Go.Proofs.Ytflignpbboiahaa
