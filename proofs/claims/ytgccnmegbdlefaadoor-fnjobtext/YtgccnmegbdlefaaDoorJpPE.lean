/- Proved here: what the listed variables give a walk that reads a job. -/
import Derived.Test.YtgccnmegbdlefaaDoorJpG
import Derived.Test.YtgccnmegbdlefaaDoorJpP1
import Derived.LaidMore
import Derived.LaidSub
import Derived.Stop.LaidErr
import Derived.Stop.Joined
import Derived.LaidHandle
import Derived.LaidLaws
namespace Go.Proofs.YtgccnmegbdlefaaDoor
open Go.ChangeShapes Go.WideShapes Go.ChangeAt Go.RowKit
set_option linter.unusedVariables false
set_option linter.unusedSimpArgs false

theorem tyPowJ : (Tryd.prog.globals[2]?).map (·.type) = some 111 := by kernel_rfl

theorem tyES : (Tryd.prog.globals[5]?).map (·.type) = some 51 := by kernel_rfl

theorem tyER : (Tryd.prog.globals[6]?).map (·.type) = some 51 := by kernel_rfl

theorem star : "*" ++ "errors.errorString" = "*errors.errorString" := by decide

theorem errRow (u : TypeId) (h : Tryd.prog.typeName? 3 u = some "*errors.errorString") : u = 137 :=
  typeName_ptr_named (nm := "errors.errorString") (by rw [star]; kernel_rfl) (by kernel_rfl) (by decide) u (by rw [star]; exact h)

theorem cellsE : Tryd.prog.cellsOf 139 = 1 := by kernel_rfl

theorem cellsS : Tryd.prog.cellsOf 9 = 1 := by kernel_rfl

theorem tab_ofJ {W : World} {l : List (String × DataW Unit)} (h : laidMetH Tryd.prog l W) (hl : (l.filter fun x => x.1 == "internal/strconv.uint64pow10") = [("internal/strconv.uint64pow10", Lib.tabData .u64 Lib.pow10Tab)]) : Lib.TabIs Tryd.prog W "internal/strconv.uint64pow10" .u64 Lib.pow10Tab := by
  have h1 := h.filter (fun x => x.1 == "internal/strconv.uint64pow10")
  rw [hl, MakeChecks.laidMetH_plain _ _ _ (by kernel_rfl)] at h1
  exact Lib.tabIs_of_head gPow tyPowJ Tryd.underlying111 Tryd.underlying103 (by kernel_rfl) (by kernel_rfl) h1

/-- A sentinel as a row lists it. -/
def sentD (text : List UInt8) : DataW Unit := .iface "*errors.errorString" (.ptr (.agg [.lit (.string text)]))

theorem sent_of {W : World} {l : List (String × DataW Unit)} {n : String} {g : Nat} (text : List UInt8) (hg : Tryd.prog.globalNamed n = some g) (ht : (Tryd.prog.globals[g]?).map (·.type) = some 51) (h : laidMetH Tryd.prog l W) (hl : (l.filter fun x => x.1 == n) = [(n, sentD text)]) (hp : ([(n, sentD text)].all fun x => x.2.handleName?.isNone) = true) : ∃ a, W.var? Tryd.prog n = some #[.iface 137 (.pointer (some a))] := by
  have h1 := h.filter (fun x => x.1 == n)
  rw [hl, MakeChecks.laidMetH_plain _ _ _ hp] at h1
  obtain ⟨a, s, hv, _⟩ := laid_sentinel h1 hg ht Tryd.underlying51 errRow Tryd.underlying137 Tryd.underlying139 rfl rfl Tryd.underlying9 cellsE cellsS
  exact ⟨a, hv⟩

theorem etJ : Tryd.prog.globalNamed "errors.errorType" = some 1 := by kernel_rfl
theorem rtJ : (Tryd.prog.cutTypes.find? (·.1 == "internal/reflectlite.rtype")).map (·.2) = some 89 := by kernel_rfl
theorem oneRowJ : ((List.range Tryd.prog.types.size).filter fun t => Tryd.prog.rowNamed t [101, 114, 114, 111, 114]) = [51] := by kernel_rfl
theorem handle_ofJ {W : World} {l : List (String × DataW Unit)} (h : laidMetH Tryd.prog l W) (hl : (l.filter fun x => x.1 == "errors.errorType") = [("errors.errorType", .iface "internal/reflectlite.rtype" (.agg [.ptr (.lit (.string [101, 114, 114, 111, 114]))]))]) : W.cell? ⟨1, 0, none⟩ = some (.iface 89 (.agg #[.pointer (some ⟨7, 51, none⟩)])) ∧ 1 < W.heap.size := by
  have h1 := h.filter (fun x => x.1 == "errors.errorType")
  rw [hl] at h1
  have h' : laidMet Tryd.prog [] W ∧ handlesMet Tryd.prog [("errors.errorType", .iface "internal/reflectlite.rtype" (.agg [.ptr (.lit (.string [101, 114, 114, 111, 114]))]))] W := h1
  obtain ⟨name, u, ty, e1, e2, e3, e4, e5⟩ := h'.2 _ (List.mem_singleton.2 rfl)
  have en : name = [101, 114, 114, 111, 114] := (Option.some.inj e1).symm
  subst en
  obtain rfl := Option.some.inj (rtJ.symm.trans e2)
  have hm : ty ∈ (List.range Tryd.prog.types.size).filter fun t => Tryd.prog.rowNamed t [101, 114, 114, 111, 114] := List.mem_filter.2 ⟨List.mem_range.2 e3, e4⟩
  rw [oneRowJ] at hm
  obtain rfl := List.mem_singleton.1 hm
  have hh : typeHandle Tryd.prog 51 = .pointer (some ⟨7, 51, none⟩) := by kernel_rfl
  rw [hh] at e5
  have hc : W.cell? ⟨1, 0, none⟩ = some (.iface 89 (.agg #[.pointer (some ⟨7, 51, none⟩)])) := by simpa using World.var?_cell etJ e5 0
  refine ⟨hc, ?_⟩
  rcases Nat.lt_or_ge 1 W.heap.size with h9 | h9
  · exact h9
  · simp [World.cell?, Array.getElem?_eq_none h9] at hc
theorem env_ofJ {W : World} {l : List (String × DataW Unit)} (h : laidMetH Tryd.prog l W) (h1 : (l.filter fun x => x.1 == "internal/strconv.uint64pow10") = [("internal/strconv.uint64pow10", Lib.tabData .u64 Lib.pow10Tab)])
    (h2 : (l.filter fun x => x.1 == "strconv.ErrSyntax") = [("strconv.ErrSyntax", sentD [105, 110, 118, 97, 108, 105, 100, 32, 115, 121, 110, 116, 97, 120])]) (h3 : (l.filter fun x => x.1 == "strconv.ErrRange") = [("strconv.ErrRange", sentD [118, 97, 108, 117, 101, 32, 111, 117, 116, 32, 111, 102, 32, 114, 97, 110, 103, 101])])
    (h4 : (l.filter fun x => x.1 == "errors.errorType") = [("errors.errorType", .iface "internal/reflectlite.rtype" (.agg [.ptr (.lit (.string [101, 114, 114, 111, 114]))]))]) (h5 : (l.filter fun x => x.1 == "loop.example/freshet/impl.jobWords") = [("loop.example/freshet/impl.jobWords", txtData jNames)]) : ∃ tp1 tp2 p1 p2, EnvJ tp1 tp2 p1 p2 W := by
  obtain ⟨a, ha⟩ := sent_of [105, 110, 118, 97, 108, 105, 100, 32, 115, 121, 110, 116, 97, 120] gESJ tyES h h2 (by kernel_rfl)
  obtain ⟨b, hb⟩ := sent_of [118, 97, 108, 117, 101, 32, 111, 117, 116, 32, 111, 102, 32, 114, 97, 110, 103, 101] gERJ tyER h h3 (by kernel_rfl)
  obtain ⟨hc, hz⟩ := handle_ofJ h h4
  exact ⟨_, _, _, _, tab_ofJ h h1, ha, hb, words_of h h5, hc, hz⟩
end Go.Proofs.YtgccnmegbdlefaaDoor
