/- Proved here: what the lines of a job are. -/
import Derived.Test.YtgccnmegbdlefaaDoorJob
import Derived.Test.YtgccnmegbdlefaaDoorDigI
import Derived.Test.YtgccnmegbdlefaaDoorRwStr2
import Derived.Test.YtgccnmegbdlefaaDoorStepA
import Derived.Test.YtgccnmegbdlefaaDoorOwnB
import Derived.Deep.RegionHeld3
import Derived.Lib.SmallJoins
namespace Go.Proofs.YtgccnmegbdlefaaDoor
open Go.ChangeShapes Go.WideShapes Go.ChangeAt Go.RowKit
set_option linter.unusedVariables false
set_option linter.unusedSimpArgs false

theorem Tryd.infoStr : (Tryd.prog.info? 9).map (fun i => (i.zero, i.size, i.bytes)) = some (some (.string ⟨#[]⟩), 1, 16) := by kernel_rfl
def jNames : List ByteArray := [⟨#[115, 111, 117, 114, 99, 101, 115]⟩, ⟨#[116, 97, 115, 107, 115]⟩, ⟨#[119, 105, 110, 100, 111, 119, 115]⟩, ⟨#[115, 105, 122, 101]⟩, ⟨#[115, 116, 101, 112]⟩, ⟨#[108, 97, 116, 101]⟩, ⟨#[116, 101, 108, 108]⟩, ⟨#[112, 105, 101, 99, 101]⟩, ⟨#[108, 101, 97, 115, 116]⟩, ⟨#[114, 111, 111, 109]⟩]
def jNums (s t k z p l e : Int) (b : Bool) (v r : Int) : List Int := [s, t, k, z, p, l, e, (if b = true then 1 else 0), v, r]
def lineOf (x : ByteArray) (n : Int) : StR := ⟨x ++ ⟨#[32]⟩ ++ decI n⟩
def jLines (ns : List Int) : List StR := List.zipWith lineOf jNames ns
def jobLines (s t k z p l e : Int) (b : Bool) (v r : Int) : List StR := if okJob s t k z p l e v r = true then jLines (jNums s t k z p l e b v r) else []
theorem jobLines_ok {s t k z p l e : Int} {b : Bool} {v r : Int} (h : okJob s t k z p l e v r = true) : jobLines s t k z p l e b v r = jLines (jNums s t k z p l e b v r) := if_pos h
theorem jobLines_no {s t k z p l e : Int} {b : Bool} {v r : Int} (h : okJob s t k z p l e v r = false) : jobLines s t k z p l e b v r = [] := if_neg (by simp [h])
theorem jLines_len {ns : List Int} (h : ns.length = 10) : (jLines ns).length = 10 := by simp [jLines, jNames, h]
theorem jLines_at {ns : List Int} {i : Nat} {x : ByteArray} {n : Int} (hx : jNames[i]? = some x) (hn : ns[i]? = some n) : (jLines ns)[i]? = some (lineOf x n) := by
  unfold jLines; rw [List.getElem?_zipWith, hx, hn]
theorem jNames_sz : ∀ x ∈ jNames, x.size ≤ 7 := by
  intro x hx
  simp only [jNames, List.mem_cons, List.not_mem_nil, or_false] at hx
  rcases hx with rfl | rfl | rfl | rfl | rfl | rfl | rfl | rfl | rfl | rfl <;> decide
theorem jNames_at {i : Nat} (h : i < 10) : ∃ x, jNames[i]? = some x ∧ x.size ≤ 7 := ⟨jNames[i]'(by simpa [jNames] using h), List.getElem?_eq_getElem _, jNames_sz _ (List.getElem_mem _)⟩
theorem jNums_bd (s t k z p l e : Int) (b : Bool) (v r : Int) (h : okJob s t k z p l e v r = true) : ∀ n ∈ jNums s t k z p l e b v r, -99999999 ≤ n ∧ n ≤ 99999999 := by
  intro n hn
  simp only [okJob, Bool.and_eq_true, inB_iff] at h
  obtain ⟨⟨⟨⟨⟨⟨⟨⟨h1, h2⟩, h3⟩, h4⟩, h5⟩, h6⟩, h7⟩, h8⟩, h9⟩ := h
  have hp : 0 ≤ p ∧ p ≤ 20 := by
    unfold stepB at h5
    split at h5
    · simp only [Bool.and_eq_true, inB_iff] at h5; omega
    · have : p = 0 := by simpa using h5
      omega
  simp only [jNums, List.mem_cons, List.not_mem_nil, or_false] at hn
  rcases hn with rfl | rfl | rfl | rfl | rfl | rfl | rfl | rfl | rfl | rfl
  case inr.inr.inr.inr.inr.inr.inr.inl => split <;> omega
  all_goals omega
theorem jNums_len (s t k z p l e : Int) (b : Bool) (v r : Int) : (jNums s t k z p l e b v r).length = 10 := rfl
theorem jNums_at (s t k z p l e : Int) (b : Bool) (v r : Int) {i : Nat} (h : i < 10) : ∃ n, (jNums s t k z p l e b v r)[i]? = some n := ⟨_, List.getElem?_eq_getElem (by simpa [jNums] using h)⟩
theorem decI_sz (n : Int) (h0 : -99999999 ≤ n) (h1 : n ≤ 99999999) : (decI n).size ≤ 22 := decI_size n h0 h1
theorem own_eq {W : World} {B i : Nat} {v : Value} {xs : List StR} (hi : i ≤ xs.length) (h : W.ownsRow B 9 1 v (xs.take i).length (flatSt (xs.take i))) : W.ownsRow B 9 1 v i (flatSt (xs.take i)) := by
  rwa [List.length_take, Nat.min_eq_left hi] at h
theorem own_snocS {W : World} {B : Nat} {v : Value} {xs : List StR} {i : Nat} {y : StR} (hi : i < xs.length) (hy : xs[i]? = some y) (ho : W.ownsRow B 9 1 v (i + 1) (flatSt (xs.take i) ++ [.string y.s])) : OwnSt W B v (xs.take (i + 1)) := by
  rw [List.take_add_one, hy]
  have hl : (xs.take i).length = i := by rw [List.length_take]; omega
  refine ownSt_snoc (x := y) ?_
  rw [hl]; exact ho
theorem cell_lit {W : World} {L : List Value} {ty g i : Nat} {u : Value} (hg : g = W.heap.size) (h : L[i]? = some u) : (W.alloc (.cells L.toArray ty)).cell? ⟨g, i, none⟩ = some u := by
  subst hg
  have h1 : (W.alloc (.cells L.toArray ty)).heap[W.heap.size]? = some (.cells L.toArray ty (0, 0)) := by
    show (W.heap.push _)[W.heap.size]? = _
    simp
  rw [Joins.cell_of_block h1 i, List.getElem?_toArray]
  exact h
theorem hd_10 {b0 o0x0 o0x1 o0x2 o0x3 o0x4 o0x5 o0x6 o0x7 o0x8 o0x9 : Nat} {v0x0 v0x1 v0x2 v0x3 v0x4 v0x5 v0x6 v0x7 v0x8 v0x9 : Value} {W W' : World} (h : ((W.cell? ⟨b0, o0x0, none⟩ = some (v0x0) ∧ W.cell? ⟨b0, o0x1, none⟩ = some (v0x1) ∧ W.cell? ⟨b0, o0x2, none⟩ = some (v0x2) ∧ W.cell? ⟨b0, o0x3, none⟩ = some (v0x3) ∧ W.cell? ⟨b0, o0x4, none⟩ = some (v0x4) ∧ W.cell? ⟨b0, o0x5, none⟩ = some (v0x5) ∧ W.cell? ⟨b0, o0x6, none⟩ = some (v0x6) ∧ W.cell? ⟨b0, o0x7, none⟩ = some (v0x7) ∧ W.cell? ⟨b0, o0x8, none⟩ = some (v0x8) ∧ W.cell? ⟨b0, o0x9, none⟩ = some (v0x9)) ∧ b0 < W.heap.size)) (hb : Below W.heap.size W W') : ((W'.cell? ⟨b0, o0x0, none⟩ = some (v0x0) ∧ W'.cell? ⟨b0, o0x1, none⟩ = some (v0x1) ∧ W'.cell? ⟨b0, o0x2, none⟩ = some (v0x2) ∧ W'.cell? ⟨b0, o0x3, none⟩ = some (v0x3) ∧ W'.cell? ⟨b0, o0x4, none⟩ = some (v0x4) ∧ W'.cell? ⟨b0, o0x5, none⟩ = some (v0x5) ∧ W'.cell? ⟨b0, o0x6, none⟩ = some (v0x6) ∧ W'.cell? ⟨b0, o0x7, none⟩ = some (v0x7) ∧ W'.cell? ⟨b0, o0x8, none⟩ = some (v0x8) ∧ W'.cell? ⟨b0, o0x9, none⟩ = some (v0x9)) ∧ b0 < W'.heap.size) := by
  obtain ⟨⟨h0, h1, h2, h3, h4, h5, h6, h7, h8, h9⟩, s0⟩ := h
  refine ⟨⟨?_, ?_, ?_, ?_, ?_, ?_, ?_, ?_, ?_, ?_⟩, Nat.lt_of_lt_of_le s0 hb.size⟩
  · rw [hb.cell s0]; exact h0
  · rw [hb.cell s0]; exact h1
  · rw [hb.cell s0]; exact h2
  · rw [hb.cell s0]; exact h3
  · rw [hb.cell s0]; exact h4
  · rw [hb.cell s0]; exact h5
  · rw [hb.cell s0]; exact h6
  · rw [hb.cell s0]; exact h7
  · rw [hb.cell s0]; exact h8
  · rw [hb.cell s0]; exact h9

theorem hd_10_set {b0 o0x0 o0x1 o0x2 o0x3 o0x4 o0x5 o0x6 o0x7 o0x8 o0x9 : Nat} {v0x0 v0x1 v0x2 v0x3 v0x4 v0x5 v0x6 v0x7 v0x8 v0x9 : Value} {W : World} {p : Addr} (h : ((W.cell? ⟨b0, o0x0, none⟩ = some (v0x0) ∧ W.cell? ⟨b0, o0x1, none⟩ = some (v0x1) ∧ W.cell? ⟨b0, o0x2, none⟩ = some (v0x2) ∧ W.cell? ⟨b0, o0x3, none⟩ = some (v0x3) ∧ W.cell? ⟨b0, o0x4, none⟩ = some (v0x4) ∧ W.cell? ⟨b0, o0x5, none⟩ = some (v0x5) ∧ W.cell? ⟨b0, o0x6, none⟩ = some (v0x6) ∧ W.cell? ⟨b0, o0x7, none⟩ = some (v0x7) ∧ W.cell? ⟨b0, o0x8, none⟩ = some (v0x8) ∧ W.cell? ⟨b0, o0x9, none⟩ = some (v0x9)) ∧ b0 < W.heap.size)) (p0 : p.block ≠ b0) (u : Value) : (((W.setCell p u).cell? ⟨b0, o0x0, none⟩ = some (v0x0) ∧ (W.setCell p u).cell? ⟨b0, o0x1, none⟩ = some (v0x1) ∧ (W.setCell p u).cell? ⟨b0, o0x2, none⟩ = some (v0x2) ∧ (W.setCell p u).cell? ⟨b0, o0x3, none⟩ = some (v0x3) ∧ (W.setCell p u).cell? ⟨b0, o0x4, none⟩ = some (v0x4) ∧ (W.setCell p u).cell? ⟨b0, o0x5, none⟩ = some (v0x5) ∧ (W.setCell p u).cell? ⟨b0, o0x6, none⟩ = some (v0x6) ∧ (W.setCell p u).cell? ⟨b0, o0x7, none⟩ = some (v0x7) ∧ (W.setCell p u).cell? ⟨b0, o0x8, none⟩ = some (v0x8) ∧ (W.setCell p u).cell? ⟨b0, o0x9, none⟩ = some (v0x9)) ∧ b0 < (W.setCell p u).heap.size) := by
  obtain ⟨⟨h0, h1, h2, h3, h4, h5, h6, h7, h8, h9⟩, s0⟩ := h
  have hb : W.heap.size ≤ (W.setCell p u).heap.size := by simp [World.setCell]
  refine ⟨⟨?_, ?_, ?_, ?_, ?_, ?_, ?_, ?_, ?_, ?_⟩, Nat.lt_of_lt_of_le s0 hb⟩
  · rw [cell_set_ne p0]; exact h0
  · rw [cell_set_ne p0]; exact h1
  · rw [cell_set_ne p0]; exact h2
  · rw [cell_set_ne p0]; exact h3
  · rw [cell_set_ne p0]; exact h4
  · rw [cell_set_ne p0]; exact h5
  · rw [cell_set_ne p0]; exact h6
  · rw [cell_set_ne p0]; exact h7
  · rw [cell_set_ne p0]; exact h8
  · rw [cell_set_ne p0]; exact h9

theorem hd_10_re {b0 o0x0 o0x1 o0x2 o0x3 o0x4 o0x5 o0x6 o0x7 o0x8 o0x9 : Nat} {v0x0 v0x1 v0x2 v0x3 v0x4 v0x5 v0x6 v0x7 v0x8 v0x9 : Value} {W : World} {o o' : Obj} (h : (((W.alloc o).cell? ⟨b0, o0x0, none⟩ = some (v0x0) ∧ (W.alloc o).cell? ⟨b0, o0x1, none⟩ = some (v0x1) ∧ (W.alloc o).cell? ⟨b0, o0x2, none⟩ = some (v0x2) ∧ (W.alloc o).cell? ⟨b0, o0x3, none⟩ = some (v0x3) ∧ (W.alloc o).cell? ⟨b0, o0x4, none⟩ = some (v0x4) ∧ (W.alloc o).cell? ⟨b0, o0x5, none⟩ = some (v0x5) ∧ (W.alloc o).cell? ⟨b0, o0x6, none⟩ = some (v0x6) ∧ (W.alloc o).cell? ⟨b0, o0x7, none⟩ = some (v0x7) ∧ (W.alloc o).cell? ⟨b0, o0x8, none⟩ = some (v0x8) ∧ (W.alloc o).cell? ⟨b0, o0x9, none⟩ = some (v0x9)) ∧ b0 < (W.alloc o).heap.size)) (p0 : b0 < W.heap.size) : (((W.alloc o').cell? ⟨b0, o0x0, none⟩ = some (v0x0) ∧ (W.alloc o').cell? ⟨b0, o0x1, none⟩ = some (v0x1) ∧ (W.alloc o').cell? ⟨b0, o0x2, none⟩ = some (v0x2) ∧ (W.alloc o').cell? ⟨b0, o0x3, none⟩ = some (v0x3) ∧ (W.alloc o').cell? ⟨b0, o0x4, none⟩ = some (v0x4) ∧ (W.alloc o').cell? ⟨b0, o0x5, none⟩ = some (v0x5) ∧ (W.alloc o').cell? ⟨b0, o0x6, none⟩ = some (v0x6) ∧ (W.alloc o').cell? ⟨b0, o0x7, none⟩ = some (v0x7) ∧ (W.alloc o').cell? ⟨b0, o0x8, none⟩ = some (v0x8) ∧ (W.alloc o').cell? ⟨b0, o0x9, none⟩ = some (v0x9)) ∧ b0 < (W.alloc o').heap.size) := by
  obtain ⟨⟨h0, h1, h2, h3, h4, h5, h6, h7, h8, h9⟩, s0⟩ := h
  have hb : Below W.heap.size (W.alloc o) (W.alloc o') := bel_re W o o'
  refine ⟨⟨?_, ?_, ?_, ?_, ?_, ?_, ?_, ?_, ?_, ?_⟩, Nat.lt_of_lt_of_le s0 hb.size⟩
  · rw [hb.cell p0]; exact h0
  · rw [hb.cell p0]; exact h1
  · rw [hb.cell p0]; exact h2
  · rw [hb.cell p0]; exact h3
  · rw [hb.cell p0]; exact h4
  · rw [hb.cell p0]; exact h5
  · rw [hb.cell p0]; exact h6
  · rw [hb.cell p0]; exact h7
  · rw [hb.cell p0]; exact h8
  · rw [hb.cell p0]; exact h9

/-- The names, and the numbers, as slices: what stands at one place. -/
theorem names_any {i : Nat} {x : ByteArray} (hx : jNames[i]? = some x) (w : World) : Calls Tryd.prog 30 #[] w fun e' w' => ∃ g, e' = .returned (.slice (some ⟨g, 0, none⟩) 10 10) ∧ w'.cell? ⟨g, i, none⟩ = some (.string x) ∧ g < w'.heap.size ∧ Below w.heap.size w w' := by
  go_enter Tryd.func30, Tryd.ntmps30
  go_wp2
  go_ret
  refine ⟨_, rfl, ?_, by simp, bel_one _ _⟩
  have h9 : (jNames.map Value.string)[i]? = some (.string x) := by rw [List.getElem?_map, hx]; rfl
  exact cell_lit (L := jNames.map Value.string) rfl h9
theorem nums_any (s t k z p l e : Int) (b : Bool) (v r : Int) {i : Nat} {n : Int} (hn : (jNums s t k z p l e b v r)[i]? = some n) (w : World) : Calls Tryd.prog 34 #[.agg #[.int .i64 s, .int .i64 t, .int .i64 k, .int .i64 z, .int .i64 p, .int .i64 l, .int .i64 e, .bool b, .int .i64 v, .int .i64 r]] w fun e' w' => ∃ g, e' = .returned (.slice (some ⟨g, 0, none⟩) 10 10) ∧ w'.cell? ⟨g, i, none⟩ = some (.int .i64 n) ∧ g < w'.heap.size ∧ Below w.heap.size w w' := by
  cases b
  all_goals
    have HN := hide hn
    clear hn
    go_enter Tryd.func34, Tryd.ntmps34
    go_wp2
    go_ret
    refine ⟨_, rfl, ?_, by simp, bel_alloc (bel_one _ _) _⟩
    first
      | exact cell_lit (L := (jNums s t k z p l e false v r).map (Value.int .i64)) (by simp) (by rw [List.getElem?_map, unhide HN]; rfl)
      | exact cell_lit (L := (jNums s t k z p l e true v r).map (Value.int .i64)) (by simp) (by rw [List.getElem?_map, unhide HN]; rfl)
end Go.Proofs.YtgccnmegbdlefaaDoor
