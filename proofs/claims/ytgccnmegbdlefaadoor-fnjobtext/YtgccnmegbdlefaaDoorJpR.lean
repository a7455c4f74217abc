/- Proved here: how a reading of a job's lines ends; numbers in a slice of one's own. -/
import Derived.Test.YtgccnmegbdlefaaDoorJpM
import Derived.Test.YtgccnmegbdlefaaDoorStrTo
import Derived.Test.YtgccnmegbdlefaaDoorStepA
import Derived.Deep.RegionHeld3
namespace Go.Proofs.YtgccnmegbdlefaaDoor
open Go.ChangeShapes Go.WideShapes Go.ChangeAt Go.RowKit
set_option linter.unusedVariables false
set_option linter.unusedSimpArgs false

theorem Tryd.infoIntJ : (Tryd.prog.info? 3).map (fun i => (i.zero, i.size, i.bytes)) = some (some (.int .i64 0), 1, 8) := by kernel_rfl
def OwnJ (W : World) (B : Nat) (v : Value) (ns : List Int) : Prop := W.ownsRow B 3 1 v ns.length (ns.map fun z => .int .i64 z)
theorem OwnJ.bel {W W' : World} {B : Nat} {v : Value} {ns : List Int} (h : OwnJ W B v ns) (hb : Below W.heap.size W W') : OwnJ W' B v ns := ownBel h hb
theorem OwnJ.ge {W : World} {B : Nat} {v : Value} {ns : List Int} (h : OwnJ W B v ns) : ∀ k, v.ownBlock = some k → B ≤ k := fun k hk => (World.ownsRow.lt h k hk).1
theorem OwnJ.shape {W : World} {B : Nat} {v : Value} {ns : List Int} (h : OwnJ W B v ns) : ∃ a c, v = .slice a ns.length c := by
  rcases h.2 with ⟨rfl, h0⟩ | ⟨g, cap, cur, rfl, _⟩
  · exact ⟨none, 0, by rw [h0]⟩
  · exact ⟨_, _, rfl⟩
theorem OwnJ.cells {W : World} {B : Nat} {v : Value} {ns : List Int} (h : OwnJ W B v ns) (hp : 0 < ns.length) : ∃ g c, v = .slice (some ⟨g, 0, none⟩) ns.length c ∧ B ≤ g ∧ g < W.heap.size ∧ ∀ (i : Nat) (n : Int), ns[i]? = some n → W.cell? ⟨g, i, none⟩ = some (.int .i64 n) := by
  rcases h.2 with ⟨rfl, h0⟩ | ⟨g, cap, cur, rfl, hB, hblk, hnc, hcm, hsz, htk⟩
  · omega
  · refine ⟨g, cap, rfl, hB, (Array.getElem?_eq_some_iff.1 hblk).1, fun i n hi => ?_⟩
    rw [Joins.cell_of_block hblk i]
    have hlen := h.1
    have hil := (List.getElem?_eq_some_iff.1 hi).1
    have h9 : (cur.toList.take (ns.length * 1))[i]? = some (.int .i64 n) := by rw [htk, List.getElem?_map, hi]; rfl
    rw [List.getElem?_take_of_lt (by omega)] at h9
    simpa using h9
theorem cell_1J (w : World) (u : Value) (ty : Nat) : ∀ j x, ([u] : List Value)[j]? = some x → (w.alloc (.cells #[u] ty)).cell? ((⟨w.heap.size, 0, none⟩ : Addr).add j) = some x := by
  intro j x hj
  have e : ((⟨w.heap.size, 0, none⟩ : Addr).add j) = ⟨w.heap.size, j, none⟩ := by
    unfold Addr.add
    split
    · rename_i h0; rw [h0]
    · simp
  rw [e]
  simpa [go_sem] using hj
theorem toL_y {a b : ByteArray} (h : a = b) : (a.toList == b.toList) = true := by subst h; simp
theorem toL_n {a b : ByteArray} (h : a ≠ b) : (a.toList == b.toList) = false := by
  cases h9 : a.toList == b.toList
  · rfl
  · exfalso
    apply h
    have h8 : a.toList = b.toList := by simpa using h9
    rw [Go.ByteArray.toList_eq, Go.ByteArray.toList_eq] at h8
    obtain ⟨⟨x⟩⟩ := a; obtain ⟨⟨y⟩⟩ := b
    simp at h8
    rw [h8]
theorem i7 {i : Nat} {x : ByteArray} (h : jNames[i]? = some x) (h7 : x = ⟨#[112, 105, 101, 99, 101]⟩) : i = 7 := by
  have hi := (List.getElem?_eq_some_iff.1 h).1
  have hl : jNames.length = 10 := rfl
  subst h7
  have : i = 0 ∨ i = 1 ∨ i = 2 ∨ i = 3 ∨ i = 4 ∨ i = 5 ∨ i = 6 ∨ i = 7 ∨ i = 8 ∨ i = 9 := by omega
  rcases this with rfl | rfl | rfl | rfl | rfl | rfl | rfl | rfl | rfl | rfl <;> simp [jNames] at h <;> first | rfl | exact absurd h (by decide)
theorem hd1 {b i : Nat} {v : Value} {W W' : World} (h : W.cell? ⟨b, i, none⟩ = some v ∧ b < W.heap.size) (hb : Below W.heap.size W W') : W'.cell? ⟨b, i, none⟩ = some v ∧ b < W'.heap.size := ⟨(hb.cell (p := ⟨b, i, none⟩) h.2).trans h.1, Nat.lt_of_lt_of_le h.2 hb.size⟩
/-- How a reading ends. -/
def JpP (L : List ByteArray) (w : World) (e : Ending) (w' : World) : Prop := ∃ (s t k z p l e2 : Int) (b : Bool) (v r c : Int), e = .returned (.tuple #[.agg #[.int .i64 s, .int .i64 t, .int .i64 k, .int .i64 z, .int .i64 p, .int .i64 l, .int .i64 e2, .bool b, .int .i64 v, .int .i64 r], .int .i64 c]) ∧ JR L [s, t, k, z, p, l, e2, v, r] b c ∧ Below w.heap.size w w'
theorem jp_bad {L : List ByteArray} {i : Nat} {s : ByteArray} {ns : List Int} {w w' : World} {c : Int} (hc : c = ((i + 1 : Nat) : Int)) (hs : L[i]? = some s) (hG : GoodJ (L.take i) ns) (hn : ∀ n, ¬ LnR i s n) (hb : Below w.heap.size w w') : JpP L w (.returned (.tuple #[.agg #[.int .i64 0, .int .i64 0, .int .i64 0, .int .i64 0, .int .i64 0, .int .i64 0, .int .i64 0, .bool false, .int .i64 0, .int .i64 0], .int .i64 c])) w' :=
  ⟨0, 0, 0, 0, 0, 0, 0, false, 0, 0, c, rfl, Or.inr (Or.inl ⟨rfl, rfl, i, s, ns, hs, hc, hG, hn⟩), hb⟩
theorem jp_end {L : List ByteArray} {ns : List Int} {w w' : World} {c : Int} (hc : c = ((L.length + 1 : Nat) : Int)) (hG : GoodJ L ns) (hn : ns.length < 10 ∨ ∃ s t k z p l e q v r : Int, ns = [s, t, k, z, p, l, e, q, v, r] ∧ okJob s t k z p l e v r = false) (hb : Below w.heap.size w w') : JpP L w (.returned (.tuple #[.agg #[.int .i64 0, .int .i64 0, .int .i64 0, .int .i64 0, .int .i64 0, .int .i64 0, .int .i64 0, .bool false, .int .i64 0, .int .i64 0], .int .i64 c])) w' :=
  ⟨0, 0, 0, 0, 0, 0, 0, false, 0, 0, c, rfl, Or.inr (Or.inr ⟨rfl, rfl, hc, ns, hG, hn⟩), hb⟩
theorem ten {ns : List Int} (h : ns.length = 10) : ∃ a0 a1 a2 a3 a4 a5 a6 a7 a8 a9, ns = [a0, a1, a2, a3, a4, a5, a6, a7, a8, a9] := by
  match ns, h with
  | [a0, a1, a2, a3, a4, a5, a6, a7, a8, a9], _ => exact ⟨_, _, _, _, _, _, _, _, _, _, rfl⟩
theorem two {α : Type} {l : List α} (h : l.length = 2) : ∃ a b, l = [a, b] := by
  match l, h with
  | [a, b], _ => exact ⟨a, b, rfl⟩
end Go.Proofs.YtgccnmegbdlefaaDoor
