/- Laid together: what the claim needs of the texts that were built one by one. -/
import Derived.Test.YtbjhpiannjepkaaGreatPsCkpN
import Derived.Test.YtbjhpiannjepkaaGreatPsBase
namespace Go.Proofs.YtbjhpiannjepkaaGreat
open Go.ChangeShapes Go.WideShapes Go.ChangeAt Go.RowKit Go.Deep
set_option linter.unusedVariables false

def ckZero : CkD := ⟨0, false, [], [], [], 0, [], []⟩

/-- The value of checkpoints. -/
def ckV (v2 v3 v4 v6 v7 : Value) : Value := .agg #[.int .i64 0, .bool false, v2, v3, v4, .int .i64 0, v6, v7]

/-- New checkpoints in memory of their own. -/
def NewC (w : World) (D : CkD) (e : Ending) (w' : World) : Prop := ∃ (a2 : Option Addr) (c2 : Nat) (a3 : Option Addr) (c3 : Nat) (a4 : Option Addr) (c4 : Nat) (a6 : Option Addr) (c6 : Nat) (a7 : Option Addr) (c7 : Nat) (v4 v7 : List SnV), e = .returned (ckV (.slice a2 D.src.length c2) (.slice a3 D.tsk.length c3) (.slice a4 D.sn.length c4) (.slice a6 D.at_.length c6) (.slice a7 D.ssn.length c7)) ∧ (InB w' w.heap.size a2 D.src.length D.src ∧ BoB w' w.heap.size a3 D.tsk.length D.tsk ∧ SnB w' w.heap.size a4 D.sn.length D.sn ∧ InB w' w.heap.size a6 D.at_.length D.at_ ∧ SnB w' w.heap.size a7 D.ssn.length D.ssn) ∧ WrCk w' a2 D.src.length c2 a3 D.tsk.length c3 a4 D.sn.length c4 a6 D.at_.length c6 a7 D.ssn.length c7 v4 v7 ∧ (∀ b, CkS a2 D.src.length a3 D.tsk.length a4 D.sn.length a6 D.at_.length a7 D.ssn.length v4 v7 b → w.heap.size ≤ b) ∧ Below w.heap.size w w'

theorem rowC_own {a : Option Addr} {n cap b : Nat} (h : rowC a n = some b) : (Value.slice a n cap).ownBlock = some b := by
  unfold rowC at h
  split at h
  · cases h
  · cases a with
    | none => cases h
    | some q => exact h

theorem rowC_nil (a : Option Addr) (b : Nat) : rowC a 0 ≠ some b := by simp [rowC]

theorem rowSn_nil (a : Option Addr) (b : Nat) : rowSn a 0 ≠ some b := by simp [rowSn]

theorem snS_nil (a : Option Addr) (b : Nat) : ¬ SnS a 0 [] b := by
  rintro (h | ⟨i, v, h, _⟩)
  · exact rowSn_nil _ _ h
  · simp at h

theorem inB_nil (W : World) (B : Nat) (a : Option Addr) : InB W B a 0 [] := ⟨⟨rfl, Nat.zero_le _, Or.inl rfl⟩, fun _ _ h => absurd h (Nat.lt_irrefl _)⟩

theorem boB_nil (W : World) (B : Nat) (a : Option Addr) : BoB W B a 0 [] := ⟨⟨rfl, Nat.zero_le _, Or.inl rfl⟩, fun _ _ h => absurd h (Nat.lt_irrefl _)⟩

theorem snB_nil (W : World) (B : Nat) (a : Option Addr) : SnB W B a 0 [] := ⟨rfl, Nat.zero_le _, Or.inl rfl⟩

theorem wrSn_nil (W : World) (a : Option Addr) (c : Nat) : WrSn W a 0 c [] := ⟨rfl, Or.inl rfl, fun i v h => by simp at h, fun i v h => by simp at h, fun i v h => by simp at h, fun i v b h => by simp at h, fun i v b h => by simp at h, fun i j v u b h => by simp at h⟩

/-- No checkpoints at all. -/
theorem zero_newC {w w' : World} (hb : Below w.heap.size w w') : NewC w ckZero (.returned (ckV (.slice none 0 0) (.slice none 0 0) (.slice none 0 0) (.slice none 0 0) (.slice none 0 0))) w' := by
  refine ⟨none, 0, none, 0, none, 0, none, 0, none, 0, [], [], rfl, ⟨inB_nil _ _ _, boB_nil _ _ _, snB_nil _ _ _, inB_nil _ _ _, snB_nil _ _ _⟩, ⟨Or.inl rfl, Or.inl rfl, wrSn_nil _ _ _, Or.inl rfl, wrSn_nil _ _ _, ⟨Nat.zero_le _, Nat.zero_le _, Nat.zero_le _, Nat.zero_le _, Nat.zero_le _⟩, fun b h => absurd h (rowC_nil _ _), fun b h => absurd h (rowC_nil _ _), fun b h => absurd h (snS_nil _ _), fun b h => absurd h (rowC_nil _ _)⟩, ?_, hb⟩
  rintro b (h | h | h | h | h)
  · exact absurd h (rowC_nil _ _)
  · exact absurd h (rowC_nil _ _)
  · exact absurd h (snS_nil _ _)
  · exact absurd h (rowC_nil _ _)
  · exact absurd h (snS_nil _ _)

/-- The marks at the beginning, in new memory. -/
def Mks (W : World) (B s : Nat) (gs : List Nat) : Prop := (∀ g ∈ gs, W.ownsRow B 3 1 (.slice (some ⟨g, 0, none⟩) s s) s (List.replicate s (.int .i64 0))) ∧ gs.Pairwise (· ≠ ·)

theorem rep_map (n : Nat) (x : Int) : List.replicate n (Value.int .i64 x) = (List.replicate n x).map fun z => .int .i64 z := by simp

theorem rep_mapB (n : Nat) (x : Bool) : List.replicate n (Value.bool x) = (List.replicate n x).map fun z => .bool z := by simp

theorem get_rep {α : Type} {n i : Nat} {a x : α} (h : (List.replicate n a)[i]? = some x) : x = a := by
  rw [List.getElem?_replicate] at h
  split at h
  · exact (Option.some.inj h).symm
  · cases h
end Go.Proofs.YtbjhpiannjepkaaGreat
