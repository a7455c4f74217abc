/- Laid together: what the claim needs of the texts that were built one by one. -/
import Derived.Test.YtbjhpiannjepkaaGreatPsCkpE
import Derived.Test.YtbjhpiannjepkaaGreatPsCkpL
import Derived.Test.YtbjhpiannjepkaaGreatPsBase
namespace Go.Proofs.YtbjhpiannjepkaaGreat
open Go.ChangeShapes Go.WideShapes Go.ChangeAt Go.RowKit Go.Deep
set_option linter.unusedVariables false

theorem InB.up {W W' : World} {B : Nat} {a : Option Addr} {n : Nat} {xs : List Int} (h : InB W B a n xs) (hb : ∀ b, B ≤ b → b < W.heap.size → W'.heap[b]? = W.heap[b]?) : InB W' B a n xs := by
  obtain ⟨⟨h1, h2, h3⟩, hg⟩ := h
  refine ⟨⟨h1, h2, ?_⟩, hg⟩
  rcases h3 with h3 | ⟨g, o, e, hat⟩
  · exact Or.inl h3
  · by_cases h0 : n = 0
    · exact Or.inl h0
    · refine Or.inr ⟨g, o, e, fun i x hx => ?_⟩
      have h9 := hat i x hx
      exact (World.cell?_of_block (hb g (hg g o (by omega) e) (World.block_lt_of_cell? W ⟨g, _, none⟩ h9))).trans h9

theorem BoB.up {W W' : World} {B : Nat} {a : Option Addr} {n : Nat} {xs : List Bool} (h : BoB W B a n xs) (hb : ∀ b, B ≤ b → b < W.heap.size → W'.heap[b]? = W.heap[b]?) : BoB W' B a n xs := by
  obtain ⟨⟨h1, h2, h3⟩, hg⟩ := h
  refine ⟨⟨h1, h2, ?_⟩, hg⟩
  rcases h3 with h3 | ⟨g, o, e, hat⟩
  · exact Or.inl h3
  · by_cases h0 : n = 0
    · exact Or.inl h0
    · refine Or.inr ⟨g, o, e, fun i x hx => ?_⟩
      have h9 := hat i x hx
      exact (World.cell?_of_block (hb g (hg g o (by omega) e) (World.block_lt_of_cell? W ⟨g, _, none⟩ h9))).trans h9

theorem OrB.up {W W' : World} {B : Nat} {a : Option Addr} {n : Nat} {xs : List OrR} (h : OrB W B a n xs) (hb : ∀ b, B ≤ b → b < W.heap.size → W'.heap[b]? = W.heap[b]?) : OrB W' B a n xs := by
  obtain ⟨⟨h1, h2, h3⟩, hg⟩ := h
  refine ⟨⟨h1, h2, ?_⟩, hg⟩
  rcases h3 with h3 | ⟨g, o, e, hat⟩
  · exact Or.inl h3
  · by_cases h0 : n = 0
    · exact Or.inl h0
    · refine Or.inr ⟨g, o, e, fun i x hx => ?_⟩
      have h9 := hat i x hx
      have hblk := hb g (hg g o (by omega) e) h9.lt
      have hcell : ∀ o, W'.cell? ⟨g, o, none⟩ = W.cell? ⟨g, o, none⟩ := fun o => World.cell?_of_block hblk
      unfold OrRAt at h9 ⊢
      simp only [hcell]
      exact h9

theorem SnB.up {W W' : World} {B : Nat} {a : Option Addr} {n : Nat} {xs : List SnD} (h : SnB W B a n xs) (hb : ∀ b, B ≤ b → b < W.heap.size → W'.heap[b]? = W.heap[b]?) : SnB W' B a n xs := by
  obtain ⟨h1, h2, h3⟩ := h
  refine ⟨h1, h2, ?_⟩
  rcases h3 with h3 | ⟨g, o, e, hg, hat⟩
  · exact Or.inl h3
  · refine Or.inr ⟨g, o, e, hg, fun i x hx => ?_⟩
    obtain ⟨b1, m1, d1, b2, m2, d2, ⟨p0, p1, p2⟩, q1, q2⟩ := hat i x hx
    have hblk := hb g hg (World.block_lt_of_cell? W ⟨g, _, none⟩ p0)
    exact ⟨b1, m1, d1, b2, m2, d2, ⟨(World.cell?_of_block hblk).trans p0, (World.cell?_of_block hblk).trans p1, (World.cell?_of_block hblk).trans p2⟩, q1.up hb, q2.up hb⟩

theorem CkM.up {W W' : World} {B : Nat} {a2 a3 a4 a6 a7 : Option Addr} {D : CkD} (h : CkM W B a2 a3 a4 a6 a7 D) (hb : ∀ b, B ≤ b → b < W.heap.size → W'.heap[b]? = W.heap[b]?) : CkM W' B a2 a3 a4 a6 a7 D := ⟨h.1.up hb, h.2.1.up hb, h.2.2.1.up hb, h.2.2.2.1.up hb, h.2.2.2.2.up hb⟩

theorem eqK_any (B1 B2 : Nat) (D : CkD) (a2x : Option Addr) (c2x : Nat) (a3x : Option Addr) (c3x : Nat) (a4x : Option Addr) (c4x : Nat) (a6x : Option Addr) (c6x : Nat) (a7x : Option Addr) (c7x : Nat) (a2y : Option Addr) (c2y : Nat) (a3y : Option Addr) (c3y : Nat) (a4y : Option Addr) (c4y : Nat) (a6y : Option Addr) (c6y : Nat) (a7y : Option Addr) (c7y : Nat) (w : World) (h1 : CkM w B1 a2x a3x a4x a6x a7x D) (h2 : CkM w B2 a2y a3y a4y a6y a7y D) : Calls Tryz.prog 10 #[.agg #[.int .i64 D.n, .bool D.op, .slice a2x D.src.length c2x, .slice a3x D.tsk.length c3x, .slice a4x D.sn.length c4x, .int .i64 D.sfn, .slice a6x D.at_.length c6x, .slice a7x D.ssn.length c7x], .agg #[.int .i64 D.n, .bool D.op, .slice a2y D.src.length c2y, .slice a3y D.tsk.length c3y, .slice a4y D.sn.length c4y, .int .i64 D.sfn, .slice a6y D.at_.length c6y, .slice a7y D.ssn.length c7y]] w fun e w' => e = .returned (.bool true) ∧ Below w.heap.size w w' :=
  eqCk_one B1 B2 D a2x a2y D.src.length c2x c2y a3x a3y D.tsk.length c3x c3y a4x a4y D.sn.length c4x c4y a6x a6y D.at_.length c6x c6y a7x a7y D.ssn.length c7x c7y w h1.1 h2.1 h1.2.1 h2.2.1 h1.2.2.1 h2.2.2.1 h1.2.2.2.1 h2.2.2.2.1 h1.2.2.2.2 h2.2.2.2.2

/-- Checkpoints in a box, behind a world. -/
structure InBox (W0 : World) (D : CkD) (Bx : Nat) (a2 : Option Addr) (c2 : Nat) (a3 : Option Addr) (c3 : Nat) (a4 : Option Addr) (c4 : Nat) (a6 : Option Addr) (c6 : Nat) (a7 : Option Addr) (c7 : Nat) (v4 v7 : List SnV) (W : World) : Prop where
  box : BoxK W Bx D.n D.op (.slice a2 D.src.length c2) (.slice a3 D.tsk.length c3) (.slice a4 D.sn.length c4) D.sfn (.slice a6 D.at_.length c6) (.slice a7 D.ssn.length c7)
  mem : CkM W W0.heap.size a2 a3 a4 a6 a7 D
  wr : WrCk W a2 D.src.length c2 a3 D.tsk.length c3 a4 D.sn.length c4 a6 D.at_.length c6 a7 D.ssn.length c7 v4 v7
  ge : ∀ b, CkS a2 D.src.length a3 D.tsk.length a4 D.sn.length a6 D.at_.length a7 D.ssn.length v4 v7 b → W0.heap.size ≤ b
  ne : ¬ CkS a2 D.src.length a3 D.tsk.length a4 D.sn.length a6 D.at_.length a7 D.ssn.length v4 v7 Bx
  bg : W0.heap.size ≤ Bx

theorem boxLateK {W0 wn : World} {B : Nat} {D : CkD} {a2 a3 a4 a6 a7 : Option Addr} {c2 c3 c4 c6 c7 : Nat} {v4 v7 : List SnV} (hM : CkM wn B a2 a3 a4 a6 a7 D) (hW : WrCk wn a2 D.src.length c2 a3 D.tsk.length c3 a4 D.sn.length c4 a6 D.at_.length c6 a7 D.ssn.length c7 v4 v7) (hS : ∀ b, CkS a2 D.src.length a3 D.tsk.length a4 D.sn.length a6 D.at_.length a7 D.ssn.length v4 v7 b → B ≤ b) (hB : W0.heap.size ≤ B) (hb : Below W0.heap.size W0 wn) : InBox W0 D wn.heap.size a2 c2 a3 c3 a4 c4 a6 c6 a7 c7 v4 v7 (wn.alloc (.cells #[.int .i64 D.n, .bool D.op, .slice a2 D.src.length c2, .slice a3 D.tsk.length c3, .slice a4 D.sn.length c4, .int .i64 D.sfn, .slice a6 D.at_.length c6, .slice a7 D.ssn.length c7] 36)) ∧ Below W0.heap.size W0 (wn.alloc (.cells #[.int .i64 D.n, .bool D.op, .slice a2 D.src.length c2, .slice a3 D.tsk.length c3, .slice a4 D.sn.length c4, .int .i64 D.sfn, .slice a6 D.at_.length c6, .slice a7 D.ssn.length c7] 36)) :=
  ⟨⟨blk_new rfl, (hM.less hB).below (bel_one _ _), hW.keep (fun b h => Below.heap_alloc _ _ _ (hW.ltS b h)), fun b h => Nat.le_trans hB (hS b h), fun h => absurd (hW.ltS _ h) (Nat.lt_irrefl _), hb.size⟩, bel_alloc hb _⟩

theorem boxEarlyK {W0 wb wn : World} {Bx lo : Nat} {D : CkD} {a2 a3 a4 a6 a7 : Option Addr} {c2 c3 c4 c6 c7 : Nat} {v4 v7 : List SnV} (hM : CkM wb lo a2 a3 a4 a6 a7 D) (hW : WrCk wb a2 D.src.length c2 a3 D.tsk.length c3 a4 D.sn.length c4 a6 D.at_.length c6 a7 D.ssn.length c7 v4 v7) (hS : ∀ b, CkS a2 D.src.length a3 D.tsk.length a4 D.sn.length a6 D.at_.length a7 D.ssn.length v4 v7 b → lo ≤ b) (hlo : W0.heap.size ≤ lo) (hbw : Below wb.heap.size wb wn) (hc : Bx < lo ∨ wb.heap.size ≤ Bx) (h0 : W0.heap.size ≤ Bx) (hX : wn.heap[Bx]? = some (.cells #[.int .i64 0, .bool false, .slice none 0 0, .slice none 0 0, .slice none 0 0, .int .i64 0, .slice none 0 0, .slice none 0 0] 36 (0, 0))) (hb : Below W0.heap.size W0 wn) : InBox W0 D Bx a2 c2 a3 c3 a4 c4 a6 c6 a7 c7 v4 v7 ((((((((wn.setCell ⟨Bx, 0, none⟩ (.int .i64 D.n)).setCell ⟨Bx, 1, none⟩ (.bool D.op)).setCell ⟨Bx, 2, none⟩ (.slice a2 D.src.length c2)).setCell ⟨Bx, 3, none⟩ (.slice a3 D.tsk.length c3)).setCell ⟨Bx, 4, none⟩ (.slice a4 D.sn.length c4)).setCell ⟨Bx, 5, none⟩ (.int .i64 D.sfn)).setCell ⟨Bx, 6, none⟩ (.slice a6 D.at_.length c6)).setCell ⟨Bx, 7, none⟩ (.slice a7 D.ssn.length c7)) ∧ Below W0.heap.size W0 ((((((((wn.setCell ⟨Bx, 0, none⟩ (.int .i64 D.n)).setCell ⟨Bx, 1, none⟩ (.bool D.op)).setCell ⟨Bx, 2, none⟩ (.slice a2 D.src.length c2)).setCell ⟨Bx, 3, none⟩ (.slice a3 D.tsk.length c3)).setCell ⟨Bx, 4, none⟩ (.slice a4 D.sn.length c4)).setCell ⟨Bx, 5, none⟩ (.int .i64 D.sfn)).setCell ⟨Bx, 6, none⟩ (.slice a6 D.at_.length c6)).setCell ⟨Bx, 7, none⟩ (.slice a7 D.ssn.length c7)) := by
  have hK : Kept (fun b => b = Bx) wn ((((((((wn.setCell ⟨Bx, 0, none⟩ (.int .i64 D.n)).setCell ⟨Bx, 1, none⟩ (.bool D.op)).setCell ⟨Bx, 2, none⟩ (.slice a2 D.src.length c2)).setCell ⟨Bx, 3, none⟩ (.slice a3 D.tsk.length c3)).setCell ⟨Bx, 4, none⟩ (.slice a4 D.sn.length c4)).setCell ⟨Bx, 5, none⟩ (.int .i64 D.sfn)).setCell ⟨Bx, 6, none⟩ (.slice a6 D.at_.length c6)).setCell ⟨Bx, 7, none⟩ (.slice a7 D.ssn.length c7)) := (Kept.set (Kept.set (Kept.set (Kept.set (Kept.set (Kept.set (Kept.set (Kept.set (Kept.refl (fun b => b = Bx) wn) rfl _) rfl _) rfl _) rfl _) rfl _) rfl _) rfl _) rfl _)
  have hX0 : BoxK wn Bx 0 false (.slice none 0 0) (.slice none 0 0) (.slice none 0 0) 0 (.slice none 0 0) (.slice none 0 0) := hX
  have hne : ∀ b, CkS a2 D.src.length a3 D.tsk.length a4 D.sn.length a6 D.at_.length a7 D.ssn.length v4 v7 b → ¬ b = Bx := fun b k e => by
    have h1 := hS b k
    have h2 := hW.ltS b k
    omega
  have hM2 : CkM ((((((((wn.setCell ⟨Bx, 0, none⟩ (.int .i64 D.n)).setCell ⟨Bx, 1, none⟩ (.bool D.op)).setCell ⟨Bx, 2, none⟩ (.slice a2 D.src.length c2)).setCell ⟨Bx, 3, none⟩ (.slice a3 D.tsk.length c3)).setCell ⟨Bx, 4, none⟩ (.slice a4 D.sn.length c4)).setCell ⟨Bx, 5, none⟩ (.int .i64 D.sfn)).setCell ⟨Bx, 6, none⟩ (.slice a6 D.at_.length c6)).setCell ⟨Bx, 7, none⟩ (.slice a7 D.ssn.length c7)) W0.heap.size a2 a3 a4 a6 a7 D := by
    refine CkM.less (B := lo) ?_ hlo
    rcases hc with hc | hc
    · exact (CkM.set (CkM.set (CkM.set (CkM.set (CkM.set (CkM.set (CkM.set (CkM.set (hM.below hbw) hc) hc) hc) hc) hc) hc) hc) hc)
    · refine hM.below ?_
      exact (Below.setCell (Below.setCell (Below.setCell (Below.setCell (Below.setCell (Below.setCell (Below.setCell (Below.setCell hbw (p := ⟨Bx, _, none⟩) hc _) (p := ⟨Bx, _, none⟩) hc _) (p := ⟨Bx, _, none⟩) hc _) (p := ⟨Bx, _, none⟩) hc _) (p := ⟨Bx, _, none⟩) hc _) (p := ⟨Bx, _, none⟩) hc _) (p := ⟨Bx, _, none⟩) hc _) (p := ⟨Bx, _, none⟩) hc _)
  exact ⟨⟨(((((((hX0.set0 _).set1 _).set2 _).set3 _).set4 _).set5 _).set6 _).set7 _, hM2, hW.keep (fun b h => (hK.blk b (Nat.lt_of_lt_of_le (hW.ltS b h) hbw.size) (hne b h)).trans (hbw.block b (hW.ltS b h))), fun b h => Nat.le_trans hlo (hS b h), fun h => hne _ h rfl, h0⟩, Kept.bel hb hb.size hK (fun b hb => by omega)⟩

theorem InBox.down {W0 W W' : World} {D : CkD} {Bx : Nat} {a2 a3 a4 a6 a7 : Option Addr} {c2 c3 c4 c6 c7 : Nat} {v4 v7 : List SnV} (h : InBox W0 D Bx a2 c2 a3 c3 a4 c4 a6 c6 a7 c7 v4 v7 W) (hb : Below W.heap.size W W') : InBox W0 D Bx a2 c2 a3 c3 a4 c4 a6 c6 a7 c7 v4 v7 W' :=
  ⟨(hb.block Bx h.box.lt).trans h.box, h.mem.below hb, h.wr.keep (fun b k => hb.block b (h.wr.ltS b k)), h.ge, h.ne, h.bg⟩

/-- While blocks below are written it stays. -/
theorem InBox.over {W0 W W' : World} {D : CkD} {Bx : Nat} {a2 a3 a4 a6 a7 : Option Addr} {c2 c3 c4 c6 c7 : Nat} {v4 v7 : List SnV} (h : InBox W0 D Bx a2 c2 a3 c3 a4 c4 a6 c6 a7 c7 v4 v7 W) (hb : ∀ b, W0.heap.size ≤ b → b < W.heap.size → W'.heap[b]? = W.heap[b]?) : InBox W0 D Bx a2 c2 a3 c3 a4 c4 a6 c6 a7 c7 v4 v7 W' :=
  ⟨(hb Bx h.bg h.box.lt).trans h.box, h.mem.up hb, h.wr.keep (fun b k => hb b (h.ge b k) (h.wr.ltS b k)), h.ge, h.ne, h.bg⟩
end Go.Proofs.YtbjhpiannjepkaaGreat
