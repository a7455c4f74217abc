/- Proved here: an append to a slice of the call's own, as one step of a statement whose order is open; the lines of rows. -/
import Derived.Test.YtkadmigecojpoaaDoorRwStr2
import Derived.Test.YtkadmigecojpoaaDoorPanTxt
import Derived.Test.YtkadmigecojpoaaDoorRwaTab
import Derived.Test.YtkadmigecojpoaaDoorOwnB
namespace Go.Proofs.YtkadmigecojpoaaDoor
open Go.ChangeShapes Go.WideShapes Go.ChangeAt Go.RowKit
set_option linter.unusedVariables false

theorem hd_7 {b0 o0x0 o0x1 o0x2 o0x3 o0x4 o0x5 o0x6 : Nat} {v0x0 v0x1 v0x2 v0x3 v0x4 v0x5 v0x6 : Value} {W W' : World} (h : ((W.cell? ⟨b0, o0x0, none⟩ = some (v0x0) ∧ W.cell? ⟨b0, o0x1, none⟩ = some (v0x1) ∧ W.cell? ⟨b0, o0x2, none⟩ = some (v0x2) ∧ W.cell? ⟨b0, o0x3, none⟩ = some (v0x3) ∧ W.cell? ⟨b0, o0x4, none⟩ = some (v0x4) ∧ W.cell? ⟨b0, o0x5, none⟩ = some (v0x5) ∧ W.cell? ⟨b0, o0x6, none⟩ = some (v0x6)) ∧ b0 < W.heap.size)) (hb : Below W.heap.size W W') : ((W'.cell? ⟨b0, o0x0, none⟩ = some (v0x0) ∧ W'.cell? ⟨b0, o0x1, none⟩ = some (v0x1) ∧ W'.cell? ⟨b0, o0x2, none⟩ = some (v0x2) ∧ W'.cell? ⟨b0, o0x3, none⟩ = some (v0x3) ∧ W'.cell? ⟨b0, o0x4, none⟩ = some (v0x4) ∧ W'.cell? ⟨b0, o0x5, none⟩ = some (v0x5) ∧ W'.cell? ⟨b0, o0x6, none⟩ = some (v0x6)) ∧ b0 < W'.heap.size) := by
  obtain ⟨⟨h0, h1, h2, h3, h4, h5, h6⟩, s0⟩ := h
  refine ⟨⟨?_, ?_, ?_, ?_, ?_, ?_, ?_⟩, Nat.lt_of_lt_of_le s0 hb.size⟩
  · rw [hb.cell s0]; exact h0
  · rw [hb.cell s0]; exact h1
  · rw [hb.cell s0]; exact h2
  · rw [hb.cell s0]; exact h3
  · rw [hb.cell s0]; exact h4
  · rw [hb.cell s0]; exact h5
  · rw [hb.cell s0]; exact h6

theorem hd_7_set {b0 o0x0 o0x1 o0x2 o0x3 o0x4 o0x5 o0x6 : Nat} {v0x0 v0x1 v0x2 v0x3 v0x4 v0x5 v0x6 : Value} {W : World} {p : Addr} (h : ((W.cell? ⟨b0, o0x0, none⟩ = some (v0x0) ∧ W.cell? ⟨b0, o0x1, none⟩ = some (v0x1) ∧ W.cell? ⟨b0, o0x2, none⟩ = some (v0x2) ∧ W.cell? ⟨b0, o0x3, none⟩ = some (v0x3) ∧ W.cell? ⟨b0, o0x4, none⟩ = some (v0x4) ∧ W.cell? ⟨b0, o0x5, none⟩ = some (v0x5) ∧ W.cell? ⟨b0, o0x6, none⟩ = some (v0x6)) ∧ b0 < W.heap.size)) (p0 : p.block ≠ b0) (u : Value) : (((W.setCell p u).cell? ⟨b0, o0x0, none⟩ = some (v0x0) ∧ (W.setCell p u).cell? ⟨b0, o0x1, none⟩ = some (v0x1) ∧ (W.setCell p u).cell? ⟨b0, o0x2, none⟩ = some (v0x2) ∧ (W.setCell p u).cell? ⟨b0, o0x3, none⟩ = some (v0x3) ∧ (W.setCell p u).cell? ⟨b0, o0x4, none⟩ = some (v0x4) ∧ (W.setCell p u).cell? ⟨b0, o0x5, none⟩ = some (v0x5) ∧ (W.setCell p u).cell? ⟨b0, o0x6, none⟩ = some (v0x6)) ∧ b0 < (W.setCell p u).heap.size) := by
  obtain ⟨⟨h0, h1, h2, h3, h4, h5, h6⟩, s0⟩ := h
  have hb : W.heap.size ≤ (W.setCell p u).heap.size := by simp [World.setCell]
  refine ⟨⟨?_, ?_, ?_, ?_, ?_, ?_, ?_⟩, Nat.lt_of_lt_of_le s0 hb⟩
  · rw [cell_set_ne p0]; exact h0
  · rw [cell_set_ne p0]; exact h1
  · rw [cell_set_ne p0]; exact h2
  · rw [cell_set_ne p0]; exact h3
  · rw [cell_set_ne p0]; exact h4
  · rw [cell_set_ne p0]; exact h5
  · rw [cell_set_ne p0]; exact h6

theorem hd_7_re {b0 o0x0 o0x1 o0x2 o0x3 o0x4 o0x5 o0x6 : Nat} {v0x0 v0x1 v0x2 v0x3 v0x4 v0x5 v0x6 : Value} {W : World} {o o' : Obj} (h : (((W.alloc o).cell? ⟨b0, o0x0, none⟩ = some (v0x0) ∧ (W.alloc o).cell? ⟨b0, o0x1, none⟩ = some (v0x1) ∧ (W.alloc o).cell? ⟨b0, o0x2, none⟩ = some (v0x2) ∧ (W.alloc o).cell? ⟨b0, o0x3, none⟩ = some (v0x3) ∧ (W.alloc o).cell? ⟨b0, o0x4, none⟩ = some (v0x4) ∧ (W.alloc o).cell? ⟨b0, o0x5, none⟩ = some (v0x5) ∧ (W.alloc o).cell? ⟨b0, o0x6, none⟩ = some (v0x6)) ∧ b0 < (W.alloc o).heap.size)) (p0 : b0 < W.heap.size) : (((W.alloc o').cell? ⟨b0, o0x0, none⟩ = some (v0x0) ∧ (W.alloc o').cell? ⟨b0, o0x1, none⟩ = some (v0x1) ∧ (W.alloc o').cell? ⟨b0, o0x2, none⟩ = some (v0x2) ∧ (W.alloc o').cell? ⟨b0, o0x3, none⟩ = some (v0x3) ∧ (W.alloc o').cell? ⟨b0, o0x4, none⟩ = some (v0x4) ∧ (W.alloc o').cell? ⟨b0, o0x5, none⟩ = some (v0x5) ∧ (W.alloc o').cell? ⟨b0, o0x6, none⟩ = some (v0x6)) ∧ b0 < (W.alloc o').heap.size) := by
  obtain ⟨⟨h0, h1, h2, h3, h4, h5, h6⟩, s0⟩ := h
  have hb : Below W.heap.size (W.alloc o) (W.alloc o') := bel_re W o o'
  refine ⟨⟨?_, ?_, ?_, ?_, ?_, ?_, ?_⟩, Nat.lt_of_lt_of_le s0 hb.size⟩
  · rw [hb.cell p0]; exact h0
  · rw [hb.cell p0]; exact h1
  · rw [hb.cell p0]; exact h2
  · rw [hb.cell p0]; exact h3
  · rw [hb.cell p0]; exact h4
  · rw [hb.cell p0]; exact h5
  · rw [hb.cell p0]; exact h6

theorem step_append_own {P : Program} {ops : Array Oper} {o : Oper} {a : Act} {w : World} {K : Act → World → Prop} {Q : Exit → Act → World → Prop} {E : Prop}
    (hg : o.guard = none) (s x : Operand) (t : TypeId) (hop : o.op = Op.call { callee := Callee.builtin Builtin.append, args := #[s, x], argTypes := #[t, t] }) (base : Nat)
    (e : TypeId) (i : TypeInfo) (z : Value) (size bytes : Nat) (h1 : P.underlying t = some (.slice e)) (h2 : P.info? e = some i) (h3 : i.zero = some z) (h4 : i.size = size) (h5 : i.bytes = bytes) (h6 : z.cells.size = size) (h7 : 0 < size)
    (v : Value) (n : Nat) (xs : List Value) (hs : a.eval s = v) (hown : w.ownsRow base e size v n xs)
    (ad : Addr) (m c : Nat) (news : List Value) (hx : a.eval x = .slice (some ad) m c) (hn : news.length = m * size) (hc : ∀ j u, news[j]? = some u → w.cell? (ad.add j) = some u) (h1c : ∀ u ∈ news, u.oneCell' = true)
    (b1 : n + m ≤ maxLen) (b2 : (n + m) * bytes ≤ 140737488355328) (hbase : base ≤ w.heap.size)
    (hK : ∀ v' w', w'.ownsRow base e size v' (n + m) (xs ++ news) → w.grownBy w' v.ownBlock → K (a.put o.dst v') w') :
    if Region.wanted o (yielded ops a.tmps) = true then Oper.wp P o a w K Q else E := by
  have hw : Region.wanted o (yielded ops a.tmps) = true := by simp [Region.wanted, hg]
  rw [if_pos hw]
  obtain ⟨v', w', hrun, r1, r2, _⟩ := run_append_own_at (P := P) (w := w) base t o.type e i z size bytes h1 h2 h3 h4 h5 h6 h7 v n xs hown ad m c news hn hc h1c b1 b2 hbase
  unfold Oper.wp
  simp [execOp, hop, resolve, invoke, builtin, hs, hx, hrun, Result.andThen]
  exact hK v' w' r1 r2
theorem st_keep {b0 o0x0 o0x1 o0x2 o0x3 o0x4 o0x5 o0x6 : Nat} {v0x0 v0x1 v0x2 v0x3 v0x4 v0x5 v0x6 : Value} {W W' W2 : World} {row : Option Nat} (h : ((W.cell? ⟨b0, o0x0, none⟩ = some (v0x0) ∧ W.cell? ⟨b0, o0x1, none⟩ = some (v0x1) ∧ W.cell? ⟨b0, o0x2, none⟩ = some (v0x2) ∧ W.cell? ⟨b0, o0x3, none⟩ = some (v0x3) ∧ W.cell? ⟨b0, o0x4, none⟩ = some (v0x4) ∧ W.cell? ⟨b0, o0x5, none⟩ = some (v0x5) ∧ W.cell? ⟨b0, o0x6, none⟩ = some (v0x6)) ∧ b0 < W.heap.size)) (hb : Below W.heap.size W W') (hg : W'.grownBy W2 row) (hne : some b0 ≠ row) : ((W2.cell? ⟨b0, o0x0, none⟩ = some (v0x0) ∧ W2.cell? ⟨b0, o0x1, none⟩ = some (v0x1) ∧ W2.cell? ⟨b0, o0x2, none⟩ = some (v0x2) ∧ W2.cell? ⟨b0, o0x3, none⟩ = some (v0x3) ∧ W2.cell? ⟨b0, o0x4, none⟩ = some (v0x4) ∧ W2.cell? ⟨b0, o0x5, none⟩ = some (v0x5) ∧ W2.cell? ⟨b0, o0x6, none⟩ = some (v0x6)) ∧ b0 < W2.heap.size) := by
  obtain ⟨⟨c0, c1, c2, c3, c4, c5, c6⟩, s0⟩ := hd_7 h hb
  have e0 : ∀ o, W2.cell? ⟨b0, o, none⟩ = W'.cell? ⟨b0, o, none⟩ := fun o => World.cell?_of_block (w := W') (hg.block b0 s0 hne)
  exact ⟨⟨(e0 _).trans c0, (e0 _).trans c1, (e0 _).trans c2, (e0 _).trans c3, (e0 _).trans c4, (e0 _).trans c5, (e0 _).trans c6⟩, Nat.lt_of_lt_of_le s0 hg.size⟩
theorem own_lt {W : World} {B : Nat} {e : TypeId} {size n : Nat} {v : Value} {xs : List Value} (h : W.ownsRow B e size v n xs) : ∀ k, v.ownBlock = some k → k < W.heap.size := by
  intro k hk
  rcases h.2 with ⟨rfl, _⟩ | ⟨g, cap, cur, rfl, hg, hblk, _⟩
  · cases hk
  · simp [Value.ownBlock] at hk
    subst hk
    exact (Array.getElem?_eq_some_iff.1 hblk).1
theorem Tryd.infoStr : (Tryd.prog.info? 9).map (fun i => (i.zero, i.size, i.bytes)) = some (some (.string ⟨#[]⟩), 1, 16) := by kernel_rfl

/-- When a row has a line; its line; the lines of rows. -/
def okR (x : TbR) : Bool := inB x.ky 0 3 && okWin x.st x.en && okAgg x.n x.su x.le x.mo
def rowTxt (x : TbR) (k : Int) : ByteArray := ⟨#[107, 101, 121, 32]⟩ ++ decI x.ky ++ ⟨#[32, 119, 105, 110, 100, 111, 119, 32]⟩ ++ winTxt x.st x.en ++ ⟨#[32, 104, 97, 115, 32]⟩ ++ decI (tellI x.n x.su x.le x.mo k)
def linesT (k : Int) (xs : List TbR) : List StR := (xs.filter okR).map fun x => ⟨rowTxt x k⟩
theorem take_snocL {α : Type} {xs : List α} {k : Nat} {x : α} (h : xs[k]? = some x) : xs.take (k + 1) = xs.take k ++ [x] := by
  obtain ⟨hk, he⟩ := List.getElem?_eq_some_iff.1 h
  rw [List.take_add_one, h]; rfl
theorem linesT_in {c : Int} {xs : List TbR} {k : Nat} {x : TbR} (h : xs[k]? = some x) (hb : okR x = true) : linesT c (xs.take (k + 1)) = linesT c (xs.take k) ++ [⟨rowTxt x c⟩] := by
  unfold linesT; rw [take_snocL h, List.filter_append]; simp [hb]
theorem linesT_no {c : Int} {xs : List TbR} {k : Nat} {x : TbR} (h : xs[k]? = some x) (hb : okR x = false) : linesT c (xs.take (k + 1)) = linesT c (xs.take k) := by
  unfold linesT; rw [take_snocL h, List.filter_append]; simp [hb]
theorem linesT_len (c : Int) (xs : List TbR) (k : Nat) : (linesT c (xs.take k)).length ≤ k := by
  unfold linesT
  rw [List.length_map]
  exact Nat.le_trans (List.length_filter_le _ _) (List.length_take_le _ _)
theorem linesT_le (c : Int) (xs : List TbR) : (linesT c xs).length ≤ xs.length := by
  unfold linesT
  rw [List.length_map]
  exact List.length_filter_le _ _
theorem keepL {c : Int} {xs : List TbR} {k : Nat} {x : TbR} {w1 : World} {B : Nat} {v' : Value} (h : xs[k]? = some x) (hb : okR x = true) (ho : w1.ownsRow B 9 1 v' ((linesT c (xs.take k)).length + 1) (flatSt (linesT c (xs.take k)) ++ [.string (rowTxt x c)])) : OwnSt w1 B v' (linesT c (xs.take (k + 1))) := by
  rw [linesT_in h hb]
  exact ownSt_snoc (x := ⟨rowTxt x c⟩) ho
theorem skipL {c : Int} {xs : List TbR} {k : Nat} {x : TbR} {w1 : World} {B : Nat} {v' : Value} (h : xs[k]? = some x) (hb : okR x = false) (ho : OwnSt w1 B v' (linesT c (xs.take k))) : OwnSt w1 B v' (linesT c (xs.take (k + 1))) := by
  rw [linesT_no h hb]
  exact ho

end Go.Proofs.YtkadmigecojpoaaDoor
