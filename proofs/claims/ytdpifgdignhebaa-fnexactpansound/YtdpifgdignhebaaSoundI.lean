/- Proved here: when panes are sound, in the program: what is ahead of each pane is kept in a map. -/
import Derived.Test.YtdpifgdignhebaaSoundS
namespace Go.Proofs.Ytdpifgdignhebaa
open Go.ChangeShapes Go.WideShapes Go.ChangeAt Go.RowKit Go.Maps
set_option linter.unusedVariables false

/-- What is ahead, as a map's element. -/
def encA (c : Int) (b : Bool) : DataW Unit := .agg [.lit (.int .i64 c), .lit (.bool b)]
def rdA (v : Value) : Option (DataW Unit × List MemPlace) := match v with
  | .agg a => match a.toList with
    | [.int .i64 c, .bool b] => some (encA c b, [])
    | _ => none
  | _ => none
theorem rdA_mk (c : Int) (b : Bool) : rdA (.agg #[.int .i64 c, .bool b]) = some (encA c b, []) := rfl
theorem rdA_inv {v : Value} {c : Int} {b : Bool} {ps : List MemPlace} (h : rdA v = some (encA c b, ps)) : v = .agg #[.int .i64 c, .bool b] := by
  unfold rdA at h
  split at h
  · rename_i a
    split at h
    · rename_i c' b' e
      simp only [encA, Option.some.injEq, Prod.mk.injEq, DataW.agg.injEq, List.cons.injEq, DataW.lit.injEq, Lit.int.injEq, Lit.bool.injEq, true_and, and_true] at h
      obtain ⟨⟨h1, h2⟩, _⟩ := h
      subst h1 h2
      have : a = #[.int .i64 c', .bool b'] := by rw [← Array.toList_inj]; exact e
      rw [this]
    · cases h
  · cases h
theorem zeroA (w : World) : (zeroValue 93).run Try.prog w = .ok (.agg #[.int .i64 0, .bool false]) w := by kernel_rfl
/-- Block b holds how many and whether one is gone, for each window of each key. -/
def Aheads (w : World) (b n : Nat) (c : Pl → Int) (g : Pl → Bool) : Prop := OwnsFn w Try.prog 86 rdA (encA 0 false) b n Pl.val Pl.ok (fun q => encA (c q) (g q))
theorem Aheads.look {w : World} {b n : Nat} {c : Pl → Int} {g : Pl → Bool} (h : Aheads w b n c g) (q : Pl) (hq : q.ok) : (Instr.lookup 91 (.map (some b)) q.val false).run Try.prog w = .ok (.agg #[.int .i64 (c q), .bool (g q)]) w := by
  obtain ⟨v, ps, h1, h2⟩ := OwnsFn.look h keyPl Try.underlying91 (zeroA w) (rdA_mk 0 false) keyPl_some q hq
  rw [h1, rdA_inv h2]
theorem Aheads.store {w : World} {b n : Nat} {c : Pl → Int} {g : Pl → Bool} (h : Aheads w b n c g) (hn : n < maxLen) (q : Pl) (hq : q.ok) (c' : Int) (g' : Bool) : ∃ w', (Instr.mapUpdate 91 (.map (some b)) q.val (.agg #[.int .i64 c', .bool g'])).run Try.prog w = .ok () w' ∧ Aheads w' b (n + 1) (fun x => if x = q then c' else c x) (fun x => if x = q then g' else g x) ∧ w.grownBy w' (some b) := by
  obtain ⟨w', h1, h2, h3⟩ := OwnsFn.store h keyPl Try.underlying91 hn keyPl_some Pl.inj q hq (rdA_mk c' g')
  refine ⟨w', h1, ?_, h3⟩
  unfold Aheads
  have e : (fun x => encA (if x = q then c' else c x) (if x = q then g' else g x)) = (fun x => if x = q then encA c' g' else encA (c x) (g x)) := by
    funext x
    by_cases e : x = q <;> simp [e]
  rw [e]
  exact h2
theorem Aheads.step {w : World} {b n : Nat} {xs : List PnR} {k : Nat} {x : PnR} (hx : xs[k]? = some x) (hg : anyP x.pl (xs.take k) = false)
    (h : Aheads w b n (fun y => if y = x.pl then ((cntP x.pl (xs.take k) : Nat) : Int) + 1 else (cntP y (xs.take k) : Nat)) (fun y => if y = x.pl then (x.kd == 3) else anyP y (xs.take k))) : Aheads w b n (fun q => (cntP q (xs.take (k + 1)) : Nat)) (fun q => anyP q (xs.take (k + 1))) := by
  have e1 : (fun y => if y = x.pl then ((cntP x.pl (xs.take k) : Nat) : Int) + 1 else (cntP y (xs.take k) : Nat)) = (fun q => ((cntP q (xs.take (k + 1)) : Nat) : Int)) := by
    funext y
    by_cases e : y = x.pl
    · subst e; rw [if_pos rfl, cntP_in hx rfl]; omega
    · rw [if_neg e, cntP_no hx (fun e' => e e'.symm)]
  have e2 : (fun y => if y = x.pl then (x.kd == 3) else anyP y (xs.take k)) = (fun q => anyP q (xs.take (k + 1))) := by
    funext y
    by_cases e : y = x.pl
    · subst e; rw [if_pos rfl, anyP_in hx rfl, hg]; rfl
    · rw [if_neg e, anyP_no hx (fun e' => e e'.symm)]
  rw [e1, e2] at h
  exact h
theorem wf64 {z : Int} (h : -9223372036854775808 ≤ z ∧ z ≤ 9223372036854775807) : (Lit.int .i64 z).wf = true := WalkArith.wf_i64 h

theorem hd_9_2 {b0 b1 o0x0 o0x1 o0x2 o0x3 o0x4 o0x5 o0x6 o0x7 o0x8 o1x0 o1x1 : Nat} {v0x0 v0x1 v0x2 v0x3 v0x4 v0x5 v0x6 v0x7 v0x8 v1x0 v1x1 : Value} {W W' : World} (h : ((W.cell? ⟨b0, o0x0, none⟩ = some (v0x0) ∧ W.cell? ⟨b0, o0x1, none⟩ = some (v0x1) ∧ W.cell? ⟨b0, o0x2, none⟩ = some (v0x2) ∧ W.cell? ⟨b0, o0x3, none⟩ = some (v0x3) ∧ W.cell? ⟨b0, o0x4, none⟩ = some (v0x4) ∧ W.cell? ⟨b0, o0x5, none⟩ = some (v0x5) ∧ W.cell? ⟨b0, o0x6, none⟩ = some (v0x6) ∧ W.cell? ⟨b0, o0x7, none⟩ = some (v0x7) ∧ W.cell? ⟨b0, o0x8, none⟩ = some (v0x8) ∧ W.cell? ⟨b1, o1x0, none⟩ = some (v1x0) ∧ W.cell? ⟨b1, o1x1, none⟩ = some (v1x1)) ∧ b0 < W.heap.size ∧ b1 < W.heap.size)) (hb : Below W.heap.size W W') : ((W'.cell? ⟨b0, o0x0, none⟩ = some (v0x0) ∧ W'.cell? ⟨b0, o0x1, none⟩ = some (v0x1) ∧ W'.cell? ⟨b0, o0x2, none⟩ = some (v0x2) ∧ W'.cell? ⟨b0, o0x3, none⟩ = some (v0x3) ∧ W'.cell? ⟨b0, o0x4, none⟩ = some (v0x4) ∧ W'.cell? ⟨b0, o0x5, none⟩ = some (v0x5) ∧ W'.cell? ⟨b0, o0x6, none⟩ = some (v0x6) ∧ W'.cell? ⟨b0, o0x7, none⟩ = some (v0x7) ∧ W'.cell? ⟨b0, o0x8, none⟩ = some (v0x8) ∧ W'.cell? ⟨b1, o1x0, none⟩ = some (v1x0) ∧ W'.cell? ⟨b1, o1x1, none⟩ = some (v1x1)) ∧ b0 < W'.heap.size ∧ b1 < W'.heap.size) := by
  obtain ⟨⟨h0, h1, h2, h3, h4, h5, h6, h7, h8, h9, h10⟩, s0, s1⟩ := h
  refine ⟨⟨?_, ?_, ?_, ?_, ?_, ?_, ?_, ?_, ?_, ?_, ?_⟩, Nat.lt_of_lt_of_le s0 hb.size, Nat.lt_of_lt_of_le s1 hb.size⟩
  · rw [hb.cell s0]; exact h0
  · rw [hb.cell s0]; exact h1
  · rw [hb.cell s0]; exact h2
  · rw [hb.cell s0]; exact h3
  · rw [hb.cell s0]; exact h4
  · rw [hb.cell s0]; exact h5
  · rw [hb.cell s0]; exact h6
  · rw [hb.cell s0]; exact h7
  · rw [hb.cell s0]; exact h8
  · rw [hb.cell s1]; exact h9
  · rw [hb.cell s1]; exact h10

theorem hd_9_2_set {b0 b1 o0x0 o0x1 o0x2 o0x3 o0x4 o0x5 o0x6 o0x7 o0x8 o1x0 o1x1 : Nat} {v0x0 v0x1 v0x2 v0x3 v0x4 v0x5 v0x6 v0x7 v0x8 v1x0 v1x1 : Value} {W : World} {p : Addr} (h : ((W.cell? ⟨b0, o0x0, none⟩ = some (v0x0) ∧ W.cell? ⟨b0, o0x1, none⟩ = some (v0x1) ∧ W.cell? ⟨b0, o0x2, none⟩ = some (v0x2) ∧ W.cell? ⟨b0, o0x3, none⟩ = some (v0x3) ∧ W.cell? ⟨b0, o0x4, none⟩ = some (v0x4) ∧ W.cell? ⟨b0, o0x5, none⟩ = some (v0x5) ∧ W.cell? ⟨b0, o0x6, none⟩ = some (v0x6) ∧ W.cell? ⟨b0, o0x7, none⟩ = some (v0x7) ∧ W.cell? ⟨b0, o0x8, none⟩ = some (v0x8) ∧ W.cell? ⟨b1, o1x0, none⟩ = some (v1x0) ∧ W.cell? ⟨b1, o1x1, none⟩ = some (v1x1)) ∧ b0 < W.heap.size ∧ b1 < W.heap.size)) (p0 : p.block ≠ b0) (p1 : p.block ≠ b1) (u : Value) : (((W.setCell p u).cell? ⟨b0, o0x0, none⟩ = some (v0x0) ∧ (W.setCell p u).cell? ⟨b0, o0x1, none⟩ = some (v0x1) ∧ (W.setCell p u).cell? ⟨b0, o0x2, none⟩ = some (v0x2) ∧ (W.setCell p u).cell? ⟨b0, o0x3, none⟩ = some (v0x3) ∧ (W.setCell p u).cell? ⟨b0, o0x4, none⟩ = some (v0x4) ∧ (W.setCell p u).cell? ⟨b0, o0x5, none⟩ = some (v0x5) ∧ (W.setCell p u).cell? ⟨b0, o0x6, none⟩ = some (v0x6) ∧ (W.setCell p u).cell? ⟨b0, o0x7, none⟩ = some (v0x7) ∧ (W.setCell p u).cell? ⟨b0, o0x8, none⟩ = some (v0x8) ∧ (W.setCell p u).cell? ⟨b1, o1x0, none⟩ = some (v1x0) ∧ (W.setCell p u).cell? ⟨b1, o1x1, none⟩ = some (v1x1)) ∧ b0 < (W.setCell p u).heap.size ∧ b1 < (W.setCell p u).heap.size) := by
  obtain ⟨⟨h0, h1, h2, h3, h4, h5, h6, h7, h8, h9, h10⟩, s0, s1⟩ := h
  have hb : W.heap.size ≤ (W.setCell p u).heap.size := by simp [World.setCell]
  refine ⟨⟨?_, ?_, ?_, ?_, ?_, ?_, ?_, ?_, ?_, ?_, ?_⟩, Nat.lt_of_lt_of_le s0 hb, Nat.lt_of_lt_of_le s1 hb⟩
  · rw [cell_set_ne p0]; exact h0
  · rw [cell_set_ne p0]; exact h1
  · rw [cell_set_ne p0]; exact h2
  · rw [cell_set_ne p0]; exact h3
  · rw [cell_set_ne p0]; exact h4
  · rw [cell_set_ne p0]; exact h5
  · rw [cell_set_ne p0]; exact h6
  · rw [cell_set_ne p0]; exact h7
  · rw [cell_set_ne p0]; exact h8
  · rw [cell_set_ne p1]; exact h9
  · rw [cell_set_ne p1]; exact h10

theorem hd_9_2_re {b0 b1 o0x0 o0x1 o0x2 o0x3 o0x4 o0x5 o0x6 o0x7 o0x8 o1x0 o1x1 : Nat} {v0x0 v0x1 v0x2 v0x3 v0x4 v0x5 v0x6 v0x7 v0x8 v1x0 v1x1 : Value} {W : World} {o o' : Obj} (h : (((W.alloc o).cell? ⟨b0, o0x0, none⟩ = some (v0x0) ∧ (W.alloc o).cell? ⟨b0, o0x1, none⟩ = some (v0x1) ∧ (W.alloc o).cell? ⟨b0, o0x2, none⟩ = some (v0x2) ∧ (W.alloc o).cell? ⟨b0, o0x3, none⟩ = some (v0x3) ∧ (W.alloc o).cell? ⟨b0, o0x4, none⟩ = some (v0x4) ∧ (W.alloc o).cell? ⟨b0, o0x5, none⟩ = some (v0x5) ∧ (W.alloc o).cell? ⟨b0, o0x6, none⟩ = some (v0x6) ∧ (W.alloc o).cell? ⟨b0, o0x7, none⟩ = some (v0x7) ∧ (W.alloc o).cell? ⟨b0, o0x8, none⟩ = some (v0x8) ∧ (W.alloc o).cell? ⟨b1, o1x0, none⟩ = some (v1x0) ∧ (W.alloc o).cell? ⟨b1, o1x1, none⟩ = some (v1x1)) ∧ b0 < (W.alloc o).heap.size ∧ b1 < (W.alloc o).heap.size)) (p0 : b0 < W.heap.size) (p1 : b1 < W.heap.size) : (((W.alloc o').cell? ⟨b0, o0x0, none⟩ = some (v0x0) ∧ (W.alloc o').cell? ⟨b0, o0x1, none⟩ = some (v0x1) ∧ (W.alloc o').cell? ⟨b0, o0x2, none⟩ = some (v0x2) ∧ (W.alloc o').cell? ⟨b0, o0x3, none⟩ = some (v0x3) ∧ (W.alloc o').cell? ⟨b0, o0x4, none⟩ = some (v0x4) ∧ (W.alloc o').cell? ⟨b0, o0x5, none⟩ = some (v0x5) ∧ (W.alloc o').cell? ⟨b0, o0x6, none⟩ = some (v0x6) ∧ (W.alloc o').cell? ⟨b0, o0x7, none⟩ = some (v0x7) ∧ (W.alloc o').cell? ⟨b0, o0x8, none⟩ = some (v0x8) ∧ (W.alloc o').cell? ⟨b1, o1x0, none⟩ = some (v1x0) ∧ (W.alloc o').cell? ⟨b1, o1x1, none⟩ = some (v1x1)) ∧ b0 < (W.alloc o').heap.size ∧ b1 < (W.alloc o').heap.size) := by
  obtain ⟨⟨h0, h1, h2, h3, h4, h5, h6, h7, h8, h9, h10⟩, s0, s1⟩ := h
  have hb : Below W.heap.size (W.alloc o) (W.alloc o') := bel_re W o o'
  refine ⟨⟨?_, ?_, ?_, ?_, ?_, ?_, ?_, ?_, ?_, ?_, ?_⟩, Nat.lt_of_lt_of_le s0 hb.size, Nat.lt_of_lt_of_le s1 hb.size⟩
  · rw [hb.cell p0]; exact h0
  · rw [hb.cell p0]; exact h1
  · rw [hb.cell p0]; exact h2
  · rw [hb.cell p0]; exact h3
  · rw [hb.cell p0]; exact h4
  · rw [hb.cell p0]; exact h5
  · rw [hb.cell p0]; exact h6
  · rw [hb.cell p0]; exact h7
  · rw [hb.cell p0]; exact h8
  · rw [hb.cell p1]; exact h9
  · rw [hb.cell p1]; exact h10

theorem sound_keep {b0 b1 m o0x0 o0x1 o0x2 o0x3 o0x4 o0x5 o0x6 o0x7 o0x8 o1x0 o1x1 : Nat} {v0x0 v0x1 v0x2 v0x3 v0x4 v0x5 v0x6 v0x7 v0x8 v1x0 v1x1 : Value} {W W' W2 : World} (h : ((W.cell? ⟨b0, o0x0, none⟩ = some (v0x0) ∧ W.cell? ⟨b0, o0x1, none⟩ = some (v0x1) ∧ W.cell? ⟨b0, o0x2, none⟩ = some (v0x2) ∧ W.cell? ⟨b0, o0x3, none⟩ = some (v0x3) ∧ W.cell? ⟨b0, o0x4, none⟩ = some (v0x4) ∧ W.cell? ⟨b0, o0x5, none⟩ = some (v0x5) ∧ W.cell? ⟨b0, o0x6, none⟩ = some (v0x6) ∧ W.cell? ⟨b0, o0x7, none⟩ = some (v0x7) ∧ W.cell? ⟨b0, o0x8, none⟩ = some (v0x8) ∧ W.cell? ⟨b1, o1x0, none⟩ = some (v1x0) ∧ W.cell? ⟨b1, o1x1, none⟩ = some (v1x1)) ∧ b0 < W.heap.size ∧ b1 < W.heap.size)) (hb : Below W.drew.heap.size W.drew W') (hg : W'.grownBy W2 (some m)) (h0 : b0 ≠ m) (h1 : b1 ≠ m) : ((W2.cell? ⟨b0, o0x0, none⟩ = some (v0x0) ∧ W2.cell? ⟨b0, o0x1, none⟩ = some (v0x1) ∧ W2.cell? ⟨b0, o0x2, none⟩ = some (v0x2) ∧ W2.cell? ⟨b0, o0x3, none⟩ = some (v0x3) ∧ W2.cell? ⟨b0, o0x4, none⟩ = some (v0x4) ∧ W2.cell? ⟨b0, o0x5, none⟩ = some (v0x5) ∧ W2.cell? ⟨b0, o0x6, none⟩ = some (v0x6) ∧ W2.cell? ⟨b0, o0x7, none⟩ = some (v0x7) ∧ W2.cell? ⟨b0, o0x8, none⟩ = some (v0x8) ∧ W2.cell? ⟨b1, o1x0, none⟩ = some (v1x0) ∧ W2.cell? ⟨b1, o1x1, none⟩ = some (v1x1)) ∧ b0 < W2.heap.size ∧ b1 < W2.heap.size) := by
  have h' := hd_9_2 h (bel_trans (bel_drew (Below.refl _ _)) hb)
  obtain ⟨⟨c0, c1, c2, c3, c4, c5, c6, c7, c8, c9, c10⟩, s0, s1⟩ := h'
  have e0 : ∀ o, W2.cell? ⟨b0, o, none⟩ = W'.cell? ⟨b0, o, none⟩ := fun o => World.cell?_of_block (w := W') (hg.block b0 s0 (by simpa using h0))
  have e1 : ∀ o, W2.cell? ⟨b1, o, none⟩ = W'.cell? ⟨b1, o, none⟩ := fun o => World.cell?_of_block (w := W') (hg.block b1 s1 (by simpa using h1))
  exact ⟨⟨(e0 _).trans c0, (e0 _).trans c1, (e0 _).trans c2, (e0 _).trans c3, (e0 _).trans c4, (e0 _).trans c5, (e0 _).trans c6, (e0 _).trans c7, (e0 _).trans c8, (e1 _).trans c9, (e1 _).trans c10⟩, Nat.lt_of_lt_of_le s0 hg.size, Nat.lt_of_lt_of_le s1 hg.size⟩

set_option maxRecDepth 20000 in
set_option maxHeartbeats 4000000 in
theorem implsound_any (a : Option Addr) (len cap : Nat) (xs : List PnR) (w : World) (h : PnRs w a len xs) (hl : len ≤ 1048576) (h64 : ∀ x ∈ xs, x.ok64) : Calls Try.prog 23 #[.slice a len cap] w fun e w' => e = .returned (.bool (soundT xs)) ∧ Below w.heap.size w w' := by
  have hmm := @run_makeMap Try.prog
  go_enter Try.func23, Try.ntmps23
  go_wp2
  go_loopw [10] (fun i wr => ∃ k : Nat, k ≤ len ∧ i = .int .i64 k ∧ Hid (Upto xs k) ∧ Hid (Aheads wr w.heap.size k (fun q => (cntP q (xs.take k) : Nat)) (fun q => anyP q (xs.take k))) ∧ Below w.heap.size w wr) (fun i _ => len - (intOf i).toNat)
  case atStart => exact ⟨0, Nat.zero_le _, rfl, hide (upto_0 xs), hide (OwnsFn.made w Try.prog 86 rdA (encA 0 false) Pl.val Pl.ok), bel_one _ _⟩
  case round =>
    obtain ⟨k, hk, rfl, HU, HF, hbw⟩ := hrel
    by_cases hlt : k < len
    · obtain ⟨hxl, _, hx⟩ := h
      obtain ⟨g, o, rfl, hr⟩ := hx.resolve_left (by omega)
      obtain ⟨x, hxk⟩ : ∃ x, xs[k]? = some x := ⟨_, List.getElem?_eq_getElem (by omega)⟩
      have hg : g < w.heap.size := hr.lt (by omega)
      have hX := hide hxk
      have hok : x.pl.ok := by
        have := h64 x (List.mem_of_getElem? hxk)
        exact ⟨wf64 this.1, wf64 this.2.1, wf64 this.2.2.1⟩
      obtain ⟨d0, d1, d2, d3, d4, d5, d6, d7, d8⟩ := (hr k _ hxk).below hbw hg
      have hcl := cntP_le x.pl xs k
      have hmw : w.heap.size < wr.heap.size := OwnsFn.lt (unhide HF)
      clear hx hr hxk
      go_wp2_with fail
      refine (panplace_any _ _ _ _ _ _ _ _ _ _).mono ?_
      rintro e wp ⟨rfl, hb⟩
      have X0 : wp.cell? ⟨wr.heap.size, 0, none⟩ = some (.int .i64 x.ky) := (hb.cell (p := ⟨wr.heap.size, 0, none⟩) (by simp)).trans (by simp [go_sem])
      have X1 : wp.cell? ⟨wr.heap.size, 1, none⟩ = some (.int .i64 x.st) := (hb.cell (p := ⟨wr.heap.size, 1, none⟩) (by simp)).trans (by simp [go_sem])
      have X2 : wp.cell? ⟨wr.heap.size, 2, none⟩ = some (.int .i64 x.en) := (hb.cell (p := ⟨wr.heap.size, 2, none⟩) (by simp)).trans (by simp [go_sem])
      have X3 : wp.cell? ⟨wr.heap.size, 3, none⟩ = some (.int .i64 x.no) := (hb.cell (p := ⟨wr.heap.size, 3, none⟩) (by simp)).trans (by simp [go_sem])
      have X4 : wp.cell? ⟨wr.heap.size, 4, none⟩ = some (.int .i64 x.kd) := (hb.cell (p := ⟨wr.heap.size, 4, none⟩) (by simp)).trans (by simp [go_sem])
      have X5 : wp.cell? ⟨wr.heap.size, 5, none⟩ = some (.int .i64 x.n) := (hb.cell (p := ⟨wr.heap.size, 5, none⟩) (by simp)).trans (by simp [go_sem])
      have X6 : wp.cell? ⟨wr.heap.size, 6, none⟩ = some (.int .i64 x.su) := (hb.cell (p := ⟨wr.heap.size, 6, none⟩) (by simp)).trans (by simp [go_sem])
      have X7 : wp.cell? ⟨wr.heap.size, 7, none⟩ = some (.int .i64 x.le) := (hb.cell (p := ⟨wr.heap.size, 7, none⟩) (by simp)).trans (by simp [go_sem])
      have X8 : wp.cell? ⟨wr.heap.size, 8, none⟩ = some (.int .i64 x.mo) := (hb.cell (p := ⟨wr.heap.size, 8, none⟩) (by simp)).trans (by simp [go_sem])
      have hzp : wr.heap.size < wp.heap.size := by have h9 := hb.size; simp at h9; omega
      have hbp : Below w.heap.size w wp := bel_trans (bel_alloc hbw _) hb
      have Fp : Aheads wp w.heap.size k (fun q => (cntP q (xs.take k) : Nat)) (fun q => anyP q (xs.take k)) := OwnsFn.below (OwnsFn.below (unhide HF) (bel_one _ _)) hb
      have hlook := Aheads.look Fp x.pl hok
      have hlk : (Instr.lookup 91 (.map (some w.heap.size)) (.agg #[.int .i64 x.ky, .int .i64 x.st, .int .i64 x.en]) false).run Try.prog wp = .ok (.agg #[.int .i64 ((cntP x.pl (xs.take k) : Nat) : Int), .bool (anyP x.pl (xs.take k))]) wp := hlook
      have HFp := hide Fp
      clear hlook Fp hb d0 d1 d2 d3 d4 d5 d6 d7 d8
      go_wp2_with fail
      clear hlk
      refine (implpanok_any _ _ _ _ _ _ _ _ _ _).mono ?_
      rintro e wq ⟨rfl, hb⟩
      generalize hob : okPan x.ky x.st x.en x.no x.kd x.n x.su x.le x.mo = ob
      have HOB : Hid (okP x = ob) := hide hob
      clear hob
      have hbq : Below wp.heap.size wp wq := bel_trans (bel_one _ _) hb
      have Y0 : wq.cell? ⟨wr.heap.size, 0, none⟩ = some (.int .i64 x.ky) := (hbq.cell (p := ⟨wr.heap.size, 0, none⟩) hzp).trans X0
      have Y1 : wq.cell? ⟨wr.heap.size, 1, none⟩ = some (.int .i64 x.st) := (hbq.cell (p := ⟨wr.heap.size, 1, none⟩) hzp).trans X1
      have Y2 : wq.cell? ⟨wr.heap.size, 2, none⟩ = some (.int .i64 x.en) := (hbq.cell (p := ⟨wr.heap.size, 2, none⟩) hzp).trans X2
      have Y3 : wq.cell? ⟨wr.heap.size, 3, none⟩ = some (.int .i64 x.no) := (hbq.cell (p := ⟨wr.heap.size, 3, none⟩) hzp).trans X3
      have Y4 : wq.cell? ⟨wr.heap.size, 4, none⟩ = some (.int .i64 x.kd) := (hbq.cell (p := ⟨wr.heap.size, 4, none⟩) hzp).trans X4
      have Y5 : wq.cell? ⟨wr.heap.size, 5, none⟩ = some (.int .i64 x.n) := (hbq.cell (p := ⟨wr.heap.size, 5, none⟩) hzp).trans X5
      have Y6 : wq.cell? ⟨wr.heap.size, 6, none⟩ = some (.int .i64 x.su) := (hbq.cell (p := ⟨wr.heap.size, 6, none⟩) hzp).trans X6
      have Y7 : wq.cell? ⟨wr.heap.size, 7, none⟩ = some (.int .i64 x.le) := (hbq.cell (p := ⟨wr.heap.size, 7, none⟩) hzp).trans X7
      have Y8 : wq.cell? ⟨wr.heap.size, 8, none⟩ = some (.int .i64 x.mo) := (hbq.cell (p := ⟨wr.heap.size, 8, none⟩) hzp).trans X8
      have B0 : wq.cell? ⟨wp.heap.size, 0, none⟩ = some (.int .i64 ((cntP x.pl (xs.take k) : Nat) : Int)) := (hb.cell (p := ⟨wp.heap.size, 0, none⟩) (by simp)).trans (by simp [go_sem])
      have B1 : wq.cell? ⟨wp.heap.size, 1, none⟩ = some (.bool (anyP x.pl (xs.take k))) := (hb.cell (p := ⟨wp.heap.size, 1, none⟩) (by simp)).trans (by simp [go_sem])
      have hzq : wp.heap.size < wq.heap.size := by have h9 := hb.size; simp at h9; omega
      have hbw2 : Below w.heap.size w wq := bel_trans hbp hbq
      have HFq := hide (OwnsFn.below (unhide HFp) hbq)
      clear hb X0 X1 X2 X3 X4 X5 X6 X7 X8
      cases ob
      · have HV := hide (upto_f (unhide hX) (unhide HU) (atP_1 (unhide HOB)))
        go_wp2_with fail
        go_ret
        exact ⟨ret_b (unhide HV).symm, hbw2⟩
      · have H0 := HOB
        by_cases hno : x.no = ((cntP x.pl (xs.take k) : Nat) : Int)
        · cases hg0 : anyP x.pl (xs.take k)
          · have HU2 := hide (upto_t (unhide hX) (unhide HU) (atP_t (unhide H0) hno hg0))
            have HG := hide hg0
            by_cases h3 : x.kd = 3
            · have HK : Hid ((x.kd == 3) = true) := hide (by simp [h3])
              have hw1 : IntKind.i64.wrap (((cntP x.pl (xs.take k) : Nat) : Int) + 1) = ((cntP x.pl (xs.take k) : Nat) : Int) + 1 := by rw [IntKind.wrap_i64]; omega
              go_wp2_with fail
              rw [hg0] at B1
              have HS : ((wq.cell? ⟨wr.heap.size, 0, none⟩ = some (.int .i64 x.ky) ∧ wq.cell? ⟨wr.heap.size, 1, none⟩ = some (.int .i64 x.st) ∧ wq.cell? ⟨wr.heap.size, 2, none⟩ = some (.int .i64 x.en) ∧ wq.cell? ⟨wr.heap.size, 3, none⟩ = some (.int .i64 x.no) ∧ wq.cell? ⟨wr.heap.size, 4, none⟩ = some (.int .i64 x.kd) ∧ wq.cell? ⟨wr.heap.size, 5, none⟩ = some (.int .i64 x.n) ∧ wq.cell? ⟨wr.heap.size, 6, none⟩ = some (.int .i64 x.su) ∧ wq.cell? ⟨wr.heap.size, 7, none⟩ = some (.int .i64 x.le) ∧ wq.cell? ⟨wr.heap.size, 8, none⟩ = some (.int .i64 x.mo) ∧ wq.cell? ⟨wp.heap.size, 0, none⟩ = some (.int .i64 ((cntP x.pl (xs.take k) : Nat) : Int)) ∧ wq.cell? ⟨wp.heap.size, 1, none⟩ = some (.bool false)) ∧ wr.heap.size < wq.heap.size ∧ wp.heap.size < wq.heap.size) := ⟨⟨Y0, Y1, Y2, Y3, Y4, Y5, Y6, Y7, Y8, B0, B1⟩, Nat.lt_trans hzp hzq, hzq⟩
              clear hg0 hno B0 B1 Y0 Y1 Y2 Y3 Y4 Y5 Y6 Y7 Y8
              go_region_held3 (fun W => ((W.cell? ⟨wr.heap.size, 0, none⟩ = some (.int .i64 x.ky) ∧ W.cell? ⟨wr.heap.size, 1, none⟩ = some (.int .i64 x.st) ∧ W.cell? ⟨wr.heap.size, 2, none⟩ = some (.int .i64 x.en) ∧ W.cell? ⟨wr.heap.size, 3, none⟩ = some (.int .i64 x.no) ∧ W.cell? ⟨wr.heap.size, 4, none⟩ = some (.int .i64 x.kd) ∧ W.cell? ⟨wr.heap.size, 5, none⟩ = some (.int .i64 x.n) ∧ W.cell? ⟨wr.heap.size, 6, none⟩ = some (.int .i64 x.su) ∧ W.cell? ⟨wr.heap.size, 7, none⟩ = some (.int .i64 x.le) ∧ W.cell? ⟨wr.heap.size, 8, none⟩ = some (.int .i64 x.mo) ∧ W.cell? ⟨wp.heap.size, 0, none⟩ = some (.int .i64 ((cntP x.pl (xs.take k) : Nat) : Int)) ∧ W.cell? ⟨wp.heap.size, 1, none⟩ = some (.bool false)) ∧ wr.heap.size < W.heap.size ∧ wp.heap.size < W.heap.size)) ((first | ((repeat (first | (with_reducible assumption) | (with_reducible refine hd_9_2 ?_ (by with_reducible assumption)) | (with_reducible refine hd_9_2 ?_ (bel_drew (Below.refl _ _))) | (with_reducible exact hd_9_2_re (by with_reducible assumption) (by first | omega | (simp; done) | (simp; omega)) (by first | omega | (simp; done) | (simp; omega))) | (with_reducible refine hd_9_2 ?_ (bel_one _ _)) | (with_reducible refine hd_9_2_set ?_ (by first | omega | (simp; done) | (simp; omega)) (by first | omega | (simp; done) | (simp; omega)) _))); done) | (refine ⟨⟨?_, ?_, ?_, ?_, ?_, ?_, ?_, ?_, ?_, ?_, ?_⟩, ?_, ?_⟩ <;> first | (go_keep; done) | (simp; done) | (simp; omega) | omega)))
                (first
                | (go_at_call 49; refine (panplace_any _ _ _ _ _ _ _ _ _ _).mono ?_; rintro e ws ⟨rfl, hbs⟩; obtain ⟨w2, hup, Fu, hgr⟩ := Aheads.store (OwnsFn.below (unhide HFq) (bel_trans (bel_drew (Below.refl _ _)) hbs)) (by unfold maxLen; omega) x.pl hok (((cntP x.pl (xs.take k) : Nat) : Int) + 1) true; have hu2 : (Instr.mapUpdate 91 (.map (some w.heap.size)) (.agg #[.int .i64 x.ky, .int .i64 x.st, .int .i64 x.en]) (.agg #[.int .i64 (((cntP x.pl (xs.take k) : Nat) : Int) + 1), .bool true])).run Try.prog ws = .ok () w2 := hup; have hFu := hide Fu; have HS2 : ((w2.cell? ⟨wr.heap.size, 0, none⟩ = some (.int .i64 x.ky) ∧ w2.cell? ⟨wr.heap.size, 1, none⟩ = some (.int .i64 x.st) ∧ w2.cell? ⟨wr.heap.size, 2, none⟩ = some (.int .i64 x.en) ∧ w2.cell? ⟨wr.heap.size, 3, none⟩ = some (.int .i64 x.no) ∧ w2.cell? ⟨wr.heap.size, 4, none⟩ = some (.int .i64 x.kd) ∧ w2.cell? ⟨wr.heap.size, 5, none⟩ = some (.int .i64 x.n) ∧ w2.cell? ⟨wr.heap.size, 6, none⟩ = some (.int .i64 x.su) ∧ w2.cell? ⟨wr.heap.size, 7, none⟩ = some (.int .i64 x.le) ∧ w2.cell? ⟨wr.heap.size, 8, none⟩ = some (.int .i64 x.mo) ∧ w2.cell? ⟨wp.heap.size, 0, none⟩ = some (.int .i64 ((cntP x.pl (xs.take k) : Nat) : Int)) ∧ w2.cell? ⟨wp.heap.size, 1, none⟩ = some (.bool false)) ∧ wr.heap.size < w2.heap.size ∧ wp.heap.size < w2.heap.size) := sound_keep HS hbs hgr (by omega) (by omega); clear Fu hup))
              all_goals
                go_wp2_with fail
                go_roundw
                case rel => exact ⟨k + 1, by omega, by go_num, HU2, hide (Aheads.step (unhide hX) (unhide HG) (by rw [unhide HK]; exact unhide hFu)), (bel_trans hbw2 (bel_trans (bel_drew (Below.refl _ _)) hbs)).grown hgr (by have h8 := hbw2.size; have h9 := hbs.size; (try simp at h9); omega) (fun k hk => by cases hk; exact Nat.le_refl _)⟩
                case measure => simp [intOf]; omega
            · have HK : Hid ((x.kd == 3) = false) := hide (by simpa using h3)
              have h3' : (x.kd == 3) = false := by simpa using h3
              have hw1 : IntKind.i64.wrap (((cntP x.pl (xs.take k) : Nat) : Int) + 1) = ((cntP x.pl (xs.take k) : Nat) : Int) + 1 := by rw [IntKind.wrap_i64]; omega
              go_wp2_with fail
              rw [hg0] at B1
              have HS : ((wq.cell? ⟨wr.heap.size, 0, none⟩ = some (.int .i64 x.ky) ∧ wq.cell? ⟨wr.heap.size, 1, none⟩ = some (.int .i64 x.st) ∧ wq.cell? ⟨wr.heap.size, 2, none⟩ = some (.int .i64 x.en) ∧ wq.cell? ⟨wr.heap.size, 3, none⟩ = some (.int .i64 x.no) ∧ wq.cell? ⟨wr.heap.size, 4, none⟩ = some (.int .i64 x.kd) ∧ wq.cell? ⟨wr.heap.size, 5, none⟩ = some (.int .i64 x.n) ∧ wq.cell? ⟨wr.heap.size, 6, none⟩ = some (.int .i64 x.su) ∧ wq.cell? ⟨wr.heap.size, 7, none⟩ = some (.int .i64 x.le) ∧ wq.cell? ⟨wr.heap.size, 8, none⟩ = some (.int .i64 x.mo) ∧ wq.cell? ⟨wp.heap.size, 0, none⟩ = some (.int .i64 ((cntP x.pl (xs.take k) : Nat) : Int)) ∧ wq.cell? ⟨wp.heap.size, 1, none⟩ = some (.bool false)) ∧ wr.heap.size < wq.heap.size ∧ wp.heap.size < wq.heap.size) := ⟨⟨Y0, Y1, Y2, Y3, Y4, Y5, Y6, Y7, Y8, B0, B1⟩, Nat.lt_trans hzp hzq, hzq⟩
              clear hg0 hno B0 B1 Y0 Y1 Y2 Y3 Y4 Y5 Y6 Y7 Y8
              go_region_held3 (fun W => ((W.cell? ⟨wr.heap.size, 0, none⟩ = some (.int .i64 x.ky) ∧ W.cell? ⟨wr.heap.size, 1, none⟩ = some (.int .i64 x.st) ∧ W.cell? ⟨wr.heap.size, 2, none⟩ = some (.int .i64 x.en) ∧ W.cell? ⟨wr.heap.size, 3, none⟩ = some (.int .i64 x.no) ∧ W.cell? ⟨wr.heap.size, 4, none⟩ = some (.int .i64 x.kd) ∧ W.cell? ⟨wr.heap.size, 5, none⟩ = some (.int .i64 x.n) ∧ W.cell? ⟨wr.heap.size, 6, none⟩ = some (.int .i64 x.su) ∧ W.cell? ⟨wr.heap.size, 7, none⟩ = some (.int .i64 x.le) ∧ W.cell? ⟨wr.heap.size, 8, none⟩ = some (.int .i64 x.mo) ∧ W.cell? ⟨wp.heap.size, 0, none⟩ = some (.int .i64 ((cntP x.pl (xs.take k) : Nat) : Int)) ∧ W.cell? ⟨wp.heap.size, 1, none⟩ = some (.bool false)) ∧ wr.heap.size < W.heap.size ∧ wp.heap.size < W.heap.size)) ((first | ((repeat (first | (with_reducible assumption) | (with_reducible refine hd_9_2 ?_ (by with_reducible assumption)) | (with_reducible refine hd_9_2 ?_ (bel_drew (Below.refl _ _))) | (with_reducible exact hd_9_2_re (by with_reducible assumption) (by first | omega | (simp; done) | (simp; omega)) (by first | omega | (simp; done) | (simp; omega))) | (with_reducible refine hd_9_2 ?_ (bel_one _ _)) | (with_reducible refine hd_9_2_set ?_ (by first | omega | (simp; done) | (simp; omega)) (by first | omega | (simp; done) | (simp; omega)) _))); done) | (refine ⟨⟨?_, ?_, ?_, ?_, ?_, ?_, ?_, ?_, ?_, ?_, ?_⟩, ?_, ?_⟩ <;> first | (go_keep; done) | (simp; done) | (simp; omega) | omega)))
                (first
                | (go_at_call 49; refine (panplace_any _ _ _ _ _ _ _ _ _ _).mono ?_; rintro e ws ⟨rfl, hbs⟩; obtain ⟨w2, hup, Fu, hgr⟩ := Aheads.store (OwnsFn.below (unhide HFq) (bel_trans (bel_drew (Below.refl _ _)) hbs)) (by unfold maxLen; omega) x.pl hok (((cntP x.pl (xs.take k) : Nat) : Int) + 1) false; have hu2 : (Instr.mapUpdate 91 (.map (some w.heap.size)) (.agg #[.int .i64 x.ky, .int .i64 x.st, .int .i64 x.en]) (.agg #[.int .i64 (((cntP x.pl (xs.take k) : Nat) : Int) + 1), .bool false])).run Try.prog ws = .ok () w2 := hup; have hFu := hide Fu; have HS2 : ((w2.cell? ⟨wr.heap.size, 0, none⟩ = some (.int .i64 x.ky) ∧ w2.cell? ⟨wr.heap.size, 1, none⟩ = some (.int .i64 x.st) ∧ w2.cell? ⟨wr.heap.size, 2, none⟩ = some (.int .i64 x.en) ∧ w2.cell? ⟨wr.heap.size, 3, none⟩ = some (.int .i64 x.no) ∧ w2.cell? ⟨wr.heap.size, 4, none⟩ = some (.int .i64 x.kd) ∧ w2.cell? ⟨wr.heap.size, 5, none⟩ = some (.int .i64 x.n) ∧ w2.cell? ⟨wr.heap.size, 6, none⟩ = some (.int .i64 x.su) ∧ w2.cell? ⟨wr.heap.size, 7, none⟩ = some (.int .i64 x.le) ∧ w2.cell? ⟨wr.heap.size, 8, none⟩ = some (.int .i64 x.mo) ∧ w2.cell? ⟨wp.heap.size, 0, none⟩ = some (.int .i64 ((cntP x.pl (xs.take k) : Nat) : Int)) ∧ w2.cell? ⟨wp.heap.size, 1, none⟩ = some (.bool false)) ∧ wr.heap.size < w2.heap.size ∧ wp.heap.size < w2.heap.size) := sound_keep HS hbs hgr (by omega) (by omega); clear Fu hup))
              all_goals
                go_wp2_with fail
                go_roundw
                case rel => exact ⟨k + 1, by omega, by go_num, HU2, hide (Aheads.step (unhide hX) (unhide HG) (by rw [unhide HK]; exact unhide hFu)), (bel_trans hbw2 (bel_trans (bel_drew (Below.refl _ _)) hbs)).grown hgr (by have h8 := hbw2.size; have h9 := hbs.size; (try simp at h9); omega) (fun k hk => by cases hk; exact Nat.le_refl _)⟩
                case measure => simp [intOf]; omega
          · have HV := hide (upto_f (unhide hX) (unhide HU) (atP_3 hg0))
            go_wp2_with fail
            go_ret
            exact ⟨ret_b (unhide HV).symm, hbw2⟩
        · have HV := hide (upto_f (unhide hX) (unhide HU) (atP_2 hno))
          have hno' : (x.no == ((cntP x.pl (xs.take k) : Nat) : Int)) = false := by simpa using hno
          cases hg0 : anyP x.pl (xs.take k)
          all_goals
            go_wp2_with fail
            go_ret
            exact ⟨ret_b (unhide HV).symm, hbw2⟩
    · have HV := hide (upto_end (by have := h.1; omega) (unhide HU))
      go_wp2
      go_ret
      exact ⟨ret_b (unhide HV).symm, hbw⟩

end Go.Proofs.Ytdpifgdignhebaa
