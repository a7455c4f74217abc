/- Laid together: what the claim needs of the texts that were built one by one. -/
import Derived.Test.YtbjhpiannjepkaaGreatPsCkpM
import Derived.Test.YtbjhpiannjepkaaGreatPsBase
namespace Go.Proofs.YtbjhpiannjepkaaGreat
open Go.ChangeShapes Go.WideShapes Go.ChangeAt Go.RowKit Go.Deep
set_option linter.unusedVariables false

set_option maxRecDepth 20000 in
set_option maxHeartbeats 2000000 in
theorem heldSn_any (K : Int) (h0K : 0 ≤ K) (hK : K ≤ 281474976710656) (a : Option Addr) (n cap : Nat) (vs : List SnV) (w : World) (h : MkSn w a n K vs) (hlen : vs.length = n) (hn : n ≤ 1048576) (hl : ∀ (i : Nat) (v : SnV), vs[i]? = some v → v.l1 ≤ 1048576 ∧ v.l2 ≤ 1048576) : Calls Tryz.prog 42 #[.slice a n cap, .int .i64 K] w fun e w' => e = .returned (.int .i64 (kSn K vs)) ∧ w' = w := by
  go_enter Tryz.func42, Tryz.ntmps42
  go_wp2
  go_loopw [1, 5] (fun kv i wr => ∃ k : Nat, k ≤ n ∧ i = .int .i64 k ∧ kv = .int .i64 (kSn K (vs.take k)) ∧ wr = w) (fun _ i _ => n - (intOf i).toNat)
  case atStart => exact ⟨0, Nat.zero_le _, rfl, rfl, rfl⟩
  case round =>
    obtain ⟨k, hk, rfl, rfl, hwr⟩ := hrel
    obtain rfl := hwr.symm
    by_cases hlt : k < n
    · obtain ⟨g, ha, hM⟩ := h.resolve_left (by omega)
      subst ha
      obtain ⟨v, hv⟩ : ∃ v, vs[k]? = some v := ⟨_, List.getElem?_eq_getElem (by omega)⟩
      obtain ⟨q0, q1, q2, q3, q4⟩ := hM k v hv
      have hkb := kSn_at K vs k hl (by omega)
      have hks := hide (kSn_snoc (K := K) hv)
      obtain ⟨b1, b2⟩ := hl k v hv
      have hltI : (k : Int) < (n : Int) := by omega
      generalize kSn K (vs.take k) = Kk at q0 q3 q4 hkb hks
      have Q3 := hide q3
      have Q4 := hide q4
      clear hM hv q3 q4
      have n1 : ¬ (Kk + 1 + 13 * (v.l1 : Int)) < 0 := by omega
      have n2 : ¬ (Kk + 1 + 13 * (v.l1 : Int) + (v.l2 : Int)) < 0 := by omega
      go_wp2_with (first
        | (go_at_call 65; refine (heldKOr_any (Kk + 1) (by omega) (by omega) v.a1 v.l1 v.c1 _ (unhide Q3) b1).mono ?_; rintro e w5 ⟨rfl, hw⟩; obtain rfl := hw.symm; clear hw)
        | (go_at_call 40; refine (heldIn_c (Kk + 1 + 13 * (v.l1 : Int)) (by omega) (by omega) v.a2 v.l2 v.c2 _ (unhide Q4) b2).mono ?_; rintro e w6 ⟨rfl, hw⟩; obtain rfl := hw.symm; clear hw))
      go_roundw
      case rel => exact ⟨k + 1, by omega, by go_num, by rw [unhide hks], by first | rfl | trivial⟩
      case measure => simp [intOf]; omega
    · have HE : Hid (kSn K (vs.take k) = kSn K vs) := hide (by rw [List.take_of_length_le (by omega)])
      go_wp2
      go_ret
      exact ⟨by rw [← unhide HE]; rfl, rfl⟩

/-- Checkpoints that may be written, all of them apart. -/
structure WrCk (W : World) (a2 : Option Addr) (l2 c2 : Nat) (a3 : Option Addr) (l3 c3 : Nat) (a4 : Option Addr) (l4 c4 : Nat) (a6 : Option Addr) (l6 c6 : Nat) (a7 : Option Addr) (l7 c7 : Nat) (v4 v7 : List SnV) : Prop where
  r2 : WrC W 3 a2 l2 c2
  r3 : WrC W 4 a3 l3 c3
  r4 : WrSn W a4 l4 c4 v4
  r6 : WrC W 3 a6 l6 c6
  r7 : WrSn W a7 l7 c7 v7
  lims : l2 ≤ 1048576 ∧ l3 ≤ 1048576 ∧ l4 ≤ 1048576 ∧ l6 ≤ 1048576 ∧ l7 ≤ 1048576
  d1 : ∀ b, rowC a2 l2 = some b → ¬ (rowC a3 l3 = some b ∨ SnS a4 l4 v4 b ∨ rowC a6 l6 = some b ∨ SnS a7 l7 v7 b)
  d2 : ∀ b, rowC a3 l3 = some b → ¬ (SnS a4 l4 v4 b ∨ rowC a6 l6 = some b ∨ SnS a7 l7 v7 b)
  d3 : ∀ b, SnS a4 l4 v4 b → ¬ (rowC a6 l6 = some b ∨ SnS a7 l7 v7 b)
  d4 : ∀ b, rowC a6 l6 = some b → ¬ SnS a7 l7 v7 b

def CkS (a2 : Option Addr) (l2 : Nat) (a3 : Option Addr) (l3 : Nat) (a4 : Option Addr) (l4 : Nat) (a6 : Option Addr) (l6 : Nat) (a7 : Option Addr) (l7 : Nat) (v4 v7 : List SnV) (b : Nat) : Prop := rowC a2 l2 = some b ∨ rowC a3 l3 = some b ∨ SnS a4 l4 v4 b ∨ rowC a6 l6 = some b ∨ SnS a7 l7 v7 b

theorem WrSn.ltS {W : World} {a : Option Addr} {n cap : Nat} {vs : List SnV} (h : WrSn W a n cap vs) : ∀ b, SnS a n vs b → b < W.heap.size := by
  intro b hb
  rcases hb with hb | ⟨i, v, hv, hb⟩
  · by_cases h0 : n = 0
    · simp [rowSn, h0] at hb
    · obtain ⟨g, ha, hB, _⟩ := h.blk.resolve_left h0
      subst ha
      rw [rowSn_pos h0] at hb
      cases hb
      exact hB.lt
  · exact h.lts hv hb

theorem WrSn.keep {W W' : World} {a : Option Addr} {n cap : Nat} {vs : List SnV} (h : WrSn W a n cap vs) (hb : ∀ b, SnS a n vs b → W'.heap[b]? = W.heap[b]?) : WrSn W' a n cap vs := by
  refine ⟨h.len, ?_, fun i v hv => (h.ro i v hv).keepR (fun b hr => hb b (Or.inr ⟨i, v, hv, Or.inl hr⟩)), fun i v hv => (h.ri i v hv).keep (fun b hr => hb b (Or.inr ⟨i, v, hv, Or.inr hr⟩)), h.lims, h.s0, h.s1, h.s2⟩
  by_cases h0 : n = 0
  · exact Or.inl h0
  · obtain ⟨g, ha, ⟨cur, b1, b2⟩, hc, hS⟩ := h.blk.resolve_left h0
    subst ha
    have e : W'.heap[g]? = W.heap[g]? := hb g (Or.inl (rowSn_pos h0 g 0))
    exact Or.inr ⟨g, rfl, ⟨cur, e.trans b1, b2⟩, hc, fun i v hv => ⟨(World.cell?_of_block (a := ⟨g, i * 3 + 1, none⟩) e).trans (hS i v hv).1, (World.cell?_of_block (a := ⟨g, i * 3 + 2, none⟩) e).trans (hS i v hv).2⟩⟩

theorem WrCk.ltS {W : World} {a2 a3 a4 a6 a7 : Option Addr} {l2 c2 l3 c3 l4 c4 l6 c6 l7 c7 : Nat} {v4 v7 : List SnV} (h : WrCk W a2 l2 c2 a3 l3 c3 a4 l4 c4 a6 l6 c6 a7 l7 c7 v4 v7) : ∀ b, CkS a2 l2 a3 l3 a4 l4 a6 l6 a7 l7 v4 v7 b → b < W.heap.size := by
  intro b hb
  rcases hb with hb | hb | hb | hb | hb
  · exact h.r2.lt b hb
  · exact h.r3.lt b hb
  · exact h.r4.ltS b hb
  · exact h.r6.lt b hb
  · exact h.r7.ltS b hb

theorem WrCk.keep {W W' : World} {a2 a3 a4 a6 a7 : Option Addr} {l2 c2 l3 c3 l4 c4 l6 c6 l7 c7 : Nat} {v4 v7 : List SnV} (h : WrCk W a2 l2 c2 a3 l3 c3 a4 l4 c4 a6 l6 c6 a7 l7 c7 v4 v7) (hb : ∀ b, CkS a2 l2 a3 l3 a4 l4 a6 l6 a7 l7 v4 v7 b → W'.heap[b]? = W.heap[b]?) : WrCk W' a2 l2 c2 a3 l3 c3 a4 l4 c4 a6 l6 c6 a7 l7 c7 v4 v7 :=
  ⟨h.r2.keep (fun b hr => hb b (Or.inl hr)), h.r3.keep (fun b hr => hb b (Or.inr (Or.inl hr))), h.r4.keep (fun b hr => hb b (Or.inr (Or.inr (Or.inl hr)))), h.r6.keep (fun b hr => hb b (Or.inr (Or.inr (Or.inr (Or.inl hr))))), h.r7.keep (fun b hr => hb b (Or.inr (Or.inr (Or.inr (Or.inr hr))))), h.lims, h.d1, h.d2, h.d3, h.d4⟩

/-- The numbers behind each part. -/
def kC3 (l2 : Nat) : Int := 1 + (l2 : Int)

def kC4 (l2 l3 : Nat) : Int := 1 + (l2 : Int) + (l3 : Int)

def kC6 (l2 l3 : Nat) (v4 : List SnV) : Int := kSn (1 + (l2 : Int) + (l3 : Int)) v4

def kC7 (l2 l3 : Nat) (v4 : List SnV) (l6 : Nat) : Int := kC6 l2 l3 v4 + (l6 : Int)

def kCk (l2 l3 : Nat) (v4 : List SnV) (l6 : Nat) (v7 : List SnV) : Int := kSn (kC7 l2 l3 v4 l6) v7

/-- Checkpoints marked from 1 on. -/
structure MkCk (W : World) (a2 : Option Addr) (l2 : Nat) (a3 : Option Addr) (l3 : Nat) (a4 : Option Addr) (l4 : Nat) (a6 : Option Addr) (l6 : Nat) (a7 : Option Addr) (l7 : Nat) (v4 v7 : List SnV) : Prop where
  r2 : MkIn W a2 l2 1
  r3 : MkBo W a3 l3 (kC3 l2)
  r4 : MkSn W a4 l4 (kC4 l2 l3) v4
  r6 : MkIn W a6 l6 (kC6 l2 l3 v4)
  r7 : MkSn W a7 l7 (kC7 l2 l3 v4 l6) v7
  lims : l2 ≤ 1048576 ∧ l3 ≤ 1048576 ∧ l4 ≤ 1048576 ∧ l6 ≤ 1048576 ∧ l7 ≤ 1048576
  lens : v4.length = l4 ∧ v7.length = l7
  vl : (∀ (i : Nat) (v : SnV), v4[i]? = some v → v.l1 ≤ 1048576 ∧ v.l2 ≤ 1048576) ∧ ∀ (i : Nat) (v : SnV), v7[i]? = some v → v.l1 ≤ 1048576 ∧ v.l2 ≤ 1048576

theorem MkCk.keep {W W' : World} {a2 a3 a4 a6 a7 : Option Addr} {l2 l3 l4 l6 l7 : Nat} {v4 v7 : List SnV} (h : MkCk W a2 l2 a3 l3 a4 l4 a6 l6 a7 l7 v4 v7) (hb : ∀ b, CkS a2 l2 a3 l3 a4 l4 a6 l6 a7 l7 v4 v7 b → W'.heap[b]? = W.heap[b]?) : MkCk W' a2 l2 a3 l3 a4 l4 a6 l6 a7 l7 v4 v7 :=
  ⟨h.r2.keep (fun b hr => hb b (Or.inl hr)), h.r3.keep (fun b hr => hb b (Or.inr (Or.inl hr))), h.r4.keep (fun b hr => hb b (Or.inr (Or.inr (Or.inl hr)))), h.r6.keep (fun b hr => hb b (Or.inr (Or.inr (Or.inr (Or.inl hr))))), h.r7.keep (fun b hr => hb b (Or.inr (Or.inr (Or.inr (Or.inr hr))))), h.lims, h.lens, h.vl⟩
end Go.Proofs.YtbjhpiannjepkaaGreat
