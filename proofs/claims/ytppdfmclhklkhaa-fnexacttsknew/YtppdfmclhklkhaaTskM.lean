/- Proved here: channels of a task marked through and through, and found again. -/
import Derived.Test.YtppdfmclhklkhaaTskT
import Derived.Test.YtppdfmclhklkhaaRkItm
namespace Go.Proofs.Ytppdfmclhklkhaa
open Go.ChangeShapes Go.WideShapes Go.ChangeAt Go.RowKit
set_option linter.unusedVariables false

/-- All blocks but some stay as they are. -/
structure Kept (S : Nat → Prop) (w w' : World) : Prop where
  os : w'.os = w.os
  tape : w'.tape = w.tape
  output : w'.output = w.output
  size : w.heap.size ≤ w'.heap.size
  blk : ∀ b, b < w.heap.size → ¬ S b → w'.heap[b]? = w.heap[b]?
theorem Kept.refl (S : Nat → Prop) (w : World) : Kept S w w := ⟨rfl, rfl, rfl, Nat.le_refl _, fun _ _ _ => rfl⟩
theorem Kept.trans {S : Nat → Prop} {a b c : World} (h : Kept S a b) (k : Kept S b c) : Kept S a c := ⟨k.os.trans h.os, k.tape.trans h.tape, k.output.trans h.output, Nat.le_trans h.size k.size, fun i hi hS => (k.blk i (Nat.lt_of_lt_of_le hi h.size) hS).trans (h.blk i hi hS)⟩
theorem Kept.mono {S T : Nat → Prop} {w w' : World} (h : Kept S w w') (hs : ∀ b, S b → T b) : Kept T w w' := ⟨h.os, h.tape, h.output, h.size, fun b hb hT => h.blk b hb (fun hS => hT (hs b hS))⟩
theorem Kept.of_grown {S : Nat → Prop} {w w' : World} {row : Option Nat} (h : w.grownBy w' row) (hr : ∀ b, row = some b → S b) : Kept S w w' := ⟨h.os, h.tape, h.output, h.size, fun b hb hS => h.block b hb (fun e => hS (hr b e.symm))⟩
theorem Kept.of_below {S : Nat → Prop} {w w' : World} (h : Below w.heap.size w w') : Kept S w w' := ⟨h.os, h.tape, h.output, h.size, fun b hb _ => h.block b hb⟩
theorem Kept.set {S : Nat → Prop} {w W : World} {p : Addr} (h : Kept S w W) (hp : S p.block) (v : Value) : Kept S w (W.setCell p v) := ⟨h.os, h.tape, h.output, by simp [World.setCell]; exact h.size, fun b hb hS => (Below.heap_setCell _ _ _ _ (fun e => hS (by rw [e]; exact hp))).trans (h.blk b hb hS)⟩
theorem Kept.bel {S : Nat → Prop} {B : Nat} {w W W' : World} (h : Below B w W) (hB : B ≤ W.heap.size) (k : Kept S W W') (hS : ∀ b, S b → B ≤ b) : Below B w W' := ⟨k.os.trans h.os, k.tape.trans h.tape, k.output.trans h.output, Nat.le_trans h.size k.size, fun b hb => (k.blk b (by omega) (fun e => by have := hS b e; omega)).trans (h.block b hb)⟩

/-- The value of a queue; its block; the blocks of channels. -/
structure QV where
  a : Option Addr
  l : Nat
  c : Nat
def QV.blk (q : QV) : Option Nat := rowIw q.a q.l
def rowTi (a : Option Addr) (n : Nat) : Option Nat := if n = 0 then none else a.map (·.block)
theorem rowTi_pos {n : Nat} (h : n ≠ 0) (g o : Nat) : rowTi (some ⟨g, o, none⟩) n = some g := by unfold rowTi; rw [if_neg h]; rfl
def TiS (a : Option Addr) (n : Nat) (qs : List QV) (b : Nat) : Prop := rowTi a n = some b ∨ ∃ (i : Nat) (q : QV), qs[i]? = some q ∧ q.blk = some b
/-- The number behind channels. -/
def kUp (K : Int) (qs : List QV) : Int := qs.foldl (fun k q => k + 5 * (q.l : Int) + 1 + 1) K
theorem kUp_snoc {K : Int} {qs : List QV} {i : Nat} {q : QV} (h : qs[i]? = some q) : kUp K (qs.take (i + 1)) = kUp K (qs.take i) + 5 * (q.l : Int) + 1 + 1 := by
  rw [List.take_add_one, h]
  unfold kUp
  rw [List.foldl_append]
  rfl
theorem kUp_bd (K : Int) (qs : List QV) (h : ∀ (i : Nat) (q : QV), qs[i]? = some q → q.l ≤ 1048576) : K ≤ kUp K qs ∧ kUp K qs ≤ K + 5242882 * (qs.length : Int) := by
  induction qs generalizing K with
  | nil => simp [kUp]
  | cons q r ih =>
    have h1 := h 0 q rfl
    have h2 := ih (K + 5 * (q.l : Int) + 1 + 1) (fun i x hx => h (i + 1) x (by simpa using hx))
    have e : kUp K (q :: r) = kUp (K + 5 * (q.l : Int) + 1 + 1) r := rfl
    rw [e, List.length_cons]
    push_cast
    omega
theorem kUp_at (K : Int) (qs : List QV) (i : Nat) (h : ∀ (i : Nat) (q : QV), qs[i]? = some q → q.l ≤ 1048576) (hi : i ≤ 1048576) : K ≤ kUp K (qs.take i) ∧ kUp K (qs.take i) ≤ K + 5497560662016 := by
  have h1 := kUp_bd K (qs.take i) (fun j q hq => by
    rw [List.getElem?_take] at hq
    split at hq
    · exact h j q hq
    · cases hq)
  have h2 : (qs.take i).length ≤ i := List.length_take_le _ _
  omega

/-- Channels that may be written, each queue in a block of its own. -/
structure WrTi (W : World) (a : Option Addr) (n cap : Nat) (qs : List QV) : Prop where
  len : qs.length = n
  lim : ∀ (i : Nat) (q : QV), qs[i]? = some q → q.l ≤ 1048576
  mem : n = 0 ∨ ∃ g, a = some ⟨g, 0, none⟩ ∧ BlkTi W g 70 cap ∧ n ≤ cap ∧ ∀ (i : Nat) (q : QV), qs[i]? = some q → W.cell? ⟨g, i * 3, none⟩ = some (.slice q.a q.l q.c) ∧ WrIw W q.a q.l q.c ∧ q.blk ≠ some g
  apart : ∀ (i j : Nat) (q q' : QV), i ≠ j → qs[i]? = some q → qs[j]? = some q' → ∀ b, q.blk = some b → q'.blk ≠ some b
/-- The first channels are marked. -/
def MkTi (W : World) (g : Nat) (K : Int) (qs : List QV) (j : Nat) : Prop := ∀ (i : Nat) (q : QV), i < j → qs[i]? = some q → W.cell? ⟨g, i * 3, none⟩ = some (.slice q.a q.l q.c) ∧ MarkedKIw W q.a q.l (kUp K (qs.take i)) ∧ W.cell? ⟨g, i * 3 + 1, none⟩ = some (.int .i64 (kUp K (qs.take i) + 5 * (q.l : Int))) ∧ W.cell? ⟨g, i * 3 + 2, none⟩ = some (.bool (decide ((kUp K (qs.take i) + 5 * (q.l : Int) + 1) % 3 = 0)))
structure MarkedTi (W : World) (a : Option Addr) (n : Nat) (K : Int) (qs : List QV) : Prop where
  len : qs.length = n
  lim : ∀ (i : Nat) (q : QV), qs[i]? = some q → q.l ≤ 1048576
  mem : n = 0 ∨ ∃ g, a = some ⟨g, 0, none⟩ ∧ MkTi W g K qs n
theorem rowIw_at {q : QV} {g o : Nat} (hp : 0 < q.l) (ha : q.a = some ⟨g, o, none⟩) : q.blk = some g := by
  unfold QV.blk
  rw [ha]
  exact rowIw_pos (by omega) g o
theorem MkTi.keep {W W' : World} {g : Nat} {K : Int} {qs : List QV} {j : Nat} (h : MkTi W g K qs j) (hg : W'.heap[g]? = W.heap[g]?) (hq : ∀ (i : Nat) (q : QV) (b : Nat), i < j → qs[i]? = some q → q.blk = some b → W'.heap[b]? = W.heap[b]?) : MkTi W' g K qs j := by
  intro i q hi hx
  obtain ⟨h0, h1, h2, h3⟩ := h i q hi hx
  exact ⟨(World.cell?_of_block (w := W) (a := ⟨g, _, none⟩) hg).trans h0, h1.keep (fun g' o' hp ha => hq i q g' hi hx (rowIw_at hp ha)), (World.cell?_of_block (w := W) (a := ⟨g, _, none⟩) hg).trans h2, (World.cell?_of_block (w := W) (a := ⟨g, _, none⟩) hg).trans h3⟩
theorem MarkedTi.keep {W W' : World} {a : Option Addr} {n : Nat} {K : Int} {qs : List QV} (h : MarkedTi W a n K qs) (hb : ∀ b, TiS a n qs b → W'.heap[b]? = W.heap[b]?) : MarkedTi W' a n K qs := by
  refine ⟨h.len, h.lim, ?_⟩
  rcases h.mem with h0 | ⟨g, ha, hM⟩
  · exact Or.inl h0
  · by_cases h0 : n = 0
    · exact Or.inl h0
    · refine Or.inr ⟨g, ha, hM.keep (hb g (Or.inl (by rw [ha]; exact rowTi_pos h0 g 0))) (fun i q b _ hx hq => hb b (Or.inr ⟨i, q, hx, hq⟩))⟩
theorem mkTi_step {wr w1 : World} {g cap j : Nat} {K : Int} {qs : List QV} {q : QV} (hB : BlkTi wr g 70 cap) (hj : j < cap) (hq : qs[j]? = some q)
    (hR : ∀ (i : Nat) (q : QV), j ≤ i → qs[i]? = some q → wr.cell? ⟨g, i * 3, none⟩ = some (.slice q.a q.l q.c) ∧ WrIw wr q.a q.l q.c ∧ q.blk ≠ some g)
    (hne : ∀ (i : Nat) (q : QV), qs[i]? = some q → q.blk ≠ some g)
    (ap : ∀ (i j : Nat) (q q' : QV), i ≠ j → qs[i]? = some q → qs[j]? = some q' → ∀ b, q.blk = some b → q'.blk ≠ some b)
    (hlt : ∀ (i : Nat) (q : QV) (b : Nat), qs[i]? = some q → q.blk = some b → b < wr.heap.size)
    (hM : MkTi wr g K qs j) (hmk : MarkedKIw w1 q.a q.l (kUp K (qs.take j))) (hg : wr.grownBy w1 (rowIw q.a q.l)) :
    BlkTi ((w1.setCell ⟨g, j * 3 + 1, none⟩ (.int .i64 (kUp K (qs.take j) + 5 * (q.l : Int)))).setCell ⟨g, j * 3 + 2, none⟩ (.bool (decide ((kUp K (qs.take j) + 5 * (q.l : Int) + 1) % 3 = 0)))) g 70 cap ∧
    (∀ (i : Nat) (q' : QV), j + 1 ≤ i → qs[i]? = some q' → ((w1.setCell ⟨g, j * 3 + 1, none⟩ (.int .i64 (kUp K (qs.take j) + 5 * (q.l : Int)))).setCell ⟨g, j * 3 + 2, none⟩ (.bool (decide ((kUp K (qs.take j) + 5 * (q.l : Int) + 1) % 3 = 0)))).cell? ⟨g, i * 3, none⟩ = some (.slice q'.a q'.l q'.c) ∧ WrIw ((w1.setCell ⟨g, j * 3 + 1, none⟩ (.int .i64 (kUp K (qs.take j) + 5 * (q.l : Int)))).setCell ⟨g, j * 3 + 2, none⟩ (.bool (decide ((kUp K (qs.take j) + 5 * (q.l : Int) + 1) % 3 = 0)))) q'.a q'.l q'.c ∧ q'.blk ≠ some g) ∧
    MkTi ((w1.setCell ⟨g, j * 3 + 1, none⟩ (.int .i64 (kUp K (qs.take j) + 5 * (q.l : Int)))).setCell ⟨g, j * 3 + 2, none⟩ (.bool (decide ((kUp K (qs.take j) + 5 * (q.l : Int) + 1) % 3 = 0)))) g K qs (j + 1) := by
  have hgb : w1.heap[g]? = wr.heap[g]? := hg.block g hB.lt (fun e => hne j q hq e.symm)
  have hB1 : BlkTi w1 g 70 cap := by
    obtain ⟨cur, c1, c2⟩ := hB
    exact ⟨cur, hgb.trans c1, c2⟩
  have hcell : ∀ i, i ≠ j * 3 + 1 → i ≠ j * 3 + 2 → ∀ v1 v2 : Value, ((w1.setCell ⟨g, j * 3 + 1, none⟩ v1).setCell ⟨g, j * 3 + 2, none⟩ v2).cell? ⟨g, i, none⟩ = wr.cell? ⟨g, i, none⟩ := by
    intro i h1 h2 v1 v2
    rw [Ti_other (fun e => h2 e.symm), Ti_other (fun e => h1 e.symm)]
    exact World.cell?_of_block (w := wr) (a := ⟨g, i, none⟩) hgb
  have hoth : ∀ b, b ≠ g → ∀ v1 v2 : Value, ((w1.setCell ⟨g, j * 3 + 1, none⟩ v1).setCell ⟨g, j * 3 + 2, none⟩ v2).heap[b]? = w1.heap[b]? := by
    intro b hb v1 v2
    rw [Below.heap_setCell _ _ _ _ hb, Below.heap_setCell _ _ _ _ hb]
  refine ⟨(hB1.set _).set _, ?_, ?_⟩
  · intro i q' hi hx
    obtain ⟨h0, h1, h2⟩ := hR i q' (by omega) hx
    refine ⟨(hcell (i * 3) (by omega) (by omega) _ _).trans h0, ?_, h2⟩
    have h3 : WrIw w1 q'.a q'.l q'.c := h1.grown hg (fun g' o' hp ha e => ap i j q' q (by omega) hx hq g' (rowIw_at hp ha) (by unfold QV.blk; exact e.symm))
    refine (h3.grown (grown_one _ _) (fun g' o' hp ha e => h2 ?_)).grown (grown_one _ _) (fun g' o' hp ha e => h2 ?_)
    · rw [rowIw_at hp ha]; exact e
    · rw [rowIw_at hp ha]; exact e
  · intro i q' hi hx
    by_cases he : i = j
    · subst he
      rw [hq] at hx
      cases hx
      refine ⟨(hcell (i * 3) (by omega) (by omega) _ _).trans (hR i q (Nat.le_refl _) hq).1, ?_, ?_, ?_⟩
      · exact hmk.keep (fun g' o' hp ha => hoth g' (fun e => hne i q hq (by rw [rowIw_at hp ha, e])) _ _)
      · rw [Ti_other (by omega), Ti_this hB1 (by omega)]
      · rw [Ti_this (hB1.set _) (by omega)]
    · obtain ⟨h0, h1, h2, h3⟩ := hM i q' (by omega) hx
      refine ⟨(hcell (i * 3) (by omega) (by omega) _ _).trans h0, ?_, (hcell (i * 3 + 1) (by omega) (by omega) _ _).trans h2, (hcell (i * 3 + 2) (by omega) (by omega) _ _).trans h3⟩
      exact h1.keep (fun g' o' hp ha => (hoth g' (fun e => hne i q' hx (by rw [rowIw_at hp ha, e])) _ _).trans (hg.block g' (hlt i q' g' hx (rowIw_at hp ha)) (fun e => ap i j q' q he hx hq g' (rowIw_at hp ha) (by unfold QV.blk; exact e.symm))))

set_option maxRecDepth 20000 in
set_option maxHeartbeats 1000000 in
theorem markTi_any (K : Int) (h0K : 0 ≤ K) (hK : K ≤ 1099511627776) (a : Option Addr) (n cap : Nat) (qs : List QV) (w : World) (h : WrTi w a n cap qs) (hn : n ≤ 1048576) : Calls Try.prog 41 #[.slice a n cap, .int .i64 K] w fun e w' => e = .returned (.int .i64 (kUp K qs)) ∧ MarkedTi w' a n K qs ∧ Kept (TiS a n qs) w w' := by
  obtain ⟨hlen, hlim, hmem, hap⟩ := h
  by_cases h0 : n = 0
  · subst h0
    obtain rfl := List.eq_nil_of_length_eq_zero hlen
    go_enter Try.func41, Try.ntmps41
    go_wp2
    go_loopw [1, 5] (fun kv i wr => kv = .int .i64 K ∧ i = .int .i64 0 ∧ wr = w) (fun _ _ _ => 0)
    case atStart => exact ⟨rfl, rfl, rfl⟩
    case round =>
      obtain ⟨rfl, rfl, rfl⟩ := hrel
      go_wp2
      go_ret
      exact ⟨rfl, ⟨rfl, by simp, Or.inl rfl⟩, Kept.refl _ _⟩
  · obtain ⟨g, rfl, hB, hc, hR⟩ := hmem.resolve_left h0
    have hne : ∀ (i : Nat) (q : QV), qs[i]? = some q → q.blk ≠ some g := fun i q hx => (hR i q hx).2.2
    have hlt0 : ∀ (i : Nat) (q : QV) (b : Nat), qs[i]? = some q → q.blk = some b → b < w.heap.size := by
      intro i q b hx hb
      obtain ⟨_, h1, _⟩ := hR i q hx
      rcases h1 with h1 | ⟨g', ha, hBl, _⟩
      · unfold QV.blk at hb
        rw [h1, rowIw_zero] at hb
        cases hb
      · by_cases h2 : q.l = 0
        · unfold QV.blk at hb
          rw [h2, rowIw_zero] at hb
          cases hb
        · unfold QV.blk at hb
          rw [ha, rowIw_pos h2] at hb
          cases hb
          exact hBl.lt
    have hSg : TiS (some ⟨g, 0, none⟩) n qs g := Or.inl (rowTi_pos h0 g 0)
    go_enter Try.func41, Try.ntmps41
    go_wp2
    go_loopw [1, 5] (fun kv i wr => ∃ j : Nat, j ≤ n ∧ kv = .int .i64 (kUp K (qs.take j)) ∧ i = .int .i64 j ∧ BlkTi wr g 70 cap ∧ (∀ (i : Nat) (q : QV), j ≤ i → qs[i]? = some q → wr.cell? ⟨g, i * 3, none⟩ = some (.slice q.a q.l q.c) ∧ WrIw wr q.a q.l q.c ∧ q.blk ≠ some g) ∧ MkTi wr g K qs j ∧ Kept (TiS (some ⟨g, 0, none⟩) n qs) w wr) (fun _ i _ => n - (intOf i).toNat)
    case atStart => exact ⟨0, Nat.zero_le _, by simp [kUp], rfl, hB, fun i q _ hx => hR i q hx, fun i q hi => absurd hi (by omega), Kept.refl _ _⟩
    case round =>
      obtain ⟨j, hj, rfl, rfl, hBw, hRw, hM, hK2⟩ := hrel
      have hb := kUp_at K qs j hlim (by omega)
      by_cases hlt : j < n
      · obtain ⟨q, hq⟩ : ∃ q, qs[j]? = some q := ⟨_, List.getElem?_eq_getElem (by omega)⟩
        obtain ⟨c0, hW, _⟩ := hRw j q (Nat.le_refl _) hq
        have hql := hlim j q hq
        have hsn := hide (kUp_snoc (K := K) hq)
        have hltI : (j : Int) < (n : Int) := by omega
        have HM := hide hM
        have HR := hide hRw
        have HQ := hide hq
        have HB := hide hBw
        clear hM hRw hq hmem hR hB
        generalize hKj : kUp K (qs.take j) = Kj at *
        go_wp2_with fail
        refine (markKIw_any Kj (by omega) (by omega) q.a q.l q.c _ hW hql).mono ?_
        rintro e w1 ⟨rfl, hmk, hg⟩
        have hgb : w1.heap[g]? = wr.heap[g]? := hg.block g (unhide HB).lt (fun e => hne j q (unhide HQ) e.symm)
        obtain ⟨cur, b1, b2⟩ := unhide HB
        have hB1 : BlkTi w1 g 70 cap := ⟨cur, hgb.trans b1, b2⟩
        obtain ⟨⟨u0, d0⟩, ⟨u1, d1⟩, ⟨u2, d2⟩⟩ := hB1.cells (k := j) (by omega)
        have f1 := hB1.frozen (i := j * 3 + 1)
        have f2 := hB1.frozen (i := j * 3 + 2)
        clear b1 b2 hgb
        go_wp2
        go_roundw
        case rel =>
          subst hKj
          obtain ⟨s1, s2, s3⟩ := mkTi_step (unhide HB) (by omega) (unhide HQ) (unhide HR) hne hap (fun i q b hx hb => Nat.lt_of_lt_of_le (hlt0 i q b hx hb) hK2.size) (unhide HM) hmk hg
          exact ⟨j + 1, by omega, by rw [unhide hsn], by go_num, s1, s2, s3, ((hK2.trans (Kept.of_grown hg (fun b hb => Or.inr ⟨j, q, unhide HQ, by unfold QV.blk; exact hb⟩))).set hSg _).set hSg _⟩
        case measure => simp [intOf]; omega
      · obtain rfl : j = n := by omega
        have HE : Hid (kUp K (qs.take j) = kUp K qs) := hide (by rw [List.take_of_length_le (by omega)])
        generalize kUp K (qs.take j) = Kj at *
        go_wp2
        go_ret
        exact ⟨ret_i (unhide HE), ⟨hlen, hlim, Or.inr ⟨g, rfl, hM⟩⟩, hK2⟩

set_option maxRecDepth 20000 in
set_option maxHeartbeats 1000000 in
theorem heldTi_any (K : Int) (h0K : 0 ≤ K) (hK : K ≤ 1099511627776) (a : Option Addr) (n cap : Nat) (qs : List QV) (w : World) (h : MarkedTi w a n K qs) (hn : n ≤ 1048576) : Calls Try.prog 43 #[.slice a n cap, .int .i64 K] w fun e w' => e = .returned (.int .i64 (kUp K qs)) ∧ w' = w := by
  obtain ⟨hlen, hlim, hmem⟩ := h
  go_enter Try.func43, Try.ntmps43
  go_wp2
  go_loop [1, 5] (fun kv i => ∃ j : Nat, j ≤ n ∧ kv = .int .i64 (kUp K (qs.take j)) ∧ i = .int .i64 j) (fun _ i => n - (intOf i).toNat)
  case atStart => exact ⟨0, Nat.zero_le _, by simp [kUp], rfl⟩
  case round =>
    obtain ⟨j, hj, rfl, rfl⟩ := hrel
    have hb := kUp_at K qs j hlim (by omega)
    by_cases hlt : j < n
    · obtain ⟨g, rfl, hM⟩ := hmem.resolve_left (by omega)
      obtain ⟨q, hq⟩ : ∃ q, qs[j]? = some q := ⟨_, List.getElem?_eq_getElem (by omega)⟩
      obtain ⟨c0, hmk, c1, c2⟩ := hM j q hlt hq
      have hql := hlim j q hq
      have hsn := hide (kUp_snoc (K := K) hq)
      have hltI : (j : Int) < (n : Int) := by omega
      clear hM hq hmem
      generalize hKj : kUp K (qs.take j) = Kj at *
      by_cases h3 : (Kj + 5 * (q.l : Int) + 1) % 3 = 0
      · rw [decide_eq_true h3] at c2
        go_wp2_with (go_at_call 70; refine (heldKIw_any Kj (by omega) (by omega) q.a q.l q.c _ hmk hql).mono ?_; rintro e w1 ⟨rfl, hw⟩; obtain rfl := hw.symm; clear hw)
        go_round
        case rel => exact ⟨j + 1, by omega, by rw [unhide hsn], by go_num⟩
        case measure => simp [intOf]; omega
      · rw [decide_eq_false h3] at c2
        go_wp2_with (go_at_call 70; refine (heldKIw_any Kj (by omega) (by omega) q.a q.l q.c _ hmk hql).mono ?_; rintro e w1 ⟨rfl, hw⟩; obtain rfl := hw.symm; clear hw)
        go_round
        case rel => exact ⟨j + 1, by omega, by rw [unhide hsn], by go_num⟩
        case measure => simp [intOf]; omega
    · obtain rfl : j = n := by omega
      have HE : Hid (kUp K (qs.take j) = kUp K qs) := hide (by rw [List.take_of_length_le (by omega)])
      generalize kUp K (qs.take j) = Kj at *
      go_wp2
      go_ret
      exact ⟨ret_i (unhide HE), rfl⟩
end Go.Proofs.Ytppdfmclhklkhaa
