/- Laid together: what the claim needs of the texts that were built one by one. -/
import Derived.Test.YtbjhpiannjepkaaGreatPsCkpT
import Derived.Test.YtbjhpiannjepkaaGreatPsMkOne
import Derived.Test.YtbjhpiannjepkaaGreatPsRkOp
import Derived.Test.YtbjhpiannjepkaaGreatPsBase
namespace Go.Proofs.YtbjhpiannjepkaaGreat
open Go.ChangeShapes Go.WideShapes Go.ChangeAt Go.RowKit Go.Deep
set_option linter.unusedVariables false

/-- Where the rows and the marks of one lie. -/
structure SnV where
  a1 : Option Addr
  l1 : Nat
  c1 : Nat
  a2 : Option Addr
  l2 : Nat
  c2 : Nat

def SnV.has (v : SnV) (b : Nat) : Prop := rowOr v.a1 v.l1 = some b ∨ rowC v.a2 v.l2 = some b

def rowSn (a : Option Addr) (n : Nat) : Option Nat := if n = 0 then none else a.map (·.block)

theorem rowSn_pos {n : Nat} (h : n ≠ 0) (g o : Nat) : rowSn (some ⟨g, o, none⟩) n = some g := by unfold rowSn; rw [if_neg h]; rfl

def SnS (a : Option Addr) (n : Nat) (vs : List SnV) (b : Nat) : Prop := rowSn a n = some b ∨ ∃ (i : Nat) (v : SnV), vs[i]? = some v ∧ v.has b

/-- The number behind marking. -/
def kSn (K : Int) (vs : List SnV) : Int := vs.foldl (fun k v => k + 1 + 13 * (v.l1 : Int) + (v.l2 : Int)) K

theorem kSn_snoc {K : Int} {vs : List SnV} {i : Nat} {v : SnV} (h : vs[i]? = some v) : kSn K (vs.take (i + 1)) = kSn K (vs.take i) + 1 + 13 * (v.l1 : Int) + (v.l2 : Int) := by
  obtain ⟨hi, he⟩ := List.getElem?_eq_some_iff.1 h
  rw [List.take_succ_eq_append_getElem hi, he]
  simp [kSn, List.foldl_append]

theorem kSn_bd (K : Int) (vs : List SnV) (h : ∀ (i : Nat) (v : SnV), vs[i]? = some v → v.l1 ≤ 1048576 ∧ v.l2 ≤ 1048576) : K ≤ kSn K vs ∧ kSn K vs ≤ K + 14680065 * (vs.length : Int) := by
  induction vs generalizing K with
  | nil => simp [kSn]
  | cons v r ih =>
    have h0 := h 0 v rfl
    have h1 := ih (K + 1 + 13 * (v.l1 : Int) + (v.l2 : Int)) (fun i u hu => h (i + 1) u (by simpa using hu))
    show K ≤ kSn (K + 1 + 13 * (v.l1 : Int) + (v.l2 : Int)) r ∧ kSn (K + 1 + 13 * (v.l1 : Int) + (v.l2 : Int)) r ≤ _
    simp only [List.length_cons]
    omega

theorem kSn_at (K : Int) (vs : List SnV) (i : Nat) (h : ∀ (i : Nat) (v : SnV), vs[i]? = some v → v.l1 ≤ 1048576 ∧ v.l2 ≤ 1048576) (hi : i ≤ 1048576) : K ≤ kSn K (vs.take i) ∧ kSn K (vs.take i) ≤ K + 15393162788864 + 1048576 := by
  have h1 := kSn_bd K (vs.take i) (fun j v hj => h j v (by
    rw [List.getElem?_take] at hj
    split at hj
    · exact hj
    · cases hj))
  have h2 : (vs.take i).length ≤ 1048576 := Nat.le_trans (List.length_take_le _ _) hi
  omega

/-- A list of them may be written, all of it apart. -/
structure WrSn (W : World) (a : Option Addr) (n cap : Nat) (vs : List SnV) : Prop where
  len : vs.length = n
  blk : n = 0 ∨ ∃ g, a = some ⟨g, 0, none⟩ ∧ BlkSn W g 80 cap ∧ n ≤ cap ∧ ∀ (i : Nat) (v : SnV), vs[i]? = some v → W.cell? ⟨g, i * 3 + 1, none⟩ = some (.slice v.a1 v.l1 v.c1) ∧ W.cell? ⟨g, i * 3 + 2, none⟩ = some (.slice v.a2 v.l2 v.c2)
  ro : ∀ (i : Nat) (v : SnV), vs[i]? = some v → WrOr W v.a1 v.l1 v.c1
  ri : ∀ (i : Nat) (v : SnV), vs[i]? = some v → WrC W 3 v.a2 v.l2 v.c2
  lims : ∀ (i : Nat) (v : SnV), vs[i]? = some v → v.l1 ≤ 1048576 ∧ v.l2 ≤ 1048576
  s0 : ∀ (i : Nat) (v : SnV) (b : Nat), vs[i]? = some v → v.has b → rowSn a n ≠ some b
  s1 : ∀ (i : Nat) (v : SnV) (b : Nat), vs[i]? = some v → rowOr v.a1 v.l1 = some b → rowC v.a2 v.l2 ≠ some b
  s2 : ∀ (i j : Nat) (v u : SnV) (b : Nat), vs[i]? = some v → vs[j]? = some u → i ≠ j → v.has b → ¬ u.has b

/-- Marked from a number on. -/
def MkSn (W : World) (a : Option Addr) (n : Nat) (K : Int) (vs : List SnV) : Prop := n = 0 ∨ ∃ g, a = some ⟨g, 0, none⟩ ∧ ∀ (i : Nat) (v : SnV), vs[i]? = some v → W.cell? ⟨g, i * 3, none⟩ = some (.int .i64 (kSn K (vs.take i))) ∧ W.cell? ⟨g, i * 3 + 1, none⟩ = some (.slice v.a1 v.l1 v.c1) ∧ W.cell? ⟨g, i * 3 + 2, none⟩ = some (.slice v.a2 v.l2 v.c2) ∧ MarkedKOr W v.a1 v.l1 (kSn K (vs.take i) + 1) ∧ MkIn W v.a2 v.l2 (kSn K (vs.take i) + 1 + 13 * (v.l1 : Int))

theorem rowOr_some {a : Option Addr} {n b : Nat} (h : rowOr a n = some b) : n ≠ 0 ∧ ∃ q, a = some q ∧ q.block = b := by
  unfold rowOr at h
  split at h
  · cases h
  · rename_i h0
    cases a with
    | none => cases h
    | some q => simp at h; exact ⟨h0, q, rfl, h⟩

theorem MarkedKOr.keepR {W W' : World} {a : Option Addr} {n : Nat} {K : Int} (h : MarkedKOr W a n K) (hb : ∀ b, rowOr a n = some b → W'.heap[b]? = W.heap[b]?) : MarkedKOr W' a n K := h.keep (fun g o hp ha => hb g (by subst ha; exact rowOr_pos (by omega) g o))

theorem WrOr.keepR {W W' : World} {a : Option Addr} {n cap : Nat} (h : WrOr W a n cap) (hb : ∀ b, rowOr a n = some b → W'.heap[b]? = W.heap[b]?) : WrOr W' a n cap := by
  by_cases h0 : n = 0
  · exact Or.inl h0
  · rcases h with h | ⟨g, ha, ⟨cur, h1, h2⟩, hc⟩
    · exact absurd h h0
    · subst ha
      exact Or.inr ⟨g, rfl, ⟨cur, (hb g (rowOr_pos h0 g 0)).trans h1, h2⟩, hc⟩

theorem WrOr.ltR {W : World} {a : Option Addr} {n cap : Nat} (h : WrOr W a n cap) : ∀ b, rowOr a n = some b → b < W.heap.size := by
  intro b hb
  obtain ⟨h0, q, hq, hqb⟩ := rowOr_some hb
  rcases h with h | ⟨g, ha, ⟨cur, h1, h2⟩, hc⟩
  · exact absurd h h0
  · rw [hq] at ha
    cases ha
    subst hqb
    exact (Array.getElem?_eq_some_iff.1 h1).1

theorem MkSn.keep {W W' : World} {a : Option Addr} {n : Nat} {K : Int} {vs : List SnV} (h : MkSn W a n K vs) (hb : ∀ b, SnS a n vs b → W'.heap[b]? = W.heap[b]?) : MkSn W' a n K vs := by
  by_cases h0 : n = 0
  · exact Or.inl h0
  · obtain ⟨g, ha, hM⟩ := h.resolve_left h0
    subst ha
    have e : W'.heap[g]? = W.heap[g]? := hb g (Or.inl (rowSn_pos h0 g 0))
    refine Or.inr ⟨g, rfl, fun i v hv => ?_⟩
    obtain ⟨m0, m1, m2, m3, m4⟩ := hM i v hv
    exact ⟨(World.cell?_of_block (a := ⟨g, i * 3, none⟩) e).trans m0, (World.cell?_of_block (a := ⟨g, i * 3 + 1, none⟩) e).trans m1, (World.cell?_of_block (a := ⟨g, i * 3 + 2, none⟩) e).trans m2, m3.keepR (fun b hr => hb b (Or.inr ⟨i, v, hv, Or.inl hr⟩)), m4.keep (fun b hr => hb b (Or.inr ⟨i, v, hv, Or.inr hr⟩))⟩

/-- While it is being marked. -/
structure InvSn (w wr : World) (g n cap : Nat) (K : Int) (vs : List SnV) (j : Nat) : Prop where
  blk : BlkSn wr g 80 cap
  sl : ∀ (i : Nat) (v : SnV), vs[i]? = some v → wr.cell? ⟨g, i * 3 + 1, none⟩ = some (.slice v.a1 v.l1 v.c1) ∧ wr.cell? ⟨g, i * 3 + 2, none⟩ = some (.slice v.a2 v.l2 v.c2)
  mkd : ∀ (i : Nat) (v : SnV), i < j → vs[i]? = some v → wr.cell? ⟨g, i * 3, none⟩ = some (.int .i64 (kSn K (vs.take i))) ∧ MarkedKOr wr v.a1 v.l1 (kSn K (vs.take i) + 1) ∧ MkIn wr v.a2 v.l2 (kSn K (vs.take i) + 1 + 13 * (v.l1 : Int))
  un : ∀ (i : Nat) (v : SnV) (b : Nat), j ≤ i → vs[i]? = some v → v.has b → wr.heap[b]? = w.heap[b]?
  kp : Kept (SnS (some ⟨g, 0, none⟩) n vs) w wr

theorem WrSn.lts {W : World} {a : Option Addr} {n cap : Nat} {vs : List SnV} (h : WrSn W a n cap vs) {i : Nat} {v : SnV} (hv : vs[i]? = some v) {b : Nat} (hb : v.has b) : b < W.heap.size := by
  rcases hb with hb | hb
  · exact (h.ro i v hv).ltR b hb
  · exact (h.ri i v hv).lt b hb

theorem invSn_step {w wr w2 w3 : World} {g n cap j : Nat} {K : Int} {vs : List SnV} {v : SnV} (hw : WrSn w (some ⟨g, 0, none⟩) n cap vs) (h0 : n ≠ 0) (h : InvSn w wr g n cap K vs j) (hj : j < cap) (hv : vs[j]? = some v)
    (g2 : (wr.setCell ⟨g, j * 3, none⟩ (.int .i64 (kSn K (vs.take j)))).grownBy w2 (rowOr v.a1 v.l1)) (m2 : MarkedKOr w2 v.a1 v.l1 (kSn K (vs.take j) + 1)) (k3 : Kept (fun b => rowC v.a2 v.l2 = some b) w2 w3) (m3 : MkIn w3 v.a2 v.l2 (kSn K (vs.take j) + 1 + 13 * (v.l1 : Int))) : InvSn w w3 g n cap K vs (j + 1) := by
  have hg : g < wr.heap.size := h.blk.lt
  have hng : ∀ b, v.has b → b ≠ g := fun b hb e => hw.s0 j v b hv hb (by rw [e]; exact rowSn_pos h0 g 0)
  have hs1 : (wr.setCell ⟨g, j * 3, none⟩ (.int .i64 (kSn K (vs.take j)))).heap.size = wr.heap.size := by simp
  have hz2 : wr.heap.size ≤ w2.heap.size := by have := g2.size; rw [hs1] at this; exact this
  have e1 : ∀ b, b ≠ g → (wr.setCell ⟨g, j * 3, none⟩ (.int .i64 (kSn K (vs.take j)))).heap[b]? = wr.heap[b]? := fun b hb => Below.heap_setCell _ _ _ _ hb
  have same : ∀ b, b < wr.heap.size → b ≠ g → ¬ v.has b → w3.heap[b]? = wr.heap[b]? := fun b hb hbg hnv => by
    rw [k3.blk b (by omega) (fun e => hnv (Or.inr e)), g2.block b (by rw [hs1]; exact hb) (fun e => hnv (Or.inl e.symm)), e1 b hbg]
  have eg : w3.heap[g]? = (wr.setCell ⟨g, j * 3, none⟩ (.int .i64 (kSn K (vs.take j)))).heap[g]? := by
    rw [k3.blk g (by omega) (fun e => hng g (Or.inr e) rfl), g2.block g (by rw [hs1]; exact hg) (fun e => hng g (Or.inl e.symm) rfl)]
  have cg : ∀ o, w3.cell? ⟨g, o, none⟩ = (wr.setCell ⟨g, j * 3, none⟩ (.int .i64 (kSn K (vs.take j)))).cell? ⟨g, o, none⟩ := fun o => World.cell?_of_block (a := ⟨g, o, none⟩) eg
  have hjb : j * 3 < cap * 3 := by omega
  refine ⟨?_, fun i u hu => ?_, fun i u hi hu => ?_, fun i u b hi hu hb => ?_, ?_⟩
  · obtain ⟨cur, c1, c2⟩ := h.blk.set (i := j * 3) (.int .i64 (kSn K (vs.take j)))
    exact ⟨cur, eg.trans c1, c2⟩
  · obtain ⟨s1, s2⟩ := h.sl i u hu
    rw [cg, cg, Ti_other (by omega), Ti_other (by omega)]
    exact ⟨s1, s2⟩
  · by_cases he : i = j
    · subst he
      rw [hv] at hu
      cases hu
      refine ⟨by rw [cg]; exact Sn_this h.blk hjb, m2.keepR (fun b hb => ?_), m3⟩
      obtain ⟨h9, q, hq, hqb⟩ := rowOr_some hb
      exact k3.blk b (Nat.lt_of_lt_of_le (Nat.lt_of_lt_of_le (hw.lts hv (Or.inl hb)) h.kp.size) hz2) (fun e => hw.s1 i v b hv hb e)
    · obtain ⟨q0, q1, q2⟩ := h.mkd i u (by omega) hu
      have hsame : ∀ b, u.has b → w3.heap[b]? = wr.heap[b]? := fun b hb => same b (Nat.lt_of_lt_of_le (hw.lts hu hb) h.kp.size) (fun e => hw.s0 i u b hu hb (by rw [e]; exact rowSn_pos h0 g 0)) (hw.s2 i j u v b hu hv he hb)
      exact ⟨by rw [cg, Ti_other (by omega)]; exact q0, q1.keepR (fun b hb => hsame b (Or.inl hb)), q2.keep (fun b hb => hsame b (Or.inr hb))⟩
  · rw [same b (Nat.lt_of_lt_of_le (hw.lts hu hb) h.kp.size) (fun e => hw.s0 i u b hu hb (by rw [e]; exact rowSn_pos h0 g 0)) (hw.s2 i j u v b hu hv (by omega) hb)]
    exact h.un i u b (by omega) hu hb
  · have k1 : Kept (SnS (some ⟨g, 0, none⟩) n vs) w (wr.setCell ⟨g, j * 3, none⟩ (.int .i64 (kSn K (vs.take j)))) := Kept.set h.kp (Or.inl (rowSn_pos h0 g 0)) _
    have k2 : Kept (SnS (some ⟨g, 0, none⟩) n vs) (wr.setCell ⟨g, j * 3, none⟩ (.int .i64 (kSn K (vs.take j)))) w2 := Kept.of_grown g2 (fun b hb => Or.inr ⟨j, v, hv, Or.inl hb⟩)
    exact (k1.trans k2).trans (k3.mono (fun b hb => Or.inr ⟨j, v, hv, Or.inr hb⟩))

set_option maxRecDepth 20000 in
set_option maxHeartbeats 2000000 in
theorem markSn_any (K : Int) (h0K : 0 ≤ K) (hK : K ≤ 281474976710656) (a : Option Addr) (n cap : Nat) (vs : List SnV) (w : World) (h : WrSn w a n cap vs) (hn : n ≤ 1048576) : Calls Tryz.prog 38 #[.slice a n cap, .int .i64 K] w fun e w' => e = .returned (.int .i64 (kSn K vs)) ∧ MkSn w' a n K vs ∧ Kept (SnS a n vs) w w' := by
  by_cases h0 : n = 0
  · subst h0
    have hvs : vs = [] := List.eq_nil_of_length_eq_zero h.len
    subst hvs
    go_enter Tryz.func38, Tryz.ntmps38
    go_wp2
    go_loopw [1, 5] (fun kv i wr => kv = .int .i64 K ∧ i = .int .i64 0 ∧ wr = w) (fun _ _ _ => 0)
    case atStart => exact ⟨rfl, rfl, rfl⟩
    case round =>
      obtain ⟨rfl, rfl, hwr⟩ := hrel
      obtain rfl := hwr.symm
      go_wp2
      go_ret
      exact ⟨rfl, Or.inl rfl, Kept.refl _ _⟩
  · obtain ⟨g, ha, hB, hc, hS⟩ := h.blk.resolve_left h0
    subst ha
    have hlen := h.len
    go_enter Tryz.func38, Tryz.ntmps38
    go_wp2
    go_loopw [1, 5] (fun kv i wr => ∃ k : Nat, k ≤ n ∧ i = .int .i64 k ∧ kv = .int .i64 (kSn K (vs.take k)) ∧ InvSn w wr g n cap K vs k) (fun _ i _ => n - (intOf i).toNat)
    case atStart => exact ⟨0, Nat.zero_le _, rfl, rfl, ⟨hB, hS, fun i v hi => absurd hi (by omega), fun i v b _ _ _ => rfl, Kept.refl _ _⟩⟩
    case round =>
      obtain ⟨k, hk, rfl, rfl, hI⟩ := hrel
      by_cases hlt : k < n
      · obtain ⟨v, hv⟩ : ∃ v, vs[k]? = some v := ⟨_, List.getElem?_eq_getElem (by omega)⟩
        obtain ⟨u, d0⟩ := hI.blk.cell (i := k * 3) (by omega)
        have f0 := hI.blk.frozen (i := k * 3)
        obtain ⟨s1, s2⟩ := hI.sl k v hv
        have hkb := kSn_at K vs k h.lims (by omega)
        have hks := hide (kSn_snoc (K := K) hv)
        obtain ⟨b1, b2⟩ := h.lims k v hv
        have hro : WrOr wr v.a1 v.l1 v.c1 := (h.ro k v hv).keepR (fun b hb => hI.un k v b (Nat.le_refl _) hv (Or.inl hb))
        have hri : WrC wr 3 v.a2 v.l2 v.c2 := (h.ri k v hv).keep (fun b hb => hI.un k v b (Nat.le_refl _) hv (Or.inr hb))
        have hn1 : ∀ b, v.has b → b ≠ g := fun b hb e => h.s0 k v b hv hb (by rw [e]; exact rowSn_pos h0 g 0)
        have HX : ∀ b, rowOr v.a1 v.l1 = some b → rowC v.a2 v.l2 = some b → False := fun b hb hc9 => h.s1 k v b hv hb hc9
        have HI := hide hI
        have HV := hide hv
        have hz := hI.blk.lt
        have hltI : (k : Int) < (n : Int) := by omega
        have HQ := hide (fun w2 w3 => invSn_step (w2 := w2) (w3 := w3) h h0 hI (show k < cap by omega) hv)
        obtain ⟨Kk, hKk⟩ : ∃ Kk, Kk = kSn K (vs.take k) := ⟨_, rfl⟩
        rw [← hKk] at hks HQ hkb
        rw [← hKk]
        have HKk := hide hKk
        clear hI hv hB hS hKk
        have hro1 : WrOr (wr.setCell ⟨g, k * 3, none⟩ (.int .i64 Kk)) v.a1 v.l1 v.c1 := hro.keepR (fun b hb => Below.heap_setCell _ _ _ _ (hn1 b (Or.inl hb)))
        have t1 : (wr.setCell ⟨g, k * 3, none⟩ (.int .i64 Kk)).cell? ⟨g, k * 3 + 1, none⟩ = some (.slice v.a1 v.l1 v.c1) := (Ti_other (by omega)).trans s1
        have t2 : (wr.setCell ⟨g, k * 3, none⟩ (.int .i64 Kk)).cell? ⟨g, k * 3 + 2, none⟩ = some (.slice v.a2 v.l2 v.c2) := (Ti_other (by omega)).trans s2
        have hgs : g < (wr.setCell ⟨g, k * 3, none⟩ (.int .i64 Kk)).heap.size := by simp; exact hz
        go_wp2_with (first
          | (go_at_call 64; refine (markKOr_any (Kk + 1) (by omega) (by omega) v.a1 v.l1 v.c1 _ hro1 b1).mono ?_; rintro e w2 ⟨rfl, m2, g2⟩; have c2 : w2.cell? ⟨g, k * 3 + 2, none⟩ = some (.slice v.a2 v.l2 v.c2) := g2.cell t2 (fun e9 => hn1 g (Or.inl e9.symm) rfl); have hri2 : WrC w2 3 v.a2 v.l2 v.c2 := hri.keep (fun b hb => (g2.block b (by simp; exact hri.lt b hb) (fun e9 => HX b e9.symm hb)).trans (Below.heap_setCell _ _ _ _ (hn1 b (Or.inr hb)))))
          | (go_at_call 36; refine (markIn_c (Kk + 1 + 13 * (v.l1 : Int)) (by omega) (by omega) v.a2 v.l2 v.c2 _ hri2 b2).mono ?_; rintro e w3 ⟨rfl, m3, _, k3⟩))
        go_roundw
        case rel => exact ⟨k + 1, by omega, by go_num, by rw [unhide hks], unhide HQ w2 w3 g2 m2 k3 m3⟩
        case measure => simp [intOf]; omega
      · have HE : Hid (kSn K (vs.take k) = kSn K vs) := hide (by rw [List.take_of_length_le (by omega)])
        go_wp2
        go_ret
        refine ⟨by rw [← unhide HE]; rfl, Or.inr ⟨g, rfl, fun i v hv => ?_⟩, hI.kp⟩
        have hi : i < vs.length := (List.getElem?_eq_some_iff.1 hv).1
        obtain ⟨q0, q1, q2⟩ := hI.mkd i v (by omega) hv
        obtain ⟨s1, s2⟩ := hI.sl i v hv
        exact ⟨q0, s1, s2, q1, q2⟩
end Go.Proofs.YtbjhpiannjepkaaGreat
