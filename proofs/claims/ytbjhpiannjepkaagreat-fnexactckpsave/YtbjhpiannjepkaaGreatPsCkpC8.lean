/- Laid together: what the claim needs of the texts that were built one by one. -/
import Derived.Test.YtbjhpiannjepkaaGreatPsCkpC7
import Derived.Test.YtbjhpiannjepkaaGreatPsBase
namespace Go.Proofs.YtbjhpiannjepkaaGreat
open Go.ChangeShapes Go.WideShapes Go.ChangeAt Go.RowKit Go.Deep
set_option linter.unusedVariables false

theorem CopS.base {W : World} {B B' : Nat} {l : List (Int × SnV)} {xs : List SnD} (h : CopS W B l xs) (hB : B' ≤ B) : CopS W B' l xs :=
  ⟨h.len, h.at_, fun i q x hq hx => World.ownsRow.mono (h.r1 i q x hq hx) hB, fun i q x hq hx => World.ownsRow.mono (h.r2 i q x hq hx) hB, h.d1, h.d2⟩

theorem CopS.rngs {W : World} {B : Nat} {l : List (Int × SnV)} {xs : List SnD} (h : CopS W B l xs) (i : Nat) (p : Int × SnV) (hp : l[i]? = some p) (b : Nat) (hb : (Value.slice p.2.a1 p.2.l1 p.2.c1).ownBlock = some b ∨ (Value.slice p.2.a2 p.2.l2 p.2.c2).ownBlock = some b) : B ≤ b ∧ b < W.heap.size := by
  have hi : i < xs.length := by have := (List.getElem?_eq_some_iff.1 hp).1; have := h.len; omega
  rcases hb with hb | hb
  · exact World.ownsRow.lt (h.r1 i p xs[i] hp (List.getElem?_eq_getElem hi)) b hb
  · exact World.ownsRow.lt (h.r2 i p xs[i] hp (List.getElem?_eq_getElem hi)) b hb

/-- A copied list of what is kept of tasks. -/
def GSn (B : Nat) (xs : List SnD) (v : Value) (D : Nat → Prop) (w : World) : Prop := ∃ l, OwnSn w B v l ∧ CopS w B l xs ∧ (∀ b, v.ownBlock = some b → D b) ∧ ∀ (i : Nat) (p : Int × SnV), l[i]? = some p → ∀ b, (Value.slice p.2.a1 p.2.l1 p.2.c1).ownBlock = some b ∨ (Value.slice p.2.a2 p.2.l2 p.2.c2).ownBlock = some b → D b

theorem gst_sn (B : Nat) (xs : List SnD) : ∀ v D w w', Below w.heap.size w w' → GSn B xs v D w → GSn B xs v D w' := fun _ _ _ _ hb ⟨l, h1, h2, h3, h4⟩ => ⟨l, own_bel h1 hb, h2.below hb, h3, h4⟩

/-- Checkpoints in memory of their own, no two parts in one block. -/
structure CkDis (W : World) (B : Nat) (src : List Int) (tsk : List Bool) (sn : List SnD) (at_ : List Int) (ssn : List SnD) (v2 v3 v4 v6 v7 : Value) (l4 l7 : List (Int × SnV)) : Prop where
  o2 : W.ownsRow B 3 1 v2 src.length (src.map fun z => .int .i64 z)
  o3 : W.ownsRow B 4 1 v3 tsk.length (tsk.map fun z => .bool z)
  o4 : OwnSn W B v4 l4
  k4 : CopS W B l4 sn
  o6 : W.ownsRow B 3 1 v6 at_.length (at_.map fun z => .int .i64 z)
  o7 : OwnSn W B v7 l7
  k7 : CopS W B l7 ssn
  d26 : ∀ b, v2.ownBlock = some b → v6.ownBlock ≠ some b
  d47 : ∀ b, v4.ownBlock = some b → v7.ownBlock ≠ some b
  dm : ∀ (i : Nat) (p : Int × SnV), l4[i]? = some p ∨ l7[i]? = some p → ∀ b, (Value.slice p.2.a2 p.2.l2 p.2.c2).ownBlock = some b → v2.ownBlock ≠ some b ∧ v6.ownBlock ≠ some b
  dr : ∀ (i j : Nat) (p q : Int × SnV), l4[i]? = some p → l7[j]? = some q → ∀ b, (Value.slice p.2.a1 p.2.l1 p.2.c1).ownBlock = some b → (Value.slice q.2.a1 q.2.l1 q.2.c1).ownBlock ≠ some b
  dk : ∀ (i j : Nat) (p q : Int × SnV), l4[i]? = some p → l7[j]? = some q → ∀ b, (Value.slice p.2.a2 p.2.l2 p.2.c2).ownBlock = some b → (Value.slice q.2.a2 q.2.l2 q.2.c2).ownBlock ≠ some b

theorem CkDis.setC {W : World} {B : Nat} {src : List Int} {tsk : List Bool} {sn : List SnD} {at_ : List Int} {ssn : List SnD} {v2 v3 v4 v6 v7 : Value} {l4 l7 : List (Int × SnV)} {p : Addr} {u : Value} (h : CkDis W B src tsk sn at_ ssn v2 v3 v4 v6 v7 l4 l7) (hp : p.block < B) : CkDis (W.setCell p u) B src tsk sn at_ ssn v2 v3 v4 v6 v7 l4 l7 :=
  ⟨own_setC h.o2 hp, own_setC h.o3 hp, own_setC h.o4 hp, h.k4.setC hp, own_setC h.o6 hp, own_setC h.o7 hp, h.k7.setC hp, h.d26, h.d47, h.dm, h.dr, h.dk⟩

theorem CkDis.bel {W W' : World} {B : Nat} {src : List Int} {tsk : List Bool} {sn : List SnD} {at_ : List Int} {ssn : List SnD} {v2 v3 v4 v6 v7 : Value} {l4 l7 : List (Int × SnV)} (h : CkDis W B src tsk sn at_ ssn v2 v3 v4 v6 v7 l4 l7) (hb : Below W.heap.size W W') : CkDis W' B src tsk sn at_ ssn v2 v3 v4 v6 v7 l4 l7 :=
  ⟨own_bel h.o2 hb, own_bel h.o3 hb, own_bel h.o4 hb, h.k4.below hb, own_bel h.o6 hb, own_bel h.o7 hb, h.k7.below hb, h.d26, h.d47, h.dm, h.dr, h.dk⟩

theorem CkDis.base {W : World} {B B' : Nat} {src : List Int} {tsk : List Bool} {sn : List SnD} {at_ : List Int} {ssn : List SnD} {v2 v3 v4 v6 v7 : Value} {l4 l7 : List (Int × SnV)} (h : CkDis W B src tsk sn at_ ssn v2 v3 v4 v6 v7 l4 l7) (hB : B' ≤ B) : CkDis W B' src tsk sn at_ ssn v2 v3 v4 v6 v7 l4 l7 :=
  ⟨World.ownsRow.mono h.o2 hB, World.ownsRow.mono h.o3 hB, World.ownsRow.mono h.o4 hB, h.k4.base hB, World.ownsRow.mono h.o6 hB, World.ownsRow.mono h.o7 hB, h.k7.base hB, h.d26, h.d47, h.dm, h.dr, h.dk⟩

theorem CkOwn.dis {W : World} {B : Nat} {src : List Int} {tsk : List Bool} {sn : List SnD} {at_ : List Int} {ssn : List SnD} {v2 v3 v4 v6 v7 : Value} {l4 l7 : List (Int × SnV)} {B1 B2 B3 B4 : Nat} (h : CkOwn W B src tsk sn at_ ssn v2 v3 v4 v6 v7 l4 l7 B1 B2 B3 B4) : CkDis W B src tsk sn at_ ssn v2 v3 v4 v6 v7 l4 l7 := by
  obtain ⟨h1, h2, h3, h4⟩ := h.le
  refine ⟨h.o2, World.ownsRow.mono h.o3 (by omega), World.ownsRow.mono h.o4 (by omega), h.k4.base (by omega), World.ownsRow.mono h.o6 (by omega), World.ownsRow.mono h.o7 (by omega), h.k7.base (by omega), ?_, ?_, ?_, ?_, ?_⟩
  · intro b x y; have := h.u2 b x; have := (World.ownsRow.lt h.o6 b y).1; omega
  · intro b x y; have := h.u4 b x; have := (World.ownsRow.lt h.o7 b y).1; omega
  · intro i p hp b hb
    rcases hp with hp | hp
    · have r := h.k4.rngs i p hp b (Or.inr hb)
      have r2 := (h.s4 i p hp).2 b hb
      exact ⟨fun e => by have := h.u2 b e; omega, fun e => by have := (World.ownsRow.lt h.o6 b e).1; omega⟩
    · have r := h.k7.rngs i p hp b (Or.inr hb)
      exact ⟨fun e => by have := h.u2 b e; omega, fun e => by have := h.u6 b e; omega⟩
  · intro i j p q hp hq b x y
    have r := (h.s4 i p hp).1 b x
    have r2 := h.k7.rngs j q hq b (Or.inl y)
    omega
  · intro i j p q hp hq b x y
    have r := (h.s4 i p hp).2 b x
    have r2 := h.k7.rngs j q hq b (Or.inr y)
    omega

/-- Copied checkpoints, as they come back. -/
def CopD (w : World) (n : Int) (op : Bool) (src : List Int) (tsk : List Bool) (sn : List SnD) (f : Int) (at_ : List Int) (ssn : List SnD) (e : Ending) (w' : World) : Prop := ∃ (v2 v3 v4 v6 v7 : Value) (l4 l7 : List (Int × SnV)), e = .returned (.agg #[.int .i64 n, .bool op, v2, v3, v4, .int .i64 f, v6, v7]) ∧ CkDis w' w.heap.size src tsk sn at_ ssn v2 v3 v4 v6 v7 l4 l7 ∧ Below w.heap.size w w'

theorem CopK.dis {w : World} {n : Int} {op : Bool} {src : List Int} {tsk : List Bool} {sn : List SnD} {f : Int} {at_ : List Int} {ssn : List SnD} {e : Ending} {w' : World} (h : CopK w n op src tsk sn f at_ ssn e w') : CopD w n op src tsk sn f at_ ssn e w' := by
  obtain ⟨v2, v3, v4, v6, v7, l4, l7, B1, B2, B3, B4, he, hc, hb⟩ := h
  exact ⟨v2, v3, v4, v6, v7, l4, l7, he, hc.dis, hb⟩

def depCk : Nat → List Nat
  | 27 => [22, 26]
  | 28 => [7, 11, 14, 27, 22, 26]
  | _ => []

def exCk (j k : Nat) : Bool := (j == 4 && k == 7) || (j == 7 && k == 4) || (j == 8 && k == 11) || (j == 11 && k == 8) || (j == 18 && k == 22) || (j == 22 && k == 18)

theorem symCk (j k : Nat) : exCk j k = exCk k j := by
  simp only [exCk]
  rw [Bool.eq_iff_iff]
  simp only [Bool.or_eq_true, Bool.and_eq_true, beq_iff_eq]
  omega

def psCk (B0 : Nat) (wS : Nat) (n : Int) (op : Bool) (a2 : Option Addr) (l2 c2 : Nat) (a3 : Option Addr) (l3 c3 : Nat) (a4 : Option Addr) (l4 c4 : Nat) (f : Int) (a6 : Option Addr) (l6 c6 : Nat) (a7 : Option Addr) (l7 c7 : Nat) (src : List Int) (tsk : List Bool) (sn : List SnD) (at_ : List Int) (ssn : List SnD) : List Gd := [fun V D w => GIs (.pointer (some ⟨wS, 0, none⟩)) (V 0) D w, fun V D w => GIs (.int .i64 n) (V 1) D w, fun V D w => GIs (.pointer (some ⟨wS, 1, none⟩)) (V 2) D w, fun V D w => GIs (.bool op) (V 3) D w, fun V D w => GLit 3 (V 4) D w, fun V D w => GIs (.pointer (some ⟨wS, 2, none⟩)) (V 5) D w, fun V D w => GIs (.slice a2 l2 c2) (V 6) D w, fun V D w => GOwn B0 3 1 l2 (src.map fun z => .int .i64 z) (V 7) D w, fun V D w => GLit 4 (V 8) D w, fun V D w => GIs (.pointer (some ⟨wS, 3, none⟩)) (V 9) D w, fun V D w => GIs (.slice a3 l3 c3) (V 10) D w, fun V D w => GOwn B0 4 1 l3 (tsk.map fun z => .bool z) (V 11) D w, fun V D w => GIs (.pointer (some ⟨wS, 4, none⟩)) (V 12) D w, fun V D w => GIs (.slice a4 l4 c4) (V 13) D w, fun V D w => GSn B0 sn (V 14) D w, fun V D w => GIs (.pointer (some ⟨wS, 5, none⟩)) (V 15) D w, fun V D w => GIs (.pointer (some ⟨wS, 5, none⟩)) (V 16) D w, fun V D w => GIs (.int .i64 f) (V 17) D w, fun V D w => GLit 3 (V 18) D w, fun V D w => GIs (.pointer (some ⟨wS, 5, none⟩)) (V 19) D w, fun V D w => GIs (.pointer (some ⟨wS, 6, none⟩)) (V 20) D w, fun V D w => GIs (.slice a6 l6 c6) (V 21) D w, fun V D w => GOwn B0 3 1 l6 (at_.map fun z => .int .i64 z) (V 22) D w, fun V D w => GIs (.pointer (some ⟨wS, 5, none⟩)) (V 23) D w, fun V D w => GIs (.pointer (some ⟨wS, 7, none⟩)) (V 24) D w, fun V D w => GIs (.slice a7 l7 c7) (V 25) D w, fun V D w => GSn B0 ssn (V 26) D w, fun V D w => V 27 = .agg #[.int .i64 f, V 22, V 26], fun V D w => V 28 = .agg #[.int .i64 n, .bool op, V 7, V 11, V 14, .int .i64 f, V 22, V 26], fun V D w => False]

theorem stCk (B0 : Nat) (wS : Nat) (n : Int) (op : Bool) (a2 : Option Addr) (l2 c2 : Nat) (a3 : Option Addr) (l3 c3 : Nat) (a4 : Option Addr) (l4 c4 : Nat) (f : Int) (a6 : Option Addr) (l6 c6 : Nat) (a7 : Option Addr) (l7 c7 : Nat) (src : List Int) (tsk : List Bool) (sn : List SnD) (at_ : List Int) (ssn : List SnD) : AllG depCk 0 (psCk B0 wS n op a2 l2 c2 a3 l3 c3 a4 l4 c4 f a6 l6 c6 a7 l7 c7 src tsk sn at_ ssn) := ⟨st1 (gst_is _), st1 (gst_is _), st1 (gst_is _), st1 (gst_is _), st1 (gst_lit _), st1 (gst_is _), st1 (gst_is _), st1 (gst_own _ _ _ _ _), st1 (gst_lit _), st1 (gst_is _), st1 (gst_is _), st1 (gst_own _ _ _ _ _), st1 (gst_is _), st1 (gst_is _), st1 (gst_sn _ _), st1 (gst_is _), st1 (gst_is _), st1 (gst_is _), st1 (gst_lit _), st1 (gst_is _), st1 (gst_is _), st1 (gst_is _), st1 (gst_own _ _ _ _ _), st1 (gst_is _), st1 (gst_is _), st1 (gst_is _), st1 (gst_sn _ _), (fun V V' D w w' e hd _ _ h => (by have e' : V 27 = V' 27 := e; have h22 : V 22 = V' 22 := hd 22 (by simp [depCk]); have h26 : V 26 = V' 26 := hd 26 (by simp [depCk]); show V' 27 = .agg #[.int .i64 f, V' 22, V' 26]; rw [← e', ← h22, ← h26]; exact h)), (fun V V' D w w' e hd _ _ h => (by have e' : V 28 = V' 28 := e; have h7 : V 7 = V' 7 := hd 7 (by simp [depCk]); have h11 : V 11 = V' 11 := hd 11 (by simp [depCk]); have h14 : V 14 = V' 14 := hd 14 (by simp [depCk]); have h22 : V 22 = V' 22 := hd 22 (by simp [depCk]); have h26 : V 26 = V' 26 := hd 26 (by simp [depCk]); show V' 28 = .agg #[.int .i64 n, .bool op, V' 7, V' 11, V' 14, .int .i64 f, V' 22, V' 26]; rw [← e', ← h7, ← h11, ← h14, ← h22, ← h26]; exact h)), (fun _ _ _ _ _ _ _ _ _ h => h), trivial⟩

set_option linter.unusedSimpArgs false in
set_option maxRecDepth 20000 in
set_option maxHeartbeats 8000000 in
theorem l9copy_any (n : Int) (op : Bool) (a2 : Option Addr) (l2 c2 : Nat) (a3 : Option Addr) (l3 c3 : Nat) (a4 : Option Addr) (l4 c4 : Nat) (f : Int) (a6 : Option Addr) (l6 c6 : Nat) (a7 : Option Addr) (l7 c7 Bs : Nat) (src : List Int) (tsk : List Bool) (sn : List SnD) (at_ : List Int) (ssn : List SnD) (w : World) (h2 : InRs w a2 l2 src) (h3 : BoRs w a3 l3 tsk) (h4 : SnB w Bs a4 l4 sn) (h6 : InRs w a6 l6 at_) (h7 : SnB w Bs a7 l7 ssn) (hs2 : l2 ≤ 1048576) (hs3 : l3 ≤ 1048576) (hs4 : l4 ≤ 1048576) (hs6 : l6 ≤ 1048576) (hs7 : l7 ≤ 1048576) (hm4 : ∀ y ∈ sn, y.rows.length ≤ 1048576 ∧ y.marks.length ≤ 1048576) (hm7 : ∀ y ∈ ssn, y.rows.length ≤ 1048576 ∧ y.marks.length ≤ 1048576) : Calls Tryz.prog 20 #[.agg #[.int .i64 n, .bool op, .slice a2 l2 c2, .slice a3 l3 c3, .slice a4 l4 c4, .int .i64 f, .slice a6 l6 c6, .slice a7 l7 c7]] w fun e w' => CopD w n op src tsk sn f at_ ssn e w' := by
  obtain ⟨i0, hi1, hz10, hz11, hz12⟩ := info_parts Tryz.infoInt1
  obtain ⟨i1, hj1, hz20, hz21, hz22⟩ := info_parts Tryz.infoBoo1
  have hnil2 : a2 = none → l2 = 0 := fun e => by
    rcases h2.2.2 with h9 | ⟨g, o, e2, _⟩
    · exact h9
    · rw [e] at e2; cases e2
  have hnil3 : a3 = none → l3 = 0 := fun e => by
    rcases h3.2.2 with h9 | ⟨g, o, e2, _⟩
    · exact h9
    · rw [e] at e2; cases e2
  have hnil6 : a6 = none → l6 = 0 := fun e => by
    rcases h6.2.2 with h9 | ⟨g, o, e2, _⟩
    · exact h9
    · rw [e] at e2; cases e2
  have hb00 : Below w.heap.size w ((w.alloc (.cells #[.int .i64 n, .bool op, .slice a2 l2 c2, .slice a3 l3 c3, .slice a4 l4 c4, .int .i64 f, .slice a6 l6 c6, .slice a7 l7 c7] 36)).alloc (.cells #[.int .i64 0, .bool false, .slice none 0 0, .slice none 0 0, .slice none 0 0, .int .i64 0, .slice none 0 0, .slice none 0 0] 36)).drew := bel_drew (bel_alloc (bel_one _ _) _)
  have hX0 : ((w.alloc (.cells #[.int .i64 n, .bool op, .slice a2 l2 c2, .slice a3 l3 c3, .slice a4 l4 c4, .int .i64 f, .slice a6 l6 c6, .slice a7 l7 c7] 36)).alloc (.cells #[.int .i64 0, .bool false, .slice none 0 0, .slice none 0 0, .slice none 0 0, .int .i64 0, .slice none 0 0, .slice none 0 0] 36)).drew.heap[w.heap.size + 1]? = some (.cells #[.int .i64 0, .bool false, .slice none 0 0, .slice none 0 0, .slice none 0 0, .int .i64 0, .slice none 0 0, .slice none 0 0] 36 (0, 0)) := blk_new (by simp)
  have x0 : ((w.alloc (.cells #[.int .i64 n, .bool op, .slice a2 l2 c2, .slice a3 l3 c3, .slice a4 l4 c4, .int .i64 f, .slice a6 l6 c6, .slice a7 l7 c7] 36)).alloc (.cells #[.int .i64 0, .bool false, .slice none 0 0, .slice none 0 0, .slice none 0 0, .int .i64 0, .slice none 0 0, .slice none 0 0] 36)).drew.cell? ⟨w.heap.size, 0, none⟩ = some (.int .i64 n) := by simp [go_sem]
  have x1 : ((w.alloc (.cells #[.int .i64 n, .bool op, .slice a2 l2 c2, .slice a3 l3 c3, .slice a4 l4 c4, .int .i64 f, .slice a6 l6 c6, .slice a7 l7 c7] 36)).alloc (.cells #[.int .i64 0, .bool false, .slice none 0 0, .slice none 0 0, .slice none 0 0, .int .i64 0, .slice none 0 0, .slice none 0 0] 36)).drew.cell? ⟨w.heap.size, 1, none⟩ = some (.bool op) := by simp [go_sem]
  have x2 : ((w.alloc (.cells #[.int .i64 n, .bool op, .slice a2 l2 c2, .slice a3 l3 c3, .slice a4 l4 c4, .int .i64 f, .slice a6 l6 c6, .slice a7 l7 c7] 36)).alloc (.cells #[.int .i64 0, .bool false, .slice none 0 0, .slice none 0 0, .slice none 0 0, .int .i64 0, .slice none 0 0, .slice none 0 0] 36)).drew.cell? ⟨w.heap.size, 2, none⟩ = some (.slice a2 l2 c2) := by simp [go_sem]
  have x3 : ((w.alloc (.cells #[.int .i64 n, .bool op, .slice a2 l2 c2, .slice a3 l3 c3, .slice a4 l4 c4, .int .i64 f, .slice a6 l6 c6, .slice a7 l7 c7] 36)).alloc (.cells #[.int .i64 0, .bool false, .slice none 0 0, .slice none 0 0, .slice none 0 0, .int .i64 0, .slice none 0 0, .slice none 0 0] 36)).drew.cell? ⟨w.heap.size, 3, none⟩ = some (.slice a3 l3 c3) := by simp [go_sem]
  have x4 : ((w.alloc (.cells #[.int .i64 n, .bool op, .slice a2 l2 c2, .slice a3 l3 c3, .slice a4 l4 c4, .int .i64 f, .slice a6 l6 c6, .slice a7 l7 c7] 36)).alloc (.cells #[.int .i64 0, .bool false, .slice none 0 0, .slice none 0 0, .slice none 0 0, .int .i64 0, .slice none 0 0, .slice none 0 0] 36)).drew.cell? ⟨w.heap.size, 4, none⟩ = some (.slice a4 l4 c4) := by simp [go_sem]
  have x5 : ((w.alloc (.cells #[.int .i64 n, .bool op, .slice a2 l2 c2, .slice a3 l3 c3, .slice a4 l4 c4, .int .i64 f, .slice a6 l6 c6, .slice a7 l7 c7] 36)).alloc (.cells #[.int .i64 0, .bool false, .slice none 0 0, .slice none 0 0, .slice none 0 0, .int .i64 0, .slice none 0 0, .slice none 0 0] 36)).drew.cell? ⟨w.heap.size, 5, none⟩ = some (.int .i64 f) := by simp [go_sem]
  have x6 : ((w.alloc (.cells #[.int .i64 n, .bool op, .slice a2 l2 c2, .slice a3 l3 c3, .slice a4 l4 c4, .int .i64 f, .slice a6 l6 c6, .slice a7 l7 c7] 36)).alloc (.cells #[.int .i64 0, .bool false, .slice none 0 0, .slice none 0 0, .slice none 0 0, .int .i64 0, .slice none 0 0, .slice none 0 0] 36)).drew.cell? ⟨w.heap.size, 6, none⟩ = some (.slice a6 l6 c6) := by simp [go_sem]
  have x7 : ((w.alloc (.cells #[.int .i64 n, .bool op, .slice a2 l2 c2, .slice a3 l3 c3, .slice a4 l4 c4, .int .i64 f, .slice a6 l6 c6, .slice a7 l7 c7] 36)).alloc (.cells #[.int .i64 0, .bool false, .slice none 0 0, .slice none 0 0, .slice none 0 0, .int .i64 0, .slice none 0 0, .slice none 0 0] 36)).drew.cell? ⟨w.heap.size, 7, none⟩ = some (.slice a7 l7 c7) := by simp [go_sem]
  go_enter Tryz.func20, Tryz.ntmps20
  go_wp2_with fail
  obtain ⟨B0, hB0⟩ : ∃ B0, B0 = ((w.alloc (.cells #[.int .i64 n, .bool op, .slice a2 l2 c2, .slice a3 l3 c3, .slice a4 l4 c4, .int .i64 f, .slice a6 l6 c6, .slice a7 l7 c7] 36)).alloc (.cells #[.int .i64 0, .bool false, .slice none 0 0, .slice none 0 0, .slice none 0 0, .int .i64 0, .slice none 0 0, .slice none 0 0] 36)).drew.heap.size := ⟨_, rfl⟩
  have hB2 : B0 = w.heap.size + 2 := by rw [hB0]; simp
  revert hb00 hX0 x0 x1 x2 x3 x4 x5 x6 x7 hB0
  generalize hWS : ((w.alloc (.cells #[.int .i64 n, .bool op, .slice a2 l2 c2, .slice a3 l3 c3, .slice a4 l4 c4, .int .i64 f, .slice a6 l6 c6, .slice a7 l7 c7] 36)).alloc (.cells #[.int .i64 0, .bool false, .slice none 0 0, .slice none 0 0, .slice none 0 0, .int .i64 0, .slice none 0 0, .slice none 0 0] 36)).drew = wS
  intro hb00 hX0 x0 x1 x2 x3 x4 x5 x6 x7 hB0
  have hw00 : w.heap.size ≤ wS.heap.size := hb00.size
  have hbx : w.heap.size < wS.heap.size := by omega
  have hst := stCk B0 w.heap.size n op a2 l2 c2 a3 l3 c3 a4 l4 c4 f a6 l6 c6 a7 l7 c7 src tsk sn at_ ssn
  have hsym := symCk
  refine wp_region_last (by kernel_rfl) (by kernel_rfl) (by kernel_rfl) (Growing wS (psCk B0 w.heap.size n op a2 l2 c2 a3 l3 c3 a4 l4 c4 f a6 l6 c6 a7 l7 c7 src tsk sn at_ ssn) depCk exCk (fun V => #[.agg #[.int .i64 n, .bool op, .slice a2 l2 c2, .slice a3 l3 c3, .slice a4 l4 c4, .int .i64 f, .slice a6 l6 c6, .slice a7 l7 c7], .pointer (some ⟨w.heap.size, 0, none⟩), .pointer (some ⟨w.heap.size + 1, 0, none⟩), V 0, V 1, V 2, V 3, V 4, V 5, V 6, V 7, V 8, V 9, V 10, V 11, V 12, V 13, V 14, V 15, V 16, V 17, V 18, V 19, V 20, V 21, V 22, V 23, V 24, V 25, V 26, V 27, V 28]) []) ?_ ?_
  · refine ⟨fun _ => undef, fun _ _ => False, rfl, fun j hj => absurd hj (by simp), fun j hj => absurd hj (by simp), fun j k b hj => absurd hj (by simp), fun j b hj => absurd hj (by simp), ?_⟩
    rw [hWS]; exact Below.refl _ _
  refine ⟨?_, ?_, ?_, ?_, ?_, ?_, ?_, ?_, ?_, ?_, ?_, ?_, ?_, ?_, ?_, ?_, ?_, ?_, ?_, ?_, ?_, ?_, ?_, ?_, ?_, ?_, ?_, ?_, ?_, ?_⟩
  · intro L ac W hI hL hA K' hK
    obtain ⟨V, D, hG⟩ := hI
    obtain rfl := hG.act
    go_simp
    refine hK.out _ _ (hG.pure hst hsym hL (.pointer (some ⟨w.heap.size, 0, none⟩)) (by simp [depCk]) (show GIs (.pointer (some ⟨w.heap.size, 0, none⟩)) (putV V 0 (.pointer (some ⟨w.heap.size, 0, none⟩)) 0) (fun _ => False) W by simp [GIs, putV]) ?_)
    simp [putV, Act.put]
  · intro L ac W hI hL hA K' hK
    obtain ⟨V, D, hG⟩ := hI
    obtain rfl := hG.act
    have e0 : V 0 = .pointer (some ⟨w.heap.size, 0, none⟩) := hG.hP 0 (hA ⟨0, .data⟩ (by simp) rfl)
    simp only [e0]
    have hc0 := (hG.bel.cell (p := ⟨w.heap.size, 0, none⟩) hbx).trans x0
    go_simp
    refine hK.out _ _ (hG.pure hst hsym hL (.int .i64 n) (by simp [depCk]) (show GIs (.int .i64 n) (putV V 1 (.int .i64 n) 1) (fun _ => False) W by simp [GIs, putV]) ?_)
    simp [putV, Act.put, e0]
  · intro L ac W hI hL hA K' hK
    obtain ⟨V, D, hG⟩ := hI
    obtain rfl := hG.act
    go_simp
    refine hK.out _ _ (hG.pure hst hsym hL (.pointer (some ⟨w.heap.size, 1, none⟩)) (by simp [depCk]) (show GIs (.pointer (some ⟨w.heap.size, 1, none⟩)) (putV V 2 (.pointer (some ⟨w.heap.size, 1, none⟩)) 2) (fun _ => False) W by simp [GIs, putV]) ?_)
    simp [putV, Act.put]
  · intro L ac W hI hL hA K' hK
    obtain ⟨V, D, hG⟩ := hI
    obtain rfl := hG.act
    have e2 : V 2 = .pointer (some ⟨w.heap.size, 1, none⟩) := hG.hP 2 (hA ⟨2, .data⟩ (by simp) rfl)
    simp only [e2]
    have hc1 := (hG.bel.cell (p := ⟨w.heap.size, 1, none⟩) hbx).trans x1
    go_simp
    refine hK.out _ _ (hG.pure hst hsym hL (.bool op) (by simp [depCk]) (show GIs (.bool op) (putV V 3 (.bool op) 3) (fun _ => False) W by simp [GIs, putV]) ?_)
    simp [putV, Act.put, e2]
  · intro L ac W hI hL hA K' hK
    obtain ⟨V, D, hG⟩ := hI
    obtain rfl := hG.act
    go_simp
    refine hK.out _ _ (hG.step hst hsym hL (.slice (some ⟨W.heap.size, 0, none⟩) 0 0) (fun b => b = W.heap.size) (W.alloc (.cells #[] 3)) (bel_one _ _) (by simp [depCk]) (show GLit 3 (putV V 4 (.slice (some ⟨W.heap.size, 0, none⟩) 0 0) 4) (fun b => b = W.heap.size) (W.alloc (.cells #[] 3)) from ⟨W.heap.size, by simp [putV], rfl, heap_alloc_new _ _⟩) (fun b hb => Or.inl (by subst hb; simp)) ?_)
    simp [putV, Act.put]
  · intro L ac W hI hL hA K' hK
    obtain ⟨V, D, hG⟩ := hI
    obtain rfl := hG.act
    go_simp
    refine hK.out _ _ (hG.pure hst hsym hL (.pointer (some ⟨w.heap.size, 2, none⟩)) (by simp [depCk]) (show GIs (.pointer (some ⟨w.heap.size, 2, none⟩)) (putV V 5 (.pointer (some ⟨w.heap.size, 2, none⟩)) 5) (fun _ => False) W by simp [GIs, putV]) ?_)
    simp [putV, Act.put]
  · intro L ac W hI hL hA K' hK
    obtain ⟨V, D, hG⟩ := hI
    obtain rfl := hG.act
    have e5 : V 5 = .pointer (some ⟨w.heap.size, 2, none⟩) := hG.hP 5 (hA ⟨5, .data⟩ (by simp) rfl)
    simp only [e5]
    have hc2 := (hG.bel.cell (p := ⟨w.heap.size, 2, none⟩) hbx).trans x2
    go_simp
    refine hK.out _ _ (hG.pure hst hsym hL (.slice a2 l2 c2) (by simp [depCk]) (show GIs (.slice a2 l2 c2) (putV V 6 (.slice a2 l2 c2) 6) (fun _ => False) W by simp [GIs, putV]) ?_)
    simp [putV, Act.put, e5]
  · intro L ac W hI hL hA K' hK
    obtain ⟨V, D, hG⟩ := hI
    obtain rfl := hG.act
    obtain ⟨g4, e4, m4, k4⟩ := (show GLit 3 (V 4) (D 4) W from hG.hP 4 (hA ⟨4, .data⟩ (by simp) rfl))
    have e6 : V 6 = .slice a2 l2 c2 := hG.hP 6 (hA ⟨6, .data⟩ (by simp) rfl)
    simp only [e4, e6]
    have hr7 := hG.rng 4 g4 (hA ⟨4, .data⟩ (by simp) rfl) m4
    have hb0 : Below w.heap.size w W := hb00.trans (hG.bel.mono hw00)
    refine step_append_lit rfl _ _ 24 rfl 3 i0 _ 1 8 Tryz.underlying24 hi1 hz10 hz11 hz12 rfl (by decide) g4 B0 (by have h9 := hr7.1; omega) (by rfl) k4 _ l2 _ (src.map fun z => .int .i64 z) (by rfl) (by rw [List.length_map, h2.1, Nat.mul_one]) hnil2 (fun q hq => cellsIn (h2.below hb0) hq) (by unfold maxLen; omega) (by omega) ?_
    intro v' W' hown hbW hblk
    refine hK.out _ _ (hG.step hst hsym hL v' (fun b => v'.ownBlock = some b) W' hbW (by simp [depCk]) (show GOwn B0 3 1 l2 (src.map fun z => .int .i64 z) (putV V 7 v' 7) (fun b => v'.ownBlock = some b) W' from ⟨by simp only [putV, if_true]; exact hown, fun b hb => by simpa [putV] using hb⟩) (fun b hb => (hblk b hb).elim (fun e => Or.inr ⟨4, hA ⟨4, .data⟩ (by simp) rfl, by rw [e]; exact m4, by intro k hk1 hk2; simp [exCk] at hk2 ⊢; omega⟩) (fun e => Or.inl e)) ?_)
    simp [putV, Act.put, e4, e6]
  · intro L ac W hI hL hA K' hK
    obtain ⟨V, D, hG⟩ := hI
    obtain rfl := hG.act
    go_simp
    refine hK.out _ _ (hG.step hst hsym hL (.slice (some ⟨W.heap.size, 0, none⟩) 0 0) (fun b => b = W.heap.size) (W.alloc (.cells #[] 4)) (bel_one _ _) (by simp [depCk]) (show GLit 4 (putV V 8 (.slice (some ⟨W.heap.size, 0, none⟩) 0 0) 8) (fun b => b = W.heap.size) (W.alloc (.cells #[] 4)) from ⟨W.heap.size, by simp [putV], rfl, heap_alloc_new _ _⟩) (fun b hb => Or.inl (by subst hb; simp)) ?_)
    simp [putV, Act.put]
  · intro L ac W hI hL hA K' hK
    obtain ⟨V, D, hG⟩ := hI
    obtain rfl := hG.act
    go_simp
    refine hK.out _ _ (hG.pure hst hsym hL (.pointer (some ⟨w.heap.size, 3, none⟩)) (by simp [depCk]) (show GIs (.pointer (some ⟨w.heap.size, 3, none⟩)) (putV V 9 (.pointer (some ⟨w.heap.size, 3, none⟩)) 9) (fun _ => False) W by simp [GIs, putV]) ?_)
    simp [putV, Act.put]
  · intro L ac W hI hL hA K' hK
    obtain ⟨V, D, hG⟩ := hI
    obtain rfl := hG.act
    have e9 : V 9 = .pointer (some ⟨w.heap.size, 3, none⟩) := hG.hP 9 (hA ⟨9, .data⟩ (by simp) rfl)
    simp only [e9]
    have hc3 := (hG.bel.cell (p := ⟨w.heap.size, 3, none⟩) hbx).trans x3
    go_simp
    refine hK.out _ _ (hG.pure hst hsym hL (.slice a3 l3 c3) (by simp [depCk]) (show GIs (.slice a3 l3 c3) (putV V 10 (.slice a3 l3 c3) 10) (fun _ => False) W by simp [GIs, putV]) ?_)
    simp [putV, Act.put, e9]
  · intro L ac W hI hL hA K' hK
    obtain ⟨V, D, hG⟩ := hI
    obtain rfl := hG.act
    obtain ⟨g8, e8, m8, k8⟩ := (show GLit 4 (V 8) (D 8) W from hG.hP 8 (hA ⟨8, .data⟩ (by simp) rfl))
    have e10 : V 10 = .slice a3 l3 c3 := hG.hP 10 (hA ⟨10, .data⟩ (by simp) rfl)
    simp only [e8, e10]
    have hr11 := hG.rng 8 g8 (hA ⟨8, .data⟩ (by simp) rfl) m8
    have hb0 : Below w.heap.size w W := hb00.trans (hG.bel.mono hw00)
    refine step_append_lit rfl _ _ 25 rfl 4 i1 _ 1 1 Tryz.underlying25 hj1 hz20 hz21 hz22 rfl (by decide) g8 B0 (by have h9 := hr11.1; omega) (by rfl) k8 _ l3 _ (tsk.map fun z => .bool z) (by rfl) (by rw [List.length_map, h3.1, Nat.mul_one]) hnil3 (fun q hq => cellsBo (h3.below hb0) hq) (by unfold maxLen; omega) (by omega) ?_
    intro v' W' hown hbW hblk
    refine hK.out _ _ (hG.step hst hsym hL v' (fun b => v'.ownBlock = some b) W' hbW (by simp [depCk]) (show GOwn B0 4 1 l3 (tsk.map fun z => .bool z) (putV V 11 v' 11) (fun b => v'.ownBlock = some b) W' from ⟨by simp only [putV, if_true]; exact hown, fun b hb => by simpa [putV] using hb⟩) (fun b hb => (hblk b hb).elim (fun e => Or.inr ⟨8, hA ⟨8, .data⟩ (by simp) rfl, by rw [e]; exact m8, by intro k hk1 hk2; simp [exCk] at hk2 ⊢; omega⟩) (fun e => Or.inl e)) ?_)
    simp [putV, Act.put, e8, e10]
  · intro L ac W hI hL hA K' hK
    obtain ⟨V, D, hG⟩ := hI
    obtain rfl := hG.act
    go_simp
    refine hK.out _ _ (hG.pure hst hsym hL (.pointer (some ⟨w.heap.size, 4, none⟩)) (by simp [depCk]) (show GIs (.pointer (some ⟨w.heap.size, 4, none⟩)) (putV V 12 (.pointer (some ⟨w.heap.size, 4, none⟩)) 12) (fun _ => False) W by simp [GIs, putV]) ?_)
    simp [putV, Act.put]
  · intro L ac W hI hL hA K' hK
    obtain ⟨V, D, hG⟩ := hI
    obtain rfl := hG.act
    have e12 : V 12 = .pointer (some ⟨w.heap.size, 4, none⟩) := hG.hP 12 (hA ⟨12, .data⟩ (by simp) rfl)
    simp only [e12]
    have hc4 := (hG.bel.cell (p := ⟨w.heap.size, 4, none⟩) hbx).trans x4
    go_simp
    refine hK.out _ _ (hG.pure hst hsym hL (.slice a4 l4 c4) (by simp [depCk]) (show GIs (.slice a4 l4 c4) (putV V 13 (.slice a4 l4 c4) 13) (fun _ => False) W by simp [GIs, putV]) ?_)
    simp [putV, Act.put, e12]
  · intro L ac W hI hL hA K' hK
    obtain ⟨V, D, hG⟩ := hI
    obtain rfl := hG.act
    have e13 : V 13 = .slice a4 l4 c4 := hG.hP 13 (hA ⟨13, .data⟩ (by simp) rfl)
    simp only [e13]
    have hb0 : Below w.heap.size w W := hb00.trans (hG.bel.mono hw00)
    go_simp
    (go_at_call 22; refine (specsnaps_any a4 l4 c4 Bs sn W (h4.below hb0) hs4 hm4).mono ?_; rintro e' W' ⟨v', sl, rfl, hown, hcop, hbW⟩)
    (try go_wp2_with fail)
    have hB9 : B0 ≤ W.heap.size := by have := hG.bel.size; omega
    refine hK.out _ _ (hG.step hst hsym hL v' (fun b => W.heap.size ≤ b ∧ b < W'.heap.size) W' hbW (by simp [depCk]) (show GSn B0 sn (putV V 14 v' 14) (fun b => W.heap.size ≤ b ∧ b < W'.heap.size) W' from ⟨sl, by simp only [putV, if_true]; exact World.ownsRow.mono hown hB9, hcop.base hB9, fun b hb => World.ownsRow.lt hown b (by simpa [putV] using hb), hcop.rngs⟩) (fun b hb => Or.inl hb) ?_)
    simp [putV, Act.put, e13]
  · intro L ac W hI hL hA K' hK
    obtain ⟨V, D, hG⟩ := hI
    obtain rfl := hG.act
    go_simp
    refine hK.out _ _ (hG.pure hst hsym hL (.pointer (some ⟨w.heap.size, 5, none⟩)) (by simp [depCk]) (show GIs (.pointer (some ⟨w.heap.size, 5, none⟩)) (putV V 15 (.pointer (some ⟨w.heap.size, 5, none⟩)) 15) (fun _ => False) W by simp [GIs, putV]) ?_)
    simp [putV, Act.put]
  · intro L ac W hI hL hA K' hK
    obtain ⟨V, D, hG⟩ := hI
    obtain rfl := hG.act
    have e15 : V 15 = .pointer (some ⟨w.heap.size, 5, none⟩) := hG.hP 15 (hA ⟨15, .data⟩ (by simp) rfl)
    simp only [e15]
    go_simp
    refine hK.out _ _ (hG.pure hst hsym hL (.pointer (some ⟨w.heap.size, 5, none⟩)) (by simp [depCk]) (show GIs (.pointer (some ⟨w.heap.size, 5, none⟩)) (putV V 16 (.pointer (some ⟨w.heap.size, 5, none⟩)) 16) (fun _ => False) W by simp [GIs, putV]) ?_)
    simp [putV, Act.put, e15]
  · intro L ac W hI hL hA K' hK
    obtain ⟨V, D, hG⟩ := hI
    obtain rfl := hG.act
    have e16 : V 16 = .pointer (some ⟨w.heap.size, 5, none⟩) := hG.hP 16 (hA ⟨16, .data⟩ (by simp) rfl)
    simp only [e16]
    have hc5 := (hG.bel.cell (p := ⟨w.heap.size, 5, none⟩) hbx).trans x5
    go_simp
    refine hK.out _ _ (hG.pure hst hsym hL (.int .i64 f) (by simp [depCk]) (show GIs (.int .i64 f) (putV V 17 (.int .i64 f) 17) (fun _ => False) W by simp [GIs, putV]) ?_)
    simp [putV, Act.put, e16]
  · intro L ac W hI hL hA K' hK
    obtain ⟨V, D, hG⟩ := hI
    obtain rfl := hG.act
    go_simp
    refine hK.out _ _ (hG.step hst hsym hL (.slice (some ⟨W.heap.size, 0, none⟩) 0 0) (fun b => b = W.heap.size) (W.alloc (.cells #[] 3)) (bel_one _ _) (by simp [depCk]) (show GLit 3 (putV V 18 (.slice (some ⟨W.heap.size, 0, none⟩) 0 0) 18) (fun b => b = W.heap.size) (W.alloc (.cells #[] 3)) from ⟨W.heap.size, by simp [putV], rfl, heap_alloc_new _ _⟩) (fun b hb => Or.inl (by subst hb; simp)) ?_)
    simp [putV, Act.put]
  · intro L ac W hI hL hA K' hK
    obtain ⟨V, D, hG⟩ := hI
    obtain rfl := hG.act
    go_simp
    refine hK.out _ _ (hG.pure hst hsym hL (.pointer (some ⟨w.heap.size, 5, none⟩)) (by simp [depCk]) (show GIs (.pointer (some ⟨w.heap.size, 5, none⟩)) (putV V 19 (.pointer (some ⟨w.heap.size, 5, none⟩)) 19) (fun _ => False) W by simp [GIs, putV]) ?_)
    simp [putV, Act.put]
  · intro L ac W hI hL hA K' hK
    obtain ⟨V, D, hG⟩ := hI
    obtain rfl := hG.act
    have e19 : V 19 = .pointer (some ⟨w.heap.size, 5, none⟩) := hG.hP 19 (hA ⟨19, .data⟩ (by simp) rfl)
    simp only [e19]
    go_simp
    refine hK.out _ _ (hG.pure hst hsym hL (.pointer (some ⟨w.heap.size, 6, none⟩)) (by simp [depCk]) (show GIs (.pointer (some ⟨w.heap.size, 6, none⟩)) (putV V 20 (.pointer (some ⟨w.heap.size, 6, none⟩)) 20) (fun _ => False) W by simp [GIs, putV]) ?_)
    simp [putV, Act.put, e19]
  · intro L ac W hI hL hA K' hK
    obtain ⟨V, D, hG⟩ := hI
    obtain rfl := hG.act
    have e20 : V 20 = .pointer (some ⟨w.heap.size, 6, none⟩) := hG.hP 20 (hA ⟨20, .data⟩ (by simp) rfl)
    simp only [e20]
    have hc6 := (hG.bel.cell (p := ⟨w.heap.size, 6, none⟩) hbx).trans x6
    go_simp
    refine hK.out _ _ (hG.pure hst hsym hL (.slice a6 l6 c6) (by simp [depCk]) (show GIs (.slice a6 l6 c6) (putV V 21 (.slice a6 l6 c6) 21) (fun _ => False) W by simp [GIs, putV]) ?_)
    simp [putV, Act.put, e20]
  · intro L ac W hI hL hA K' hK
    obtain ⟨V, D, hG⟩ := hI
    obtain rfl := hG.act
    obtain ⟨g18, e18, m18, k18⟩ := (show GLit 3 (V 18) (D 18) W from hG.hP 18 (hA ⟨18, .data⟩ (by simp) rfl))
    have e21 : V 21 = .slice a6 l6 c6 := hG.hP 21 (hA ⟨21, .data⟩ (by simp) rfl)
    simp only [e18, e21]
    have hr22 := hG.rng 18 g18 (hA ⟨18, .data⟩ (by simp) rfl) m18
    have hb0 : Below w.heap.size w W := hb00.trans (hG.bel.mono hw00)
    refine step_append_lit rfl _ _ 24 rfl 3 i0 _ 1 8 Tryz.underlying24 hi1 hz10 hz11 hz12 rfl (by decide) g18 B0 (by have h9 := hr22.1; omega) (by rfl) k18 _ l6 _ (at_.map fun z => .int .i64 z) (by rfl) (by rw [List.length_map, h6.1, Nat.mul_one]) hnil6 (fun q hq => cellsIn (h6.below hb0) hq) (by unfold maxLen; omega) (by omega) ?_
    intro v' W' hown hbW hblk
    refine hK.out _ _ (hG.step hst hsym hL v' (fun b => v'.ownBlock = some b) W' hbW (by simp [depCk]) (show GOwn B0 3 1 l6 (at_.map fun z => .int .i64 z) (putV V 22 v' 22) (fun b => v'.ownBlock = some b) W' from ⟨by simp only [putV, if_true]; exact hown, fun b hb => by simpa [putV] using hb⟩) (fun b hb => (hblk b hb).elim (fun e => Or.inr ⟨18, hA ⟨18, .data⟩ (by simp) rfl, by rw [e]; exact m18, by intro k hk1 hk2; simp [exCk] at hk2 ⊢; omega⟩) (fun e => Or.inl e)) ?_)
    simp [putV, Act.put, e18, e21]
  · intro L ac W hI hL hA K' hK
    obtain ⟨V, D, hG⟩ := hI
    obtain rfl := hG.act
    go_simp
    refine hK.out _ _ (hG.pure hst hsym hL (.pointer (some ⟨w.heap.size, 5, none⟩)) (by simp [depCk]) (show GIs (.pointer (some ⟨w.heap.size, 5, none⟩)) (putV V 23 (.pointer (some ⟨w.heap.size, 5, none⟩)) 23) (fun _ => False) W by simp [GIs, putV]) ?_)
    simp [putV, Act.put]
  · intro L ac W hI hL hA K' hK
    obtain ⟨V, D, hG⟩ := hI
    obtain rfl := hG.act
    have e23 : V 23 = .pointer (some ⟨w.heap.size, 5, none⟩) := hG.hP 23 (hA ⟨23, .data⟩ (by simp) rfl)
    simp only [e23]
    go_simp
    refine hK.out _ _ (hG.pure hst hsym hL (.pointer (some ⟨w.heap.size, 7, none⟩)) (by simp [depCk]) (show GIs (.pointer (some ⟨w.heap.size, 7, none⟩)) (putV V 24 (.pointer (some ⟨w.heap.size, 7, none⟩)) 24) (fun _ => False) W by simp [GIs, putV]) ?_)
    simp [putV, Act.put, e23]
  · intro L ac W hI hL hA K' hK
    obtain ⟨V, D, hG⟩ := hI
    obtain rfl := hG.act
    have e24 : V 24 = .pointer (some ⟨w.heap.size, 7, none⟩) := hG.hP 24 (hA ⟨24, .data⟩ (by simp) rfl)
    simp only [e24]
    have hc7 := (hG.bel.cell (p := ⟨w.heap.size, 7, none⟩) hbx).trans x7
    go_simp
    refine hK.out _ _ (hG.pure hst hsym hL (.slice a7 l7 c7) (by simp [depCk]) (show GIs (.slice a7 l7 c7) (putV V 25 (.slice a7 l7 c7) 25) (fun _ => False) W by simp [GIs, putV]) ?_)
    simp [putV, Act.put, e24]
  · intro L ac W hI hL hA K' hK
    obtain ⟨V, D, hG⟩ := hI
    obtain rfl := hG.act
    have e25 : V 25 = .slice a7 l7 c7 := hG.hP 25 (hA ⟨25, .data⟩ (by simp) rfl)
    simp only [e25]
    have hb0 : Below w.heap.size w W := hb00.trans (hG.bel.mono hw00)
    go_simp
    (go_at_call 22; refine (specsnaps_any a7 l7 c7 Bs ssn W (h7.below hb0) hs7 hm7).mono ?_; rintro e' W' ⟨v', sl, rfl, hown, hcop, hbW⟩)
    (try go_wp2_with fail)
    have hB9 : B0 ≤ W.heap.size := by have := hG.bel.size; omega
    refine hK.out _ _ (hG.step hst hsym hL v' (fun b => W.heap.size ≤ b ∧ b < W'.heap.size) W' hbW (by simp [depCk]) (show GSn B0 ssn (putV V 26 v' 26) (fun b => W.heap.size ≤ b ∧ b < W'.heap.size) W' from ⟨sl, by simp only [putV, if_true]; exact World.ownsRow.mono hown hB9, hcop.base hB9, fun b hb => World.ownsRow.lt hown b (by simpa [putV] using hb), hcop.rngs⟩) (fun b hb => Or.inl hb) ?_)
    simp [putV, Act.put, e25]
  · intro L ac W hI hL hA K' hK
    obtain ⟨V, D, hG⟩ := hI
    obtain rfl := hG.act
    have e17 : V 17 = .int .i64 f := hG.hP 17 (hA ⟨17, .data⟩ (by simp) rfl)
    have hp22 := (show GOwn B0 3 1 l6 (at_.map fun z => .int .i64 z) (V 22) (D 22) W from hG.hP 22 (hA ⟨22, .data⟩ (by simp) rfl))
    obtain ⟨sl26, os26, ks26, ds26, dt26⟩ := (show GSn B0 ssn (V 26) (D 26) W from hG.hP 26 (hA ⟨26, .data⟩ (by simp) rfl))
    simp only [e17]
    obtain ⟨xa22, xc22, e22⟩ := sliceC hp22.1
    obtain ⟨xa26, xc26, e26⟩ := sliceC os26
    rw [e22, e26]
    go_simp
    refine hK.out _ _ (hG.pure hst hsym hL (.agg #[.int .i64 f, .slice xa22 l6 xc22, .slice xa26 sl26.length xc26]) (fun x hx => by simp only [depCk, List.mem_cons, List.not_mem_nil, or_false] at hx; rcases hx with rfl | rfl <;> first | exact hA ⟨22, .data⟩ (by simp) rfl | exact hA ⟨26, .data⟩ (by simp) rfl) (show putV V 27 (.agg #[.int .i64 f, .slice xa22 l6 xc22, .slice xa26 sl26.length xc26]) 27 = .agg #[.int .i64 f, putV V 27 (.agg #[.int .i64 f, .slice xa22 l6 xc22, .slice xa26 sl26.length xc26]) 22, putV V 27 (.agg #[.int .i64 f, .slice xa22 l6 xc22, .slice xa26 sl26.length xc26]) 26] by simp [putV, e22, e26]) ?_)
    simp [putV, Act.put, e17, e22, e26]
  · intro L ac W hI hL hA K' hK
    obtain ⟨V, D, hG⟩ := hI
    obtain rfl := hG.act
    have e1 : V 1 = .int .i64 n := hG.hP 1 (hA ⟨1, .data⟩ (by simp) rfl)
    have e3 : V 3 = .bool op := hG.hP 3 (hA ⟨3, .data⟩ (by simp) rfl)
    have hp7 := (show GOwn B0 3 1 l2 (src.map fun z => .int .i64 z) (V 7) (D 7) W from hG.hP 7 (hA ⟨7, .data⟩ (by simp) rfl))
    have hp11 := (show GOwn B0 4 1 l3 (tsk.map fun z => .bool z) (V 11) (D 11) W from hG.hP 11 (hA ⟨11, .data⟩ (by simp) rfl))
    obtain ⟨sl14, os14, ks14, ds14, dt14⟩ := (show GSn B0 sn (V 14) (D 14) W from hG.hP 14 (hA ⟨14, .data⟩ (by simp) rfl))
    have r27 : V 27 = .agg #[.int .i64 f, V 22, V 26] := hG.hP 27 (hA ⟨27, .data⟩ (by simp) rfl)
    simp only [e1, e3]
    have l27 := hA ⟨27, .data⟩ (by simp) rfl
    have l22 := hG.dn 27 l27 22 (by simp [depCk])
    have l26 := hG.dn 27 l27 26 (by simp [depCk])
    have hp22 := (show GOwn B0 3 1 l6 (at_.map fun z => .int .i64 z) (V 22) (D 22) W from hG.hP 22 (l22))
    obtain ⟨sl26, os26, ks26, ds26, dt26⟩ := (show GSn B0 ssn (V 26) (D 26) W from hG.hP 26 (l26))
    obtain ⟨xa7, xc7, e7⟩ := sliceC hp7.1
    obtain ⟨xa11, xc11, e11⟩ := sliceC hp11.1
    obtain ⟨xa14, xc14, e14⟩ := sliceC os14
    obtain ⟨xa22, xc22, e22⟩ := sliceC hp22.1
    obtain ⟨xa26, xc26, e26⟩ := sliceC os26
    rw [e22, e26] at r27
    rw [e7, e11, e14, r27]
    go_simp
    refine hK.out _ _ (hG.pure hst hsym hL (.agg #[.int .i64 n, .bool op, .slice xa7 l2 xc7, .slice xa11 l3 xc11, .slice xa14 sl14.length xc14, .int .i64 f, .slice xa22 l6 xc22, .slice xa26 sl26.length xc26]) (fun x hx => by simp only [depCk, List.mem_cons, List.not_mem_nil, or_false] at hx; rcases hx with rfl | rfl | rfl | rfl | rfl | rfl <;> first | exact l27 | exact l22 | exact l26 | exact hA ⟨7, .data⟩ (by simp) rfl | exact hA ⟨11, .data⟩ (by simp) rfl | exact hA ⟨14, .data⟩ (by simp) rfl) (show putV V 28 (.agg #[.int .i64 n, .bool op, .slice xa7 l2 xc7, .slice xa11 l3 xc11, .slice xa14 sl14.length xc14, .int .i64 f, .slice xa22 l6 xc22, .slice xa26 sl26.length xc26]) 28 = .agg #[.int .i64 n, .bool op, putV V 28 (.agg #[.int .i64 n, .bool op, .slice xa7 l2 xc7, .slice xa11 l3 xc11, .slice xa14 sl14.length xc14, .int .i64 f, .slice xa22 l6 xc22, .slice xa26 sl26.length xc26]) 7, putV V 28 (.agg #[.int .i64 n, .bool op, .slice xa7 l2 xc7, .slice xa11 l3 xc11, .slice xa14 sl14.length xc14, .int .i64 f, .slice xa22 l6 xc22, .slice xa26 sl26.length xc26]) 11, putV V 28 (.agg #[.int .i64 n, .bool op, .slice xa7 l2 xc7, .slice xa11 l3 xc11, .slice xa14 sl14.length xc14, .int .i64 f, .slice xa22 l6 xc22, .slice xa26 sl26.length xc26]) 14, .int .i64 f, putV V 28 (.agg #[.int .i64 n, .bool op, .slice xa7 l2 xc7, .slice xa11 l3 xc11, .slice xa14 sl14.length xc14, .int .i64 f, .slice xa22 l6 xc22, .slice xa26 sl26.length xc26]) 22, putV V 28 (.agg #[.int .i64 n, .bool op, .slice xa7 l2 xc7, .slice xa11 l3 xc11, .slice xa14 sl14.length xc14, .int .i64 f, .slice xa22 l6 xc22, .slice xa26 sl26.length xc26]) 26] by simp [putV, e7, e11, e14, e22, e26]) ?_)
    simp [putV, Act.put, e1, e3, e7, e11, e14, e22, e26, r27]
  · intro L ac W hI hA K' hK
    obtain ⟨V, D, hG⟩ := hI
    obtain rfl := hG.act
    have L7 := hA 7 (by decide)
    have L11 := hA 11 (by decide)
    have L14 := hA 14 (by decide)
    have L22 := hA 22 (by decide)
    have L26 := hA 26 (by decide)
    have q : V 28 = .agg #[.int .i64 n, .bool op, V 7, V 11, V 14, .int .i64 f, V 22, V 26] := hG.hP 28 (hA 28 (by decide))
    have hp7 := (show GOwn B0 3 1 l2 (src.map fun z => .int .i64 z) (V 7) (D 7) W from hG.hP 7 (L7))
    have hp11 := (show GOwn B0 4 1 l3 (tsk.map fun z => .bool z) (V 11) (D 11) W from hG.hP 11 (L11))
    obtain ⟨sl14, os14, ks14, ds14, dt14⟩ := (show GSn B0 sn (V 14) (D 14) W from hG.hP 14 (L14))
    have hp22 := (show GOwn B0 3 1 l6 (at_.map fun z => .int .i64 z) (V 22) (D 22) W from hG.hP 22 (L22))
    obtain ⟨sl26, os26, ks26, ds26, dt26⟩ := (show GSn B0 ssn (V 26) (D 26) W from hG.hP 26 (L26))
    have HD : CkDis W B0 src tsk sn at_ ssn (V 7) (V 11) (V 14) (V 22) (V 26) sl14 sl26 := by
      refine ⟨by rw [h2.1]; exact hp7.1, by rw [h3.1]; exact hp11.1, os14, ks14, by rw [h6.1]; exact hp22.1, os26, ks26, ?_, ?_, ?_, ?_, ?_⟩
      · intro b x y
        exact hG.dis 7 22 b L7 L22 (by decide) (by decide) (hp7.2 b x) (hp22.2 b y)
      · intro b x y
        exact hG.dis 14 26 b L14 L26 (by decide) (by decide) (ds14 b x) (ds26 b y)
      · intro i p hp b hb
        rcases hp with hp | hp
        · exact ⟨fun e => hG.dis 7 14 b L7 L14 (by decide) (by decide) (hp7.2 b e) (dt14 i p hp b (Or.inr hb)), fun e => hG.dis 22 14 b L22 L14 (by decide) (by decide) (hp22.2 b e) (dt14 i p hp b (Or.inr hb))⟩
        · exact ⟨fun e => hG.dis 7 26 b L7 L26 (by decide) (by decide) (hp7.2 b e) (dt26 i p hp b (Or.inr hb)), fun e => hG.dis 22 26 b L22 L26 (by decide) (by decide) (hp22.2 b e) (dt26 i p hp b (Or.inr hb))⟩
      · intro i j p q' hp hq b x y
        exact hG.dis 14 26 b L14 L26 (by decide) (by decide) (dt14 i p hp b (Or.inl x)) (dt26 j q' hq b (Or.inl y))
      · intro i j p q' hp hq b x y
        exact hG.dis 14 26 b L14 L26 (by decide) (by decide) (dt14 i p hp b (Or.inr x)) (dt26 j q' hq b (Or.inr y))
    obtain ⟨xa7, xc7, e7⟩ := sliceC hp7.1
    obtain ⟨xa11, xc11, e11⟩ := sliceC hp11.1
    obtain ⟨xa14, xc14, e14⟩ := sliceC os14
    obtain ⟨xa22, xc22, e22⟩ := sliceC hp22.1
    obtain ⟨xa26, xc26, e26⟩ := sliceC os26
    rw [e7, e11, e14, e22, e26] at q HD
    have HDh := hide HD
    have hbF : Below w.heap.size w W := hb00.trans (hG.bel.mono hw00)
    have hXW := (hG.bel.block (w.heap.size + 1) (by omega)).trans hX0
    have y0 : W.cell? ⟨w.heap.size + 1, 0, none⟩ = some (.int .i64 0) := by simp [World.cell?, hXW, go_sem]
    have f0 : W.frozen? ⟨w.heap.size + 1, 0, none⟩ = false := by simp [World.frozen?, hXW, go_sem]
    have y1 : W.cell? ⟨w.heap.size + 1, 1, none⟩ = some (.bool false) := by simp [World.cell?, hXW, go_sem]
    have f1 : W.frozen? ⟨w.heap.size + 1, 1, none⟩ = false := by simp [World.frozen?, hXW, go_sem]
    have y2 : W.cell? ⟨w.heap.size + 1, 2, none⟩ = some (.slice none 0 0) := by simp [World.cell?, hXW, go_sem]
    have f2 : W.frozen? ⟨w.heap.size + 1, 2, none⟩ = false := by simp [World.frozen?, hXW, go_sem]
    have y3 : W.cell? ⟨w.heap.size + 1, 3, none⟩ = some (.slice none 0 0) := by simp [World.cell?, hXW, go_sem]
    have f3 : W.frozen? ⟨w.heap.size + 1, 3, none⟩ = false := by simp [World.frozen?, hXW, go_sem]
    have y4 : W.cell? ⟨w.heap.size + 1, 4, none⟩ = some (.slice none 0 0) := by simp [World.cell?, hXW, go_sem]
    have f4 : W.frozen? ⟨w.heap.size + 1, 4, none⟩ = false := by simp [World.frozen?, hXW, go_sem]
    have y5 : W.cell? ⟨w.heap.size + 1, 5, none⟩ = some (.int .i64 0) := by simp [World.cell?, hXW, go_sem]
    have f5 : W.frozen? ⟨w.heap.size + 1, 5, none⟩ = false := by simp [World.frozen?, hXW, go_sem]
    have y6 : W.cell? ⟨w.heap.size + 1, 6, none⟩ = some (.slice none 0 0) := by simp [World.cell?, hXW, go_sem]
    have f6 : W.frozen? ⟨w.heap.size + 1, 6, none⟩ = false := by simp [World.frozen?, hXW, go_sem]
    have y7 : W.cell? ⟨w.heap.size + 1, 7, none⟩ = some (.slice none 0 0) := by simp [World.cell?, hXW, go_sem]
    have f7 : W.frozen? ⟨w.heap.size + 1, 7, none⟩ = false := by simp [World.frozen?, hXW, go_sem]
    simp only [q]
    clear hG hst hXW hX0 x0 x1 x2 x3 x4 x5 x6 x7 hp7 hp11 hp22 os14 ks14 ds14 dt14 os26 ks26 ds26 dt26 q HD hA L7 L11 L14 L22 L26
    go_simp
    refine hK.out _ _ ?_
    go_wp2
    refine bodyPost_ret (v := .agg #[.int .i64 n, .bool op, .slice xa7 l2 xc7, .slice xa11 l3 xc11, .slice xa14 sl14.length xc14, .int .i64 f, .slice xa22 l6 xc22, .slice xa26 sl26.length xc26]) (by simp (maxDischargeDepth := 9) [results, Tryz.results20, go_sem, *]) rfl ⟨_, _, _, _, _, sl14, sl26, rfl, ?_, ?_⟩
    · refine CkDis.base (B := B0) ?_ (by omega)
      repeat (first | (with_reducible exact unhide HDh) | (with_reducible refine CkDis.setC ?_ (by simp; omega)))
    · repeat (first | (with_reducible exact hbF) | (with_reducible refine bel_set ?_ (by simp) _))
end Go.Proofs.YtbjhpiannjepkaaGreat
