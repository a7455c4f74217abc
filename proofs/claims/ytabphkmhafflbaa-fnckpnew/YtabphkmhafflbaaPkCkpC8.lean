/- Laid together: what the claim needs of the texts that were built one by one. -/
import Derived.Test.YtabphkmhafflbaaPkGrowInv
import Derived.Test.YtabphkmhafflbaaPkRegL
import Derived.Test.YtabphkmhafflbaaPkCkpC5
import Derived.Test.YtabphkmhafflbaaPkBase
namespace Go.Proofs.Ytabphkmhafflbaa
open Go.ChangeShapes Go.WideShapes Go.ChangeAt Go.RowKit Go.Deep
set_option linter.unusedVariables false

theorem CopS.base {W : World} {B B' : Nat} {l : List (Int × SnV)} {xs : List SnD} (h : CopS W B l xs) (hB : B' ≤ B) : CopS W B' l xs :=
  ⟨h.len, h.at_, fun i q x hq hx => World.ownsRow.mono (h.r1 i q x hq hx) hB, fun i q x hq hx => World.ownsRow.mono (h.r2 i q x hq hx) hB, h.d1, h.d2⟩

theorem CopS.rngs {W : World} {B : Nat} {l : List (Int × SnV)} {xs : List SnD} (h : CopS W B l xs) (i : Nat) (p : Int × SnV) (hp : l[i]? = some p) (b : Nat) (hb : (Value.slice p.2.a1 p.2.l1 p.2.c1).ownBlock = some b ∨ (Value.slice p.2.a2 p.2.l2 p.2.c2).ownBlock = some b) : B ≤ b ∧ b < W.heap.size := by
  have hi : i < xs.length := by have := (List.getElem?_eq_some_iff.1 hp).1; have := h.len; omega
  rcases hb with hb | hb
  · exact World.ownsRow.lt (h.r1 i p xs[i] hp (List.getElem?_eq_getElem hi)) b hb
  · exact World.ownsRow.lt (h.r2 i p xs[i] hp (List.getElem?_eq_getElem hi)) b hb

/-- Checkpoints in memory of their own, no two parts in one block. -/
structure CkDis (W : World) (B : Nat) (src : List Int) (tsk : List Bool) (sn : List SnD) (at_ : List Int) (ssn : List SnD) (v2 v3 v4 v6 v7 : Value) (l4 l7 : List (Int × SnV)) : Prop where
  o2 : W.ownsRow B 3 1 v2 src.length (src.map fun z => .int .i64 z)
  o3 : W.ownsRow B 4 1 v3 tsk.length (tsk.map fun z => .bool z)
  o4 : OwnSn W B v4 l4
  k4 : CopS W B l4 sn
  o6 : W.ownsRow B 3 1 v6 at_.length (at_.map fun z => .int .i64 z)
  o7 : OwnSn W B v7 l7
  k7 : CopS W B l7 ssn
  d26 : ∀ b, v2.ownBlock = some b → v6.ownBlock ≠ some b
  d47 : ∀ b, v4.ownBlock = some b → v7.ownBlock ≠ some b
  dm : ∀ (i : Nat) (p : Int × SnV), l4[i]? = some p ∨ l7[i]? = some p → ∀ b, (Value.slice p.2.a2 p.2.l2 p.2.c2).ownBlock = some b → v2.ownBlock ≠ some b ∧ v6.ownBlock ≠ some b
  dr : ∀ (i j : Nat) (p q : Int × SnV), l4[i]? = some p → l7[j]? = some q → ∀ b, (Value.slice p.2.a1 p.2.l1 p.2.c1).ownBlock = some b → (Value.slice q.2.a1 q.2.l1 q.2.c1).ownBlock ≠ some b
  dk : ∀ (i j : Nat) (p q : Int × SnV), l4[i]? = some p → l7[j]? = some q → ∀ b, (Value.slice p.2.a2 p.2.l2 p.2.c2).ownBlock = some b → (Value.slice q.2.a2 q.2.l2 q.2.c2).ownBlock ≠ some b

theorem CkDis.setC {W : World} {B : Nat} {src : List Int} {tsk : List Bool} {sn : List SnD} {at_ : List Int} {ssn : List SnD} {v2 v3 v4 v6 v7 : Value} {l4 l7 : List (Int × SnV)} {p : Addr} {u : Value} (h : CkDis W B src tsk sn at_ ssn v2 v3 v4 v6 v7 l4 l7) (hp : p.block < B) : CkDis (W.setCell p u) B src tsk sn at_ ssn v2 v3 v4 v6 v7 l4 l7 :=
  ⟨own_setC h.o2 hp, own_setC h.o3 hp, own_setC h.o4 hp, h.k4.setC hp, own_setC h.o6 hp, own_setC h.o7 hp, h.k7.setC hp, h.d26, h.d47, h.dm, h.dr, h.dk⟩

theorem CkDis.bel {W W' : World} {B : Nat} {src : List Int} {tsk : List Bool} {sn : List SnD} {at_ : List Int} {ssn : List SnD} {v2 v3 v4 v6 v7 : Value} {l4 l7 : List (Int × SnV)} (h : CkDis W B src tsk sn at_ ssn v2 v3 v4 v6 v7 l4 l7) (hb : Below W.heap.size W W') : CkDis W' B src tsk sn at_ ssn v2 v3 v4 v6 v7 l4 l7 :=
  ⟨own_bel h.o2 hb, own_bel h.o3 hb, own_bel h.o4 hb, h.k4.below hb, own_bel h.o6 hb, own_bel h.o7 hb, h.k7.below hb, h.d26, h.d47, h.dm, h.dr, h.dk⟩

theorem CkDis.base {W : World} {B B' : Nat} {src : List Int} {tsk : List Bool} {sn : List SnD} {at_ : List Int} {ssn : List SnD} {v2 v3 v4 v6 v7 : Value} {l4 l7 : List (Int × SnV)} (h : CkDis W B src tsk sn at_ ssn v2 v3 v4 v6 v7 l4 l7) (hB : B' ≤ B) : CkDis W B' src tsk sn at_ ssn v2 v3 v4 v6 v7 l4 l7 :=
  ⟨World.ownsRow.mono h.o2 hB, World.ownsRow.mono h.o3 hB, World.ownsRow.mono h.o4 hB, h.k4.base hB, World.ownsRow.mono h.o6 hB, World.ownsRow.mono h.o7 hB, h.k7.base hB, h.d26, h.d47, h.dm, h.dr, h.dk⟩

theorem CkOwn.dis {W : World} {B : Nat} {src : List Int} {tsk : List Bool} {sn : List SnD} {at_ : List Int} {ssn : List SnD} {v2 v3 v4 v6 v7 : Value} {l4 l7 : List (Int × SnV)} {B1 B2 B3 B4 : Nat} (h : CkOwn W B src tsk sn at_ ssn v2 v3 v4 v6 v7 l4 l7 B1 B2 B3 B4) : CkDis W B src tsk sn at_ ssn v2 v3 v4 v6 v7 l4 l7 := by
  obtain ⟨h1, h2, h3, h4⟩ := h.le
  refine ⟨h.o2, World.ownsRow.mono h.o3 (by omega), World.ownsRow.mono h.o4 (by omega), h.k4.base (by omega), World.ownsRow.mono h.o6 (by omega), World.ownsRow.mono h.o7 (by omega), h.k7.base (by omega), ?_, ?_, ?_, ?_, ?_⟩
  · intro b x y; have := h.u2 b x; have := (World.ownsRow.lt h.o6 b y).1; omega
  · intro b x y; have := h.u4 b x; have := (World.ownsRow.lt h.o7 b y).1; omega
  · intro i p hp b hb
    rcases hp with hp | hp
    · have r := h.k4.rngs i p hp b (Or.inr hb)
      have r2 := (h.s4 i p hp).2 b hb
      exact ⟨fun e => by have := h.u2 b e; omega, fun e => by have := (World.ownsRow.lt h.o6 b e).1; omega⟩
    · have r := h.k7.rngs i p hp b (Or.inr hb)
      exact ⟨fun e => by have := h.u2 b e; omega, fun e => by have := h.u6 b e; omega⟩
  · intro i j p q hp hq b x y
    have r := (h.s4 i p hp).1 b x
    have r2 := h.k7.rngs j q hq b (Or.inl y)
    omega
  · intro i j p q hp hq b x y
    have r := (h.s4 i p hp).2 b x
    have r2 := h.k7.rngs j q hq b (Or.inr y)
    omega

/-- Copied checkpoints, as they come back. -/
def CopD (w : World) (n : Int) (op : Bool) (src : List Int) (tsk : List Bool) (sn : List SnD) (f : Int) (at_ : List Int) (ssn : List SnD) (e : Ending) (w' : World) : Prop := ∃ (v2 v3 v4 v6 v7 : Value) (l4 l7 : List (Int × SnV)), e = .returned (.agg #[.int .i64 n, .bool op, v2, v3, v4, .int .i64 f, v6, v7]) ∧ CkDis w' w.heap.size src tsk sn at_ ssn v2 v3 v4 v6 v7 l4 l7 ∧ Below w.heap.size w w'

theorem CopK.dis {w : World} {n : Int} {op : Bool} {src : List Int} {tsk : List Bool} {sn : List SnD} {f : Int} {at_ : List Int} {ssn : List SnD} {e : Ending} {w' : World} (h : CopK w n op src tsk sn f at_ ssn e w') : CopD w n op src tsk sn f at_ ssn e w' := by
  obtain ⟨v2, v3, v4, v6, v7, l4, l7, B1, B2, B3, B4, he, hc, hb⟩ := h
  exact ⟨v2, v3, v4, v6, v7, l4, l7, he, hc.dis, hb⟩
end Go.Proofs.Ytabphkmhafflbaa
