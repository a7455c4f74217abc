/- Proved here: what the operations of a drawing leave, and that it stays while others draw. -/
import Derived.Test.YtcokdcehjibanaaGreatDoorRegInv
import Derived.Test.YtcokdcehjibanaaGreatDoorDraw3
namespace Go.Proofs.YtcokdcehjibanaaGreatDoor
open Go.ChangeShapes Go.WideShapes Go.ChangeAt Go.RowKit
set_option linter.unusedVariables false

/-- What is told of each operation's value. -/
abbrev Prd := Value → World → Prop

def Pd (ps : List Prd) (j : Nat) (v : Value) (w : World) : Prop := ps.getD j (fun _ _ => False) v w

def PInt (lo hi : Int) : Prd := fun v _ => ∃ z : Int, v = .int .i64 z ∧ lo ≤ z ∧ z ≤ hi

def PAny : Prd := fun v _ => ∃ z : Int, v = .int .i64 z

def PBool : Prd := fun v _ => ∃ b : Bool, v = .bool b

def PIs (u : Value) : Prd := fun v _ => v = u

def PSl (R n : Nat) (cs : Array Value) : Prd := fun v w => ∃ g, v = .slice (some ⟨g, 0, none⟩) n n ∧ g ≠ R ∧ w.heap[g]? = some (.cells cs 3 (0, 0))

def PPt (R : Nat) (lo hi : Int) : Prd := fun v w => ∃ g k z, v = .pointer (some ⟨g, k, none⟩) ∧ g ≠ R ∧ w.cell? ⟨g, k, none⟩ = some (.int .i64 z) ∧ lo ≤ z ∧ z ≤ hi

def PBox (R B0 : Nat) (cs : Array Value) (ty : Nat) : Prd := fun v w => ∃ B, v = .pointer (some ⟨B, 0, none⟩) ∧ B ≠ R ∧ B0 ≤ B ∧ w.heap[B]? = some (.cells cs ty (0, 0))

/-- It stays. -/
def St (R : Nat) (q : Prd) : Prop := ∀ v w w', Kp R w w' → q v w → q v w'

theorem st_int (R : Nat) (lo hi : Int) : St R (PInt lo hi) := fun _ _ _ _ h => h

theorem st_any (R : Nat) : St R PAny := fun _ _ _ _ h => h

theorem st_bool (R : Nat) : St R PBool := fun _ _ _ _ h => h

theorem st_is (R : Nat) (u : Value) : St R (PIs u) := fun _ _ _ _ h => h

theorem heap_lt {w : World} {g : Nat} {o : Obj} (h : w.heap[g]? = some o) : g < w.heap.size := (Array.getElem?_eq_some_iff.1 h).1

theorem st_sl (R n : Nat) (cs : Array Value) : St R (PSl R n cs) := fun _ _ _ k ⟨g, e, hn, hb⟩ => ⟨g, e, hn, (k.all g (heap_lt hb) hn).trans hb⟩

theorem st_pt (R : Nat) (lo hi : Int) : St R (PPt R lo hi) := fun _ w _ k ⟨g, o, z, e, hn, hc, b⟩ => ⟨g, o, z, e, hn, (k.cell (World.block_lt_of_cell? w ⟨g, o, none⟩ hc) hn).trans hc, b⟩

theorem st_box (R B0 : Nat) (cs : Array Value) (ty : Nat) : St R (PBox R B0 cs ty) := fun _ _ _ k ⟨g, e, hn, h0, hb⟩ => ⟨g, e, hn, h0, (k.all g (heap_lt hb) hn).trans hb⟩

def AllSt (R : Nat) : List Prd → Prop
  | [] => True
  | q :: qs => St R q ∧ AllSt R qs

theorem allSt_at {R : Nat} : ∀ (ps : List Prd), AllSt R ps → ∀ j, St R (Pd ps j)
  | [], _, j => fun _ _ _ _ h => by simp [Pd] at h
  | q :: qs, h, 0 => h.1
  | q :: qs, h, j + 1 => allSt_at qs h.2 j

/-- How many of these are done. -/
def cntL (L : Nat → Bool) : List Nat → Nat
  | [] => 0
  | j :: js => (L j).toNat + cntL L js

theorem cntL_le (L : Nat → Bool) (i : Nat) : ∀ js, cntL L js ≤ cntL (more L i) js
  | [] => Nat.le_refl _
  | j :: js => by
    have h1 := cntL_le L i js
    have h2 : (L j).toNat ≤ (more L i j).toNat := by
      by_cases h : j = i
      · subst h; rw [more_self]; cases L j <;> decide
      · rw [more_ne h]; exact Nat.le_refl _
    simp only [cntL]
    omega

theorem cntL_lt {L : Nat → Bool} {i : Nat} (hL : L i = false) : ∀ js, i ∈ js → cntL L js + 1 ≤ cntL (more L i) js
  | [], h => by simp at h
  | j :: js, h => by
    have h1 := cntL_le L i js
    simp only [cntL]
    by_cases hji : j = i
    · subst hji
      rw [more_self, hL]
      simp
      omega
    · have h2 := cntL_lt hL js ((List.mem_cons.1 h).resolve_left (fun e => hji e.symm))
      rw [more_ne hji]
      omega

theorem cntL_len (L : Nat → Bool) : ∀ js, cntL L js ≤ js.length
  | [] => Nat.le_refl _
  | j :: js => by
    have h1 := cntL_len L js
    have h2 : (L j).toNat ≤ 1 := by cases L j <;> decide
    simp only [cntL, List.length_cons]
    omega

/-- The state of a region that draws. -/
def Drawing (R B0 : Nat) (a : Option Addr) (len cap p : Nat) (w0 : World) (ps : List Prd) (js : List Nat) (lit : (Nat → Value) → Array Value) (ds : List Deferred) (L : Nat → Bool) (ac : Act) (w : World) : Prop := ∃ V : Nat → Value, ac = ⟨lit V, ds⟩ ∧ (∀ j, L j = true → Pd ps j (V j) w) ∧ Kp R w0 w ∧ B0 ≤ w.heap.size ∧ R < B0 ∧ ∃ p', p' ≤ p + cntL L js ∧ Rd R w a len cap p'

def put1 (V : Nat → Value) (i : Nat) (v : Value) : Nat → Value := fun j => if j = i then v else V j

/-- An operation that leaves the world as it is. -/
theorem Drawing.pure {R B0 : Nat} {a : Option Addr} {len cap p : Nat} {w0 w : World} {ps : List Prd} {js : List Nat} {lit : (Nat → Value) → Array Value} {ds : List Deferred} {L : Nat → Bool} {ac : Act} {V : Nat → Value} {i : Nat} (v : Value) (hP : ∀ j, L j = true → Pd ps j (V j) w) (hk : Kp R w0 w) (hB : B0 ≤ w.heap.size) (hR : R < B0) (hr : ∃ p', p' ≤ p + cntL L js ∧ Rd R w a len cap p') (hv : Pd ps i v w) (ha : ac = ⟨lit (put1 V i v), ds⟩) : Drawing R B0 a len cap p w0 ps js lit ds (more L i) ac w := by
  obtain ⟨p', hp, hd⟩ := hr
  have hc := cntL_le L i js
  exact ⟨put1 V i v, ha, more_of hP (fun _ _ h => h) hv, hk, hB, hR, p', by omega, hd⟩

/-- An operation that makes one block more. -/
theorem Drawing.made {R B0 : Nat} {a : Option Addr} {len cap p : Nat} {w0 w : World} {ps : List Prd} {js : List Nat} {lit : (Nat → Value) → Array Value} {ds : List Deferred} {L : Nat → Bool} {ac : Act} {V : Nat → Value} {i : Nat} (v : Value) (o : Obj) (hst : AllSt R ps) (hP : ∀ j, L j = true → Pd ps j (V j) w) (hk : Kp R w0 w) (hB : B0 ≤ w.heap.size) (hR : R < B0) (hr : ∃ p', p' ≤ p + cntL L js ∧ Rd R w a len cap p') (hv : Pd ps i v (w.alloc o)) (ha : ac = ⟨lit (put1 V i v), ds⟩) : Drawing R B0 a len cap p w0 ps js lit ds (more L i) ac (w.alloc o) := by
  obtain ⟨p', hp, hd⟩ := hr
  have hc := cntL_le L i js
  have hb : Below w.heap.size w (w.alloc o) := bel_one _ _
  have hkp : Kp R w (w.alloc o) := Kp.of_bel (by omega) hb
  exact ⟨put1 V i v, ha, more_of hP (fun j u h => allSt_at ps hst j u w _ hkp h) hv, hk.trans hkp, by have := hb.size; omega, hR, p', by omega, hd.kp (by omega) hb⟩

/-- An operation that draws. -/
theorem Drawing.drew {R B0 : Nat} {a : Option Addr} {len cap p : Nat} {w0 w w' : World} {ps : List Prd} {js : List Nat} {lit : (Nat → Value) → Array Value} {ds : List Deferred} {L : Nat → Bool} {ac : Act} {V : Nat → Value} {i : Nat} (v : Value) (hst : AllSt R ps) (hP : ∀ j, L j = true → Pd ps j (V j) w) (hk : Kp R w0 w) (hB : B0 ≤ w.heap.size) (hR : R < B0) (hkp : Kp R w w') (hr : ∃ p', p' ≤ p + cntL (more L i) js ∧ Rd R w' a len cap p') (hv : Pd ps i v w') (ha : ac = ⟨lit (put1 V i v), ds⟩) : Drawing R B0 a len cap p w0 ps js lit ds (more L i) ac w' := 
  ⟨put1 V i v, ha, more_of hP (fun j u h => allSt_at ps hst j u w _ hkp h) hv, hk.trans hkp, Nat.le_trans hB hkp.low.size, hR, hr⟩

/-- A block that is there is written, and no other one. -/
theorem kp_setB {R B o : Nat} {w0 w : World} {v : Value} (h : Kp R w0 w) (hR : R < B) (hB : w0.heap.size ≤ B) : Kp R w0 (w.setCell ⟨B, o, none⟩ v) := ⟨h.low.setCell (p := ⟨B, o, none⟩) (show R ≤ B by omega) v, fun b hb hn => (Below.heap_setCell _ _ _ _ (show b ≠ B by omega)).trans (h.all b hb hn)⟩

theorem rd_setB {R B o : Nat} {w : World} {v : Value} {a : Option Addr} {len cap p : Nat} (h : Rd R w a len cap p) (hR : R < B) : Rd R (w.setCell ⟨B, o, none⟩ v) a len cap p := h.up ((Below.refl (R + 1) w).setCell (p := ⟨B, o, none⟩) (show R + 1 ≤ B by omega) v)

theorem cells_blk {w : World} {g n : Nat} {cs : Array Value} {ty : Nat} (h : w.heap[g]? = some (.cells cs ty (0, 0))) (i : Nat) : w.cell? ⟨g, i, none⟩ = cs[i]? ∧ w.frozen? ⟨g, i, none⟩ = false := by
  constructor <;> simp [World.cell?, World.frozen?, h, go_sem]
end Go.Proofs.YtcokdcehjibanaaGreatDoor
