/- Proved here, for any program: a map of the call's own, as a partial function of its keys: made, looked up, stored into, taken out of. -/
import Derived.Test.YtflignpbboiahaaMapF
namespace Go.Proofs.Ytflignpbboiahaa
open Go.ChangeShapes Go.WideShapes Go.ChangeAt Go.RowKit Go.Maps
set_option linter.unusedVariables false

section
variable {κ V : Type} {P : Program} {k : TypeId} {R : Value → Option (DataW Value × List MemPlace)} {b n : Nat} {kv : κ → Value} {ok : κ → Prop} {dv : V → DataW Value} {m : κ → Option V} {w : World}

/-- A map's datum tells, at each key that is ok, what m says: a value, or nothing. -/
def OpD (P : Program) (k : TypeId) (kv : κ → Value) (ok : κ → Prop) (dv : V → DataW Value) (D : DataW Value) (m : κ → Option V) : Prop :=
  ∀ q, ok q → ∀ kl, keyOf P k (kv q) = some kl → (∀ a, m q = some a → ∀ zd, D.atKey kl zd = dv a) ∧ (m q = none → has D kl = false)
/-- Block b is a map of at most n entries that tells what m says. -/
def OwnsOp (w : World) (P : Program) (k : TypeId) (R : Value → Option (DataW Value × List MemPlace)) (b n : Nat) (kv : κ → Value) (ok : κ → Prop) (dv : V → DataW Value) (m : κ → Option V) : Prop :=
  ∃ D, w.ownsMap P k R b n D ∧ OpD P k kv ok dv D m

theorem OwnsOp.made (w : World) (P : Program) (k : TypeId) (R : Value → Option (DataW Value × List MemPlace)) (kv : κ → Value) (ok : κ → Prop) (dv : V → DataW Value) : OwnsOp (w.alloc (.map #[] 0)) P k R w.heap.size 0 kv ok dv (fun _ => none) :=
  ⟨_, World.ownsMap_made w P k R, fun _ _ _ _ => ⟨fun _ h => (by cases h), fun _ => rfl⟩⟩
theorem OwnsOp.lt (h : OwnsOp w P k R b n kv ok dv m) : b < w.heap.size := by
  obtain ⟨D, h, _⟩ := h
  exact h.lt
theorem OwnsOp.below {w' : World} (h : OwnsOp w P k R b n kv ok dv m) (hb : Below w.heap.size w w') : OwnsOp w' P k R b n kv ok dv m := by
  obtain ⟨D, h, hf⟩ := h
  exact ⟨D, h.kept ⟨hb.os, hb.tape, hb.output, hb.size, fun k hk _ => hb.block k hk⟩ (row := none) (by simp), hf⟩
theorem OwnsOp.grown {w' : World} {row : Option Nat} (h : OwnsOp w P k R b n kv ok dv m) (hg : w.grownBy w' row) (hne : some b ≠ row) : OwnsOp w' P k R b n kv ok dv m := by
  obtain ⟨D, h, hf⟩ := h
  exact ⟨D, h.kept hg hne, hf⟩
theorem OwnsOp.drew (h : OwnsOp w P k R b n kv ok dv m) : OwnsOp w.drew P k R b n kv ok dv m := h
theorem OwnsOp.more {n2 : Nat} (h : OwnsOp w P k R b n kv ok dv m) (hn : n ≤ n2) : OwnsOp w P k R b n2 kv ok dv m := by
  obtain ⟨D, h, hf⟩ := h
  exact ⟨D, h.mono hn, hf⟩
/-- A map that lies where it lay. -/
theorem OwnsOp.keep {w' : World} (h : OwnsOp w P k R b n kv ok dv m) (hb : w'.heap[b]? = w.heap[b]?) : OwnsOp w' P k R b n kv ok dv m := by
  obtain ⟨D, ⟨es, clock, h1, h2⟩, hf⟩ := h
  exact ⟨D, ⟨es, clock, hb.trans h1, h2⟩, hf⟩
theorem OwnsOp.look {t e : TypeId} (h : OwnsOp w P k R b n kv ok dv m) (K : Keyed P k) (ht : P.underlying t = some (.map k e)) {z : Value} (hz : (zeroValue e).run P w = .ok z w) {zd : DataW Value} {zp : List MemPlace} (hzd : R z = some (zd, zp)) (hk : ∀ q, ok q → ∃ kl, keyOf P k (kv q) = some kl) (q : κ) (hq : ok q) :
    ∃ v ps, (Instr.lookup t (.map (some b)) (kv q) false).run P w = .ok v w ∧ R v = some ((m q).elim zd dv, ps) := by
  obtain ⟨D, h, hf⟩ := h
  obtain ⟨kl, hkl⟩ := hk q hq
  obtain ⟨v, ps, h1, h2⟩ := h.lookup K ht hz hzd hkl
  refine ⟨v, ps, h1, ?_⟩
  rw [h2]
  obtain ⟨f1, f2⟩ := hf q hq kl hkl
  cases hm : m q with
  | none => rw [atKey_of_not_has (f2 hm)]; rfl
  | some a => rw [f1 a hm]; rfl
theorem OwnsOp.store [DecidableEq κ] {t e : TypeId} (h : OwnsOp w P k R b n kv ok dv m) (K : Keyed P k) (ht : P.underlying t = some (.map k e)) (hn : n < maxLen) (hk : ∀ q, ok q → ∃ kl, keyOf P k (kv q) = some kl) (hinj : ∀ q q', kv q = kv q' → q = q') (q : κ) (hq : ok q) {val : Value} (a : V) {ps : List MemPlace} (hv : R val = some (dv a, ps)) :
    ∃ w', (Instr.mapUpdate t (.map (some b)) (kv q) val).run P w = .ok () w' ∧ OwnsOp w' P k R b (n + 1) kv ok dv (fun x => if x = q then some a else m x) ∧ w.grownBy w' (some b) := by
  obtain ⟨D, h, hf⟩ := h
  obtain ⟨kl, hkl⟩ := hk q hq
  obtain ⟨w', h1, h2, h3⟩ := h.update K ht hn hkl hv
  refine ⟨w', h1, ⟨_, h2, fun x hx kx hkx => ?_⟩, h3⟩
  by_cases e : x = q
  · subst e
    rw [hkl] at hkx
    cases hkx
    simp only [if_true]
    exact ⟨fun a' ha' zd => by cases ha'; exact atKey_put_same h.isMap (K.key hkl) _ _, fun h9 => by cases h9⟩
  · have hne : kx ≠ kl := fun e' => e (hinj _ _ (K.inj (by rw [← e']; exact hkx) hkl))
    simp only [if_neg e]
    obtain ⟨f1, f2⟩ := hf x hx kx hkx
    exact ⟨fun a' ha' zd => by rw [atKey_put_other hne]; exact f1 a' ha' zd, fun h9 => by rw [has_put_other hne]; exact f2 h9⟩
theorem OwnsOp.drop [DecidableEq κ] {t e : TypeId} (h : OwnsOp w P k R b n kv ok dv m) (K : Keyed P k) (ht : P.underlying t = some (.map k e)) (hk : ∀ q, ok q → ∃ kl, keyOf P k (kv q) = some kl) (hinj : ∀ q q', kv q = kv q' → q = q') (q : κ) (hq : ok q) (ty : TypeId) :
    ∃ w', (Builtin.delete_ #[t, k] ty #[.map (some b), kv q]).run P w = .ok (.tuple #[]) w' ∧ OwnsOp w' P k R b n kv ok dv (fun x => if x = q then none else m x) ∧ w.grownBy w' (some b) := by
  obtain ⟨D, h, hf⟩ := h
  obtain ⟨kl, hkl⟩ := hk q hq
  obtain ⟨w', h1, h2, h3⟩ := h.drop K ht hkl ty
  refine ⟨w', h1, ⟨_, h2, fun x hx kx hkx => ?_⟩, h3.grown⟩
  by_cases e : x = q
  · subst e
    rw [hkl] at hkx
    cases hkx
    simp only [if_true]
    exact ⟨fun a' ha' => (by cases ha'), fun _ => has_del_same⟩
  · have hne : kx ≠ kl := fun e' => e (hinj _ _ (K.inj (by rw [← e']; exact hkx) hkl))
    simp only [if_neg e]
    obtain ⟨f1, f2⟩ := hf x hx kx hkx
    exact ⟨fun a' ha' zd => by rw [atKey_del_other hne]; exact f1 a' ha' zd, fun h9 => by rw [has_del_other hne]; exact f2 h9⟩

/-- Keys that have come: no key twice; a key has come just where the map has it and it is no longer to come. -/
def CollO (P : Program) (k : TypeId) (kv : κ → Value) (ok : κ → Prop) (D0 : DataW Value) (left : Lit → Bool) (ss : List κ) : Prop :=
  ss.Nodup ∧ (∀ q ∈ ss, ok q) ∧ ∀ q, ok q → ∀ kl, keyOf P k (kv q) = some kl → (q ∈ ss ↔ (has D0 kl = true ∧ left kl = false))
theorem CollO.start (P : Program) (k : TypeId) (kv : κ → Value) (ok : κ → Prop) (D0 : DataW Value) : CollO P k kv ok D0 (has D0) [] :=
  ⟨List.nodup_nil, fun q h => (by cases h), fun q _ kl _ => by cases has D0 kl <;> simp⟩
theorem CollO.step {D0 : DataW Value} {left : Lit → Bool} {ss : List κ} (h : CollO P k kv ok D0 left ss) (K : Keyed P k) (hinj : ∀ q q', kv q = kv q' → q = q') {x : κ} {kl : Lit} (hx : ok x) (hkl : keyOf P k (kv x) = some kl) {y : DataW Value} (hlk : left kl = true) (hat : ∀ zd, D0.atKey kl zd = y) :
    CollO P k kv ok D0 (fun z => left z && !z.sameKey kl) (ss ++ [x]) := by
  have hhas : has D0 kl = true := has_true_of_atKey hat
  have hnew : x ∉ ss := fun h9 => by have := ((h.2.2 x hx kl hkl).1 h9).2; rw [hlk] at this; cases this
  refine ⟨List.nodup_append.2 ⟨h.1, by simp, fun a ha b hb => by simp at hb; subst hb; exact fun e => hnew (e ▸ ha)⟩, fun q hq => ?_, fun q hq kq hkq => ?_⟩
  · rcases List.mem_append.1 hq with hq | hq
    · exact h.2.1 q hq
    · rw [List.mem_singleton.1 hq]; exact hx
  · by_cases e : q = x
    · subst e
      rw [hkl] at hkq
      cases hkq
      simp [hhas, WideAt.sameKey_self (K.key hkl)]
    · have hne : kq ≠ kl := fun e' => e (hinj _ _ (K.inj (by rw [← e']; exact hkq) hkl))
      have hs : kq.sameKey kl = false := by
        cases h9 : kq.sameKey kl
        · rfl
        · exact absurd (WideAt.sameKey_eq h9) hne
      simp [h.2.2 q hq kq hkq, e, hs]
/-- At the end: just the keys at which there is something. -/
theorem CollO.all {D0 : DataW Value} {left : Lit → Bool} {ss : List κ} (h : CollO P k kv ok D0 left ss) (hk : ∀ q, ok q → ∃ kl, keyOf P k (kv q) = some kl) (hD : OpD P k kv ok dv D0 m) (hl : ∀ kl, left kl = false) : ss.Nodup ∧ ∀ q, q ∈ ss ↔ (ok q ∧ m q ≠ none) := by
  refine ⟨h.1, fun q => ⟨fun hq => ?_, fun ⟨hq, hm⟩ => ?_⟩⟩
  · have hok := h.2.1 q hq
    obtain ⟨kl, hkl⟩ := hk q hok
    refine ⟨hok, fun h9 => ?_⟩
    have h1 := ((h.2.2 q hok kl hkl).1 hq).1
    rw [(hD q hok kl hkl).2 h9] at h1
    cases h1
  · obtain ⟨kl, hkl⟩ := hk q hq
    refine (h.2.2 q hq kl hkl).2 ⟨?_, hl kl⟩
    cases h9 : m q with
    | none => exact absurd h9 hm
    | some a => exact has_true_of_atKey ((hD q hq kl hkl).1 a h9)
end
end Go.Proofs.Ytflignpbboiahaa
