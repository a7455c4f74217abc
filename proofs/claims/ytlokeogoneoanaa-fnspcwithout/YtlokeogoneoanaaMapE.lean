/- Proved here, for any program: an entry of a map of the call's own, taken and stored behind it ('m[k]++'), comes to a store. -/
import Derived.Test.YtlokeogoneoanaaMapF
import Derived.WideKeyEntry
namespace Go.Proofs.Ytlokeogoneoanaa
open Go.ChangeShapes Go.WideShapes Go.ChangeAt Go.RowKit Go.Maps
set_option linter.unusedVariables false

theorem nodup_same {α β : Type} (f : α → β) {a b : α} : ∀ {l : List α}, (l.map f).Nodup → a ∈ l → b ∈ l → f a = f b → a = b
  | [], _, h, _, _ => by simp at h
  | x :: r, hn, ha, hb, e => by
    simp only [List.map_cons, List.nodup_cons] at hn
    rcases List.mem_cons.1 ha with e1 | ha1
    · rcases List.mem_cons.1 hb with e2 | hb1
      · rw [e1, e2]
      · exact (hn.1 (List.mem_map.2 ⟨b, hb1, by rw [← e, e1]⟩)).elim
    · rcases List.mem_cons.1 hb with e2 | hb1
      · exact (hn.1 (List.mem_map.2 ⟨a, ha1, by rw [e, e2]⟩)).elim
      · exact nodup_same f hn.2 ha1 hb1 e
theorem set_twice (w : World) (b : Nat) (o o' : Obj) : ChangeMaps.setBlock (ChangeMaps.setBlock w b o) b o' = ChangeMaps.setBlock w b o' := by
  unfold ChangeMaps.setBlock
  simp

section
variable {H : Type} {P : Program} {w : World} {t k e : TypeId} {R : Value → Option (DataW H × List MemPlace)} {b : Nat} {es : Array MapEntry} {clock : Nat}
/-- Behind an entry that was taken a look-up tells the same. -/
theorem look_behind (L : WideMaps.KeyLaw P k) (ht : P.underlying t = some (.map k e)) {z : Value} (hz : ∀ u : World, (zeroValue e).run P u = .ok z u) (hb : w.heap[b]? = some (.map es clock)) (F : WideElems.Fit P k R es clock) {key : Value} {kl : Lit} (hkey : keyOf P k key = some kl) {v0 : Value} {st : Nat} {w1 : World} (h : (Instr.mapEntry t (.map (some b)) key).run P w = .ok (.tuple #[v0, goInt st]) w1) : (Instr.lookup t (.map (some b)) key false).run P w1 = .ok v0 w1 := by
  rcases L.find w hkey es.toList F.keys with ⟨h1, h2⟩ | ⟨j, e0, h1, h2, h3⟩
  · simp [Instr.mapEntry, run_underlying ht, MapKept.run_getObj_map hb, L.check w false hkey, h1, hz, MapKept.run_setObj_map _ hb, Result.andThen] at h
    obtain ⟨⟨rfl, _⟩, rfl⟩ := h
    have hb1 := ChangeMaps.heap_setBlock_same hb (.map (es.push ⟨key, z, clock⟩) (clock + 1))
    unfold ChangeMaps.setBlock at hb1
    rcases L.find { w with heap := w.heap.setIfInBounds b (.map (es.push ⟨key, z, clock⟩) (clock + 1)) } hkey (es.push ⟨key, z, clock⟩).toList (fun x hx => by
      rw [Array.toList_push] at hx
      rcases List.mem_append.1 hx with hx | hx
      · exact F.keys x hx
      · obtain rfl := List.mem_singleton.1 hx
        exact ⟨kl, hkey⟩) with ⟨_, g2⟩ | ⟨j, e0, g1, g2, g3⟩
    · exact absurd rfl (g2 ⟨key, z, clock⟩ (by simp))
    · have he : e0.val = z := by
        rw [Array.toList_push] at g2
        rcases List.mem_append.1 (List.mem_of_getElem? g2) with hx | hx
        · exact absurd g3 (h2 e0 hx)
        · rw [List.mem_singleton.1 hx]
      rw [Array.toList_push] at g1
      simp [Instr.lookup, run_underlying ht, MapKept.run_getObj_map hb1, L.check _ _ hkey, g1, he, Result.andThen]
  · have hj : es[j]? = some e0 := by simpa using h2
    have hsame : es.modify j (fun e => { e with key := key }) = es := by
      apply Array.ext'
      rw [Array.toList_modify, ChangeMaps.modify_eq_set _ _ _ _ h2]
      have : ({ e0 with key := key } : MapEntry) = e0 := by rw [← h3]
      rw [this]
      exact WideElems.set_self _ _ _ h2
    simp [Instr.mapEntry, run_underlying ht, MapKept.run_getObj_map hb, L.check w false hkey, h1, hj, h3, L.stays w hkey, hsame, MapKept.run_setObj_map _ hb, Result.andThen] at h
    obtain ⟨⟨rfl, _⟩, rfl⟩ := h
    have hb1 := ChangeMaps.heap_setBlock_same hb (.map es clock)
    unfold ChangeMaps.setBlock at hb1
    rcases L.find { w with heap := w.heap.setIfInBounds b (.map es clock) } hkey es.toList F.keys with ⟨_, g2⟩ | ⟨j', e1, g1, g2, g3⟩
    · exact absurd h3 (g2 e0 (List.mem_of_getElem? h2))
    · obtain rfl := nodup_same (fun x : MapEntry => x.key) F.stamped.2.2 (List.mem_of_getElem? g2) (List.mem_of_getElem? h2) (g3.trans h3.symm)
      simp [Instr.lookup, run_underlying ht, MapKept.run_getObj_map hb1, L.check _ _ hkey, g1, Result.andThen]
end
section
variable {κ : Type} {P : Program} {k : TypeId} {R : Value → Option (DataW Unit × List MemPlace)} {zd : DataW Unit} {b n : Nat} {kv : κ → Value} {ok : κ → Prop} {f : κ → DataW Unit} {w : World}
/-- What comes of an entry that is taken: its value, a stamp, and behind that a store. -/
theorem OwnsFn.entry [DecidableEq κ] {t e : TypeId} (h : OwnsFn w P k R zd b n kv ok f) (L : WideMaps.KeyLaw P k) (ht : P.underlying t = some (.map k e)) (hn : n < maxLen) {z : Value} (hz : ∀ u : World, (zeroValue e).run P u = .ok z u) {zp : List MemPlace} (hzd : R z = some (zd, zp)) (hk : ∀ q, ok q → ∃ kl, keyOf P k (kv q) = some kl) (hinj : ∀ q q', kv q = kv q' → q = q') (q : κ) (hq : ok q) :
    ∃ v0 st w1 ps, (Instr.mapEntry t (.map (some b)) (kv q)).run P w = .ok (.tuple #[v0, goInt st]) w1 ∧ R v0 = some (f q, ps) ∧ w.grownBy w1 (some b) ∧ (Instr.lookup t (.map (some b)) (kv q) false).run P w1 = .ok v0 w1 ∧
      ∀ val d ps', R val = some (d, ps') → ∃ w2, (Instr.entryStore t (.map (some b)) (goInt st) val).run P w1 = .ok () w2 ∧ OwnsFn w2 P k R zd b (n + 1) kv ok (fun x => if x = q then d else f x) ∧ w.grownBy w2 (some b) := by
  have K := Keyed.of_law L
  have h0 := h
  obtain ⟨D, h, hf⟩ := h
  obtain ⟨kl, hkl⟩ := hk q hq
  have hfq := hf q hq kl hkl
  obtain ⟨es, clock, hb, F, hs, rfl⟩ := h
  obtain ⟨v0, st, es1, clock1, h1, h2, h3⟩ := WideElems.entry_then_store L ht hz hb F hkl
  have hR : ∃ ps, R v0 = some (f q, ps) := by
    rcases fit_look false K ht (hz w) hb F hkl with ⟨_, hno, hat⟩ | ⟨e0, y, hm, hke, _, hRv, hat, _⟩
    · rcases h2 with ⟨e1, hm1, hk1, _⟩ | ⟨_, rfl⟩
      · exact absurd hk1 (hno e1 hm1)
      · exact ⟨zp, by rw [hzd, ← hfq, hat zd]⟩
    · rcases h2 with ⟨e1, hm1, hk1, rfl⟩ | ⟨hno, _⟩
      · obtain rfl := nodup_same (fun x : MapEntry => x.key) F.stamped.2.2 hm hm1 (hke.trans hk1.symm)
        exact ⟨y.2, by rw [hRv, ← hfq, hat zd]⟩
      · exact absurd hke (hno e0 hm)
  obtain ⟨ps, hR⟩ := hR
  refine ⟨v0, st, _, ps, h1, hR, ⟨rfl, rfl, rfl, by simp [ChangeMaps.setBlock], fun i _ hi => ChangeMaps.heap_setBlock_other hb _ (fun e => hi (by rw [e]))⟩, look_behind L ht hz hb F hkl h1, fun val d ps' hv => ?_⟩
  obtain ⟨w', u1, u2, u3⟩ := h0.store K ht hn hk hinj q hq hv
  obtain ⟨es', clock', s1, s2⟩ := h3 _ val (ChangeMaps.heap_setBlock_same hb _)
  rw [set_twice] at s1
  rw [u1] at s2
  cases s2
  exact ⟨_, s1, u2, u3⟩
end
end Go.Proofs.Ytlokeogoneoanaa
