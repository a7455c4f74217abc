/- Laid together: what the claim needs of the texts that were built one by one. -/
import Derived.Test.YtabphkmhafflbaaPkCkpN
import Derived.Test.YtabphkmhafflbaaPkBase
namespace Go.Proofs.Ytabphkmhafflbaa
open Go.ChangeShapes Go.WideShapes Go.ChangeAt Go.RowKit Go.Deep
set_option linter.unusedVariables false

def ckNew (s t : Nat) : CkD := ⟨0, false, List.replicate s (-1), List.replicate t false, List.replicate t ⟨0, [], []⟩, 0, List.replicate s 0, List.replicate t ⟨0, [], List.replicate s 0⟩⟩

def ckZero : CkD := ⟨0, false, [], [], [], 0, [], []⟩

/-- The value of checkpoints. -/
def ckV (v2 v3 v4 v6 v7 : Value) : Value := .agg #[.int .i64 0, .bool false, v2, v3, v4, .int .i64 0, v6, v7]

/-- New checkpoints in memory of their own. -/
def NewC (w : World) (D : CkD) (e : Ending) (w' : World) : Prop := ∃ (a2 : Option Addr) (c2 : Nat) (a3 : Option Addr) (c3 : Nat) (a4 : Option Addr) (c4 : Nat) (a6 : Option Addr) (c6 : Nat) (a7 : Option Addr) (c7 : Nat) (v4 v7 : List SnV), e = .returned (ckV (.slice a2 D.src.length c2) (.slice a3 D.tsk.length c3) (.slice a4 D.sn.length c4) (.slice a6 D.at_.length c6) (.slice a7 D.ssn.length c7)) ∧ (InB w' w.heap.size a2 D.src.length D.src ∧ BoB w' w.heap.size a3 D.tsk.length D.tsk ∧ SnB w' w.heap.size a4 D.sn.length D.sn ∧ InB w' w.heap.size a6 D.at_.length D.at_ ∧ SnB w' w.heap.size a7 D.ssn.length D.ssn) ∧ WrCk w' a2 D.src.length c2 a3 D.tsk.length c3 a4 D.sn.length c4 a6 D.at_.length c6 a7 D.ssn.length c7 v4 v7 ∧ (∀ b, CkS a2 D.src.length a3 D.tsk.length a4 D.sn.length a6 D.at_.length a7 D.ssn.length v4 v7 b → w.heap.size ≤ b) ∧ Below w.heap.size w w'

theorem rowC_own {a : Option Addr} {n cap b : Nat} (h : rowC a n = some b) : (Value.slice a n cap).ownBlock = some b := by
  unfold rowC at h
  split at h
  · cases h
  · cases a with
    | none => cases h
    | some q => exact h

theorem rowC_nil (a : Option Addr) (b : Nat) : rowC a 0 ≠ some b := by simp [rowC]

theorem rowOr_nil (a : Option Addr) (b : Nat) : rowOr a 0 ≠ some b := by simp [rowOr]

theorem rowSn_nil (a : Option Addr) (b : Nat) : rowSn a 0 ≠ some b := by simp [rowSn]

theorem snS_nil (a : Option Addr) (b : Nat) : ¬ SnS a 0 [] b := by
  rintro (h | ⟨i, v, h, _⟩)
  · exact rowSn_nil _ _ h
  · simp at h

theorem inB_nil (W : World) (B : Nat) (a : Option Addr) : InB W B a 0 [] := ⟨⟨rfl, Nat.zero_le _, Or.inl rfl⟩, fun _ _ h => absurd h (Nat.lt_irrefl _)⟩

theorem boB_nil (W : World) (B : Nat) (a : Option Addr) : BoB W B a 0 [] := ⟨⟨rfl, Nat.zero_le _, Or.inl rfl⟩, fun _ _ h => absurd h (Nat.lt_irrefl _)⟩

theorem orB_nil (W : World) (B : Nat) (a : Option Addr) : OrB W B a 0 [] := ⟨⟨rfl, Nat.zero_le _, Or.inl rfl⟩, fun _ _ h => absurd h (Nat.lt_irrefl _)⟩

theorem snB_nil (W : World) (B : Nat) (a : Option Addr) : SnB W B a 0 [] := ⟨rfl, Nat.zero_le _, Or.inl rfl⟩

theorem wrSn_nil (W : World) (a : Option Addr) (c : Nat) : WrSn W a 0 c [] := ⟨rfl, Or.inl rfl, fun i v h => by simp at h, fun i v h => by simp at h, fun i v h => by simp at h, fun i v b h => by simp at h, fun i v b h => by simp at h, fun i j v u b h => by simp at h⟩

/-- No checkpoints at all. -/
theorem zero_newC {w w' : World} (hb : Below w.heap.size w w') : NewC w ckZero (.returned (ckV (.slice none 0 0) (.slice none 0 0) (.slice none 0 0) (.slice none 0 0) (.slice none 0 0))) w' := by
  refine ⟨none, 0, none, 0, none, 0, none, 0, none, 0, [], [], rfl, ⟨inB_nil _ _ _, boB_nil _ _ _, snB_nil _ _ _, inB_nil _ _ _, snB_nil _ _ _⟩, ⟨Or.inl rfl, Or.inl rfl, wrSn_nil _ _ _, Or.inl rfl, wrSn_nil _ _ _, ⟨Nat.zero_le _, Nat.zero_le _, Nat.zero_le _, Nat.zero_le _, Nat.zero_le _⟩, fun b h => absurd h (rowC_nil _ _), fun b h => absurd h (rowC_nil _ _), fun b h => absurd h (snS_nil _ _), fun b h => absurd h (rowC_nil _ _)⟩, ?_, hb⟩
  rintro b (h | h | h | h | h)
  · exact absurd h (rowC_nil _ _)
  · exact absurd h (rowC_nil _ _)
  · exact absurd h (snS_nil _ _)
  · exact absurd h (rowC_nil _ _)
  · exact absurd h (snS_nil _ _)

/-- Where what is kept of a task at the beginning lies. -/
def mkV (s g : Nat) : SnV := ⟨none, 0, 0, some ⟨g, 0, none⟩, s, s⟩

def mkP (s g : Nat) : Int × SnV := (0, mkV s g)

/-- The marks at the beginning, in new memory. -/
def Mks (W : World) (B s : Nat) (gs : List Nat) : Prop := (∀ g ∈ gs, W.ownsRow B 3 1 (.slice (some ⟨g, 0, none⟩) s s) s (List.replicate s (.int .i64 0))) ∧ gs.Pairwise (· ≠ ·)

theorem mkV_has {s g b : Nat} (h : (mkV s g).has b) : b = g := by
  rcases h with h | h
  · exact absurd h (rowOr_nil _ _)
  · have h1 := rowC_own (cap := s) h
    exact (Option.some.inj h1).symm

theorem rep_map (n : Nat) (x : Int) : List.replicate n (Value.int .i64 x) = (List.replicate n x).map fun z => .int .i64 z := by simp

theorem rep_mapB (n : Nat) (x : Bool) : List.replicate n (Value.bool x) = (List.replicate n x).map fun z => .bool z := by simp

theorem get_rep {α : Type} {n i : Nat} {a x : α} (h : (List.replicate n a)[i]? = some x) : x = a := by
  rw [List.getElem?_replicate] at h
  split at h
  · exact (Option.some.inj h).symm
  · cases h

theorem newc_is {w W : World} {s t : Nat} {v2 v3 v4 v6 v7 : Value} {gs : List Nat} (h2 : W.ownsRow w.heap.size 3 1 v2 s (List.replicate s (.int .i64 (-1)))) (h3 : W.ownsRow w.heap.size 4 1 v3 t (List.replicate t (.bool false))) (h4 : W.ownsRow w.heap.size 48 3 v4 t (flatSV (List.replicate t noSn))) (h6 : W.ownsRow w.heap.size 3 1 v6 s (List.replicate s (.int .i64 0))) (h7 : W.ownsRow w.heap.size 48 3 v7 t (flatSV (gs.map (mkP s)))) (hg : gs.length = t) (hm : Mks W w.heap.size s gs) (d26 : ∀ b, v2.ownBlock = some b → v6.ownBlock ≠ some b) (d47 : ∀ b, v4.ownBlock = some b → v7.ownBlock ≠ some b) (dg : ∀ g ∈ gs, v2.ownBlock ≠ some g ∧ v6.ownBlock ≠ some g) (hs : s ≤ 1000) (ht : t ≤ 1000) (hb : Below w.heap.size w W) : NewC w (ckNew s t) (.returned (ckV v2 v3 v4 v6 v7)) W := by
  have n23 := own_ne h2 h3 (by decide)
  have n24 := own_ne h2 h4 (by decide)
  have n27 := own_ne h2 h7 (by decide)
  have n34 := own_ne h3 h4 (by decide)
  have n36 := own_ne h3 h6 (by decide)
  have n37 := own_ne h3 h7 (by decide)
  have n46 := own_ne h4 h6 (by decide)
  have n67 := own_ne h6 h7 (by decide)
  have m3 : ∀ g ∈ gs, v3.ownBlock ≠ some g := fun g hgm e => by
    rcases own_ne h3 (hm.1 g hgm) (by decide) with h | h
    · rw [h] at e; cases e
    · exact h e
  have m4 : ∀ g ∈ gs, v4.ownBlock ≠ some g := fun g hgm e => by
    rcases own_ne h4 (hm.1 g hgm) (by decide) with h | h
    · rw [h] at e; cases e
    · exact h e
  have m7 : ∀ g ∈ gs, v7.ownBlock ≠ some g := fun g hgm e => by
    rcases own_ne h7 (hm.1 g hgm) (by decide) with h | h
    · rw [h] at e; cases e
    · exact h e
  rw [rep_map] at h2 h6
  rw [rep_mapB] at h3
  obtain ⟨a2, c2, rfl, i2, w2, b2⟩ := ownIn_of h2 (by simp) (by omega)
  obtain ⟨a3, c3, rfl, i3, w3, b3⟩ := ownBo_of h3 (by simp) (by omega)
  obtain ⟨a6, c6, rfl, i6, w6, b6⟩ := ownIn_of h6 (by simp) (by omega)
  obtain ⟨a4, c4, rfl, i4, k4, b4⟩ := ownSn_of (n := t) (xs := List.replicate t ⟨0, [], []⟩) (l := List.replicate t noSn) (by unfold OwnSn; rw [List.length_replicate]; exact h4) (by simp) (by simp) (by omega) (fun i p x hp hx => by
    rw [get_rep hp, get_rep hx]
    exact ⟨rfl, orB_nil _ _ _, inB_nil _ _ _⟩)
  obtain ⟨a7, c7, rfl, i7, k7, b7⟩ := ownSn_of (n := t) (xs := List.replicate t ⟨0, [], List.replicate s 0⟩) (l := gs.map (mkP s)) (by unfold OwnSn; rw [List.length_map, hg]; exact h7) (by rw [List.length_map, hg]) (by simp) (by omega) (fun i p x hp hx => by
    rw [get_rep hx]
    rw [List.getElem?_map, Option.map_eq_some_iff] at hp
    obtain ⟨g, hgi, rfl⟩ := hp
    have h9 := hm.1 g (List.mem_of_getElem? hgi)
    rw [rep_map] at h9
    obtain ⟨a9, c9, e9, i9, _, _⟩ := ownIn_of h9 (by simp) (by omega)
    cases e9
    exact ⟨rfl, orB_nil _ _ _, i9⟩)
  have g4 : ∀ (i : Nat) (u : SnV), ((List.replicate t noSn).map (·.2))[i]? = some u → u = noSn.2 := fun i u hu => by
    rw [List.map_replicate] at hu
    exact get_rep hu
  have g7 : ∀ (i : Nat) (u : SnV), ((gs.map (mkP s)).map (·.2))[i]? = some u → ∃ g, gs[i]? = some g ∧ u = mkV s g := fun i u hu => by
    rw [List.map_map, List.getElem?_map, Option.map_eq_some_iff] at hu
    obtain ⟨g, h, e⟩ := hu
    exact ⟨g, h, e.symm⟩
  have S4 : ∀ b, SnS a4 t ((List.replicate t noSn).map (·.2)) b → (Value.slice a4 t c4).ownBlock = some b ∧ w.heap.size ≤ b := by
    rintro b (h | ⟨i, u, hu, h⟩)
    · exact b4 b h
    · rw [g4 i u hu] at h
      rcases h with h | h
      · exact absurd h (rowOr_nil _ _)
      · exact absurd h (rowC_nil _ _)
  have S7 : ∀ b, SnS a7 t ((gs.map (mkP s)).map (·.2)) b → ((Value.slice a7 t c7).ownBlock = some b ∨ b ∈ gs) ∧ w.heap.size ≤ b := by
    rintro b (h | ⟨i, u, hu, h⟩)
    · exact ⟨Or.inl (b7 b h).1, (b7 b h).2⟩
    · obtain ⟨g, hgi, rfl⟩ := g7 i u hu
      have e := mkV_has h
      subst e
      have hmem := List.mem_of_getElem? hgi
      exact ⟨Or.inr hmem, own_geV (hm.1 _ hmem) _ rfl⟩
  have R4 : WrSn W a4 t c4 ((List.replicate t noSn).map (·.2)) := by
    refine ⟨by simp, k4, fun i v hv => ?_, fun i v hv => ?_, fun i v hv => ?_, fun i v b hv hb' => ?_, fun i v b hv hb' => ?_, fun i j v u b hv hu hij hb' => ?_⟩
    · rw [g4 i v hv]; exact Or.inl rfl
    · rw [g4 i v hv]; exact Or.inl rfl
    · rw [g4 i v hv]; exact ⟨Nat.zero_le _, Nat.zero_le _⟩
    · rw [g4 i v hv] at hb'
      rcases hb' with h | h
      · exact absurd h (rowOr_nil _ _)
      · exact absurd h (rowC_nil _ _)
    · rw [g4 i v hv] at hb'
      exact absurd hb' (rowOr_nil _ _)
    · rw [g4 i v hv] at hb'
      rcases hb' with h | h
      · exact absurd h (rowOr_nil _ _)
      · exact absurd h (rowC_nil _ _)
  have R7 : WrSn W a7 t c7 ((gs.map (mkP s)).map (·.2)) := by
    refine ⟨by simp [hg], k7, fun i v hv => ?_, fun i v hv => ?_, fun i v hv => ?_, fun i v b hv hb' => ?_, fun i v b hv hb' => ?_, fun i j v u b hv hu hij hb' hb2 => ?_⟩
    · obtain ⟨g, hgi, rfl⟩ := g7 i v hv
      exact Or.inl rfl
    · obtain ⟨g, hgi, rfl⟩ := g7 i v hv
      have h9 := hm.1 g (List.mem_of_getElem? hgi)
      rw [rep_map] at h9
      obtain ⟨a9, c9, e9, _, w9, _⟩ := ownIn_of h9 (by simp) (by omega)
      cases e9
      exact w9
    · obtain ⟨g, hgi, rfl⟩ := g7 i v hv
      exact ⟨Nat.zero_le _, show s ≤ 1048576 by omega⟩
    · obtain ⟨g, hgi, rfl⟩ := g7 i v hv
      have e := mkV_has hb'
      subst e
      intro h
      exact m7 _ (List.mem_of_getElem? hgi) (b7 _ h).1
    · obtain ⟨g, hgi, rfl⟩ := g7 i v hv
      exact absurd hb' (rowOr_nil _ _)
    · obtain ⟨g, hgi, rfl⟩ := g7 i v hv
      obtain ⟨g', hgj, rfl⟩ := g7 j u hu
      have e := mkV_has hb'
      have e' := mkV_has hb2
      subst e
      subst e'
      obtain ⟨hi, ei⟩ := List.getElem?_eq_some_iff.1 hgi
      obtain ⟨hj, ej⟩ := List.getElem?_eq_some_iff.1 hgj
      rcases Nat.lt_or_gt_of_ne hij with h | h
      · exact (List.pairwise_iff_getElem.1 hm.2 i j hi hj h) (ei.trans ej.symm)
      · exact (List.pairwise_iff_getElem.1 hm.2 j i hj hi h) (ej.trans ei.symm)
  have ne : ∀ {u v : Value} {b : Nat}, (u.ownBlock = none ∨ u.ownBlock ≠ v.ownBlock) → u.ownBlock = some b → v.ownBlock ≠ some b := fun h e e' => by
    rcases h with h | h
    · rw [h] at e; cases e
    · exact h (e.trans e'.symm)
  have e2 : (ckNew s t).src.length = s := List.length_replicate
  have e3 : (ckNew s t).tsk.length = t := List.length_replicate
  have e4 : (ckNew s t).sn.length = t := List.length_replicate
  have e6 : (ckNew s t).at_.length = s := List.length_replicate
  have e7 : (ckNew s t).ssn.length = t := List.length_replicate
  unfold NewC
  simp only [e2, e3, e4, e6, e7]
  refine ⟨a2, c2, a3, c3, a4, c4, a6, c6, a7, c7, _, _, rfl, ⟨i2, i3, i4, i6, i7⟩, ⟨w2, w3, R4, w6, R7, ⟨by omega, by omega, by omega, by omega, by omega⟩, ?_, ?_, ?_, ?_⟩, ?_, hb⟩
  · intro b h
    have h' := rowC_own (cap := c2) h
    rintro (k | k | k | k)
    · exact ne n23 h' (rowC_own k)
    · exact ne n24 h' (S4 b k).1
    · exact d26 b h' (rowC_own k)
    · rcases (S7 b k).1 with k | k
      · exact ne n27 h' k
      · exact (dg b k).1 h'
  · intro b h
    have h' := rowC_own (cap := c3) h
    rintro (k | k | k)
    · exact ne n34 h' (S4 b k).1
    · exact ne n36 h' (rowC_own k)
    · rcases (S7 b k).1 with k | k
      · exact ne n37 h' k
      · exact m3 b k h'
  · intro b h
    have h' := (S4 b h).1
    rintro (k | k)
    · exact ne n46 h' (rowC_own k)
    · rcases (S7 b k).1 with k | k
      · exact d47 b h' k
      · exact m4 b k h'
  · intro b h
    have h' := rowC_own (cap := c6) h
    intro k
    rcases (S7 b k).1 with k | k
    · exact ne n67 h' k
    · exact (dg b k).2 h'
  · rintro b (k | k | k | k | k)
    · exact b2 b k
    · exact b3 b k
    · exact (S4 b k).2
    · exact b6 b k
    · exact (S7 b k).2
end Go.Proofs.Ytabphkmhafflbaa
