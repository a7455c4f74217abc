/- Laid together: texts that were built one by one. -/
import Derived.Test.YtbockbdlojkpiaaGreatGenF
import Derived.Test.YtbockbdlojkpiaaGreatDraw2
import Derived.Deep.Slices
import Derived.Test.YtbockbdlojkpiaaGreatGenA
import Derived.OwnWalk
import Derived.Deep.RegionLawGrows
import Derived.Maps.AppendAt
import Derived.Test.YtbockbdlojkpiaaGreatRwaItm
import Derived.Test.YtbockbdlojkpiaaGreatOwnB
import Derived.BigQuiet
import Derived.Deep.Onto
import Derived.Maps.Own
import Derived.Maps.OwnSet
import Derived.Maps.Views
import Derived.DeepKeys4
import Derived.MapViews
import Derived.Test.YtbockbdlojkpiaaGreatRows
import Derived.RangeFuncNested
import Derived.RangeFuncBound
import Derived.RangeFuncCalls
import Derived.RangeFuncLeaves
import Derived.RangeFuncBox
import Derived.Shelf.Abstract
import Derived.Shelf.RegionOpen
import Derived.Sort.MapsRangeIn
import Derived.WalkKit
import Derived.OwnWalkIn
import Derived.TacticsInMore
import Derived.LoopNIn
import Derived.LoopIn
import Derived.Test.YtbockbdlojkpiaaGreatShelf
import Derived.Test.YtbockbdlojkpiaaGreatCmpG
import Derived.Lib.SmallJoins
import Derived.Sort.OwnSorted
import Derived.Stop.RegionWithIn
import Derived.Test.YtbockbdlojkpiaaGreatRwaTab
import Derived.Test.YtbockbdlojkpiaaGreatCmp
import Derived.Test.YtbockbdlojkpiaaGreatTabFnd
/- Proved here: a slice of bytes that came in, read as its bytes. -/
namespace Go.Proofs.YtbockbdlojkpiaaGreat
open Go.ChangeShapes Go.WideShapes Go.ChangeAt Go.RowKit Go.Deep
set_option linter.unusedVariables false

section
variable {H : Type} {enc : TypeId × Value → H} {P : Program} {w : World} {base : Nat} {spare : Nat → Bool} {held : Bool}
theorem open_bytes {t e : TypeId} {a : Option Addr} {len cap : Nat} {d : DataW H} {p : List MemPlace} (ht : P.underlying t = some (.slice e)) (he : P.underlying e = some (.int .u8)) (hC : P.cellsOf e = 1)
    (h : DataW.Trod enc P w base spare held t (.slice a len cap) d p) : len ≤ cap ∧ len ≤ maxLen ∧ BytesAt w a len ∧ (∀ g o, a = some ⟨g, o, none⟩ → 0 < len → g < w.heap.size) ∧ (a = none → cap = 0) := by
  obtain ⟨fuel, hf⟩ := h
  rcases open_slice ht hf with ⟨hcs, _⟩ | ⟨a', len', cap', m, n, D, Pl, hcs, _, hl, hm, hmm, _, hx⟩
  · simp [Value.cells] at hcs
    obtain ⟨rfl, rfl, rfl⟩ := hcs
    exact ⟨Nat.le_refl _, Nat.zero_le _, Or.inl rfl, fun _ _ hne => (by simp at hne), fun _ => rfl⟩
  · simp [Value.cells] at hcs
    obtain ⟨rfl, rfl, rfl⟩ := hcs
    have hlm : len ≤ m := by rw [hmm]; split <;> omega
    have hall : ∀ i, i < len → ∃ z : Int, (i = 0 → a'.spot = none) ∧ w.cell? ⟨a'.block, a'.off + i, none⟩ = some (.int .u8 z) ∧ 0 ≤ z ∧ z ≤ 255 := by
      intro i hi
      obtain ⟨cs', h1, h2⟩ := hx i (by omega)
      rw [hC] at h1
      obtain ⟨z, rfl, _, hw⟩ := DataW.trod_int he h2
      obtain ⟨_, _, hc⟩ := World.cells?_some h1
      have c0 := hc 0 (by omega)
      have hsp : (a'.add (i * 1)).spot = none := World.cell?_spot (w := w) (a := a'.add (i * 1)) (v := .int .u8 z) (by simpa [Addr.add] using c0)
      have hb : 0 ≤ z ∧ z ≤ 255 := by
        have := bounds_u8 hw
        omega
      have ha : a'.add (i * 1) = ⟨a'.block, a'.off + i, none⟩ := by
        cases a' with
        | mk g o sp =>
          simp only [Addr.add] at hsp ⊢
          split at hsp <;> simp_all
      refine ⟨z, fun h0 => ?_, ?_, hb⟩
      · subst h0
        simpa [Addr.add] using hsp
      · rw [← ha]
        simpa [Addr.add] using c0
    by_cases h0 : len = 0
    · subst h0
      exact ⟨by omega, by omega, Or.inl rfl, fun _ _ _ h => by omega, fun hne => (by simp at hne)⟩
    obtain ⟨z0, s0, c0, _⟩ := hall 0 (by omega)
    have hs := s0 rfl
    refine ⟨hl, by omega, Or.inr ⟨a'.block, a'.off, by cases a'; simp_all, fun i hi => ?_⟩, fun g o e _ => ?_, fun hne => (by simp at hne)⟩
    · obtain ⟨z, _, hz, hb⟩ := hall i hi
      exact ⟨z, hz, hb⟩
    · have e1 : a' = ⟨g, o, none⟩ := by simpa using e
      rw [e1] at c0
      rcases Nat.lt_or_ge g w.heap.size with hh | hh
      · exact hh
      · simp [World.cell?, Array.getElem?_eq_none hh] at c0
end
end Go.Proofs.YtbockbdlojkpiaaGreat
/- Proved here, for any program: an append to a slice of the call's own, as one step of a statement whose order is open. -/
namespace Go.Proofs.YtbockbdlojkpiaaGreat
open Go.ChangeShapes Go.WideShapes Go.ChangeAt Go.RowKit
set_option linter.unusedVariables false

theorem step_append_at {P : Program} {ops : Array Oper} {o : Oper} {a : Act} {w : World} {K : Act → World → Prop} {Q : Exit → Act → World → Prop} {E : Prop}
    (hg : o.guard = none) (s x : Operand) (t : TypeId) (hop : o.op = Op.call { callee := Callee.builtin Builtin.append, args := #[s, x], argTypes := #[t, t] }) (base : Nat)
    (e : TypeId) (i : TypeInfo) (z : Value) (size bytes : Nat) (h1 : P.underlying t = some (.slice e)) (h2 : P.info? e = some i) (h3 : i.zero = some z) (h4 : i.size = size) (h5 : i.bytes = bytes) (h6 : z.cells.size = size) (h7 : 0 < size)
    (v : Value) (n : Nat) (xs : List Value) (hs : a.eval s = v) (hown : w.ownsRow base e size v n xs)
    (ad : Addr) (m c : Nat) (news : List Value) (hx : a.eval x = .slice (some ad) m c) (hn : news.length = m * size) (hc : ∀ j u, news[j]? = some u → w.cell? (ad.add j) = some u) (h1c : ∀ u ∈ news, u.oneCell' = true)
    (b1 : n + m ≤ maxLen) (b2 : (n + m) * bytes ≤ 140737488355328) (hbase : base ≤ w.heap.size)
    (hK : ∀ v' w', w'.ownsRow base e size v' (n + m) (xs ++ news) → w.grownBy w' v.ownBlock → (v'.ownBlock = v.ownBlock ∨ v'.ownBlock = some w.heap.size) → K (a.put o.dst v') w') :
    if Region.wanted o (yielded ops a.tmps) = true then Oper.wp P o a w K Q else E := by
  have hw : Region.wanted o (yielded ops a.tmps) = true := by simp [Region.wanted, hg]
  rw [if_pos hw]
  obtain ⟨v', w', hrun, r1, r2, _, r3⟩ := run_append_own_at (P := P) (w := w) base t o.type e i z size bytes h1 h2 h3 h4 h5 h6 h7 v n xs hown ad m c news hn hc h1c b1 b2 hbase
  unfold Oper.wp
  simp [execOp, hop, resolve, invoke, builtin, hs, hx, hrun, Result.andThen]
  exact hK v' w' r1 r2 r3

theorem own_lt {W : World} {B : Nat} {e : TypeId} {size n : Nat} {v : Value} {xs : List Value} (h : W.ownsRow B e size v n xs) : ∀ k, v.ownBlock = some k → k < W.heap.size := by
  intro k hk
  rcases h.2 with ⟨rfl, _⟩ | ⟨g, cap, cur, rfl, hg, hblk, _⟩
  · cases hk
  · simp [Value.ownBlock] at hk
    subst hk
    exact (Array.getElem?_eq_some_iff.1 hblk).1
end Go.Proofs.YtbockbdlojkpiaaGreat
/- Proved here: records turned round. -/
namespace Go.Proofs.YtbockbdlojkpiaaGreat
open Go.ChangeShapes Go.WideShapes Go.ChangeAt Go.RowKit
set_option linter.unusedVariables false

theorem flatIw_app (xs ys : List IwR) : flatIw (xs ++ ys) = flatIw xs ++ flatIw ys := by simp [flatIw]
theorem flatIw_one (xs : List IwR) : ∀ u ∈ flatIw xs, u.oneCell' = true := by
  intro u hu
  obtain ⟨x, _, hx⟩ := List.mem_flatMap.1 hu
  simp [IwR.cells] at hx
  rcases hx with rfl | rfl | rfl | rfl | rfl <;> rfl
theorem newsIw {W : World} {g o n : Nat} {xs : List IwR} (h : IwRs W (some ⟨g, o, none⟩) n xs) : ∀ j u, (flatIw xs)[j]? = some u → W.cell? ((⟨g, o, none⟩ : Addr).add j) = some u := by
  intro j u hu
  have e : ((⟨g, o, none⟩ : Addr).add j) = ⟨g, o + j, none⟩ := by
    unfold Addr.add
    split
    · rename_i h0; rw [h0]; rfl
    · rfl
  rw [e]
  have hj : j < xs.length * 5 := by
    rcases Nat.lt_or_ge j (flatIw xs).length with h' | h'
    · rw [flatIw_len] at h'; exact h'
    · rw [List.getElem?_eq_none h'] at hu; cases hu
  obtain ⟨x, hx⟩ : ∃ x, xs[j / 5]? = some x := ⟨_, List.getElem?_eq_getElem (by omega)⟩
  obtain ⟨g', o', e', hr⟩ := h.2.2.resolve_left (by have := h.1; omega)
  simp only [Option.some.injEq, Addr.mk.injEq] at e'
  obtain ⟨rfl, rfl, _⟩ := e'
  obtain ⟨d0, d1, d2, d3, d4⟩ := hr _ _ hx
  obtain ⟨f0, f1, f2, f3, f4⟩ := flatIw_get hx
  rcases (show j = j / 5 * 5 ∨ j = j / 5 * 5 + 1 ∨ j = j / 5 * 5 + 2 ∨ j = j / 5 * 5 + 3 ∨ j = j / 5 * 5 + 4 by omega) with e | e | e | e | e
  · rw [e] at hu ⊢; rw [f0] at hu; cases hu; exact d0
  · rw [e] at hu ⊢; rw [f1] at hu; cases hu; rw [← Nat.add_assoc]; exact d1
  · rw [e] at hu ⊢; rw [f2] at hu; cases hu; rw [← Nat.add_assoc]; exact d2
  · rw [e] at hu ⊢; rw [f3] at hu; cases hu; rw [← Nat.add_assoc]; exact d3
  · rw [e] at hu ⊢; rw [f4] at hu; cases hu; rw [← Nat.add_assoc]; exact d4
theorem IwRs.from {W : World} {g o n : Nat} {xs : List IwR} (h : IwRs W (some ⟨g, o, none⟩) n xs) (k : Nat) (hk : k ≤ n) : IwRs W (some ⟨g, o + k * 5, none⟩) (n - k) (xs.drop k) := by
  obtain ⟨h1, h2, h3⟩ := h
  refine ⟨by rw [List.length_drop, h1], by omega, ?_⟩
  rcases Nat.lt_or_ge k n with hlt | hge
  · obtain ⟨g', o', e', hr⟩ := h3.resolve_left (by omega)
    simp only [Option.some.injEq, Addr.mk.injEq] at e'
    obtain ⟨rfl, rfl, _⟩ := e'
    refine Or.inr ⟨_, _, rfl, fun i x hx => ?_⟩
    rw [List.getElem?_drop] at hx
    have := hr _ _ hx
    rw [show o + k * 5 + i * 5 = o + (k + i) * 5 by omega]
    exact this
  · exact Or.inl (by omega)
theorem IwRs.upto {W : World} {g o n : Nat} {xs : List IwR} (h : IwRs W (some ⟨g, o, none⟩) n xs) (k : Nat) (hk : k ≤ n) : IwRs W (some ⟨g, o, none⟩) k (xs.take k) := by
  obtain ⟨h1, h2, h3⟩ := h
  refine ⟨by rw [List.length_take, h1]; omega, by omega, ?_⟩
  rcases Nat.lt_or_ge 0 k with hlt | hge
  · obtain ⟨g', o', e', hr⟩ := h3.resolve_left (by omega)
    simp only [Option.some.injEq, Addr.mk.injEq] at e'
    obtain ⟨rfl, rfl, _⟩ := e'
    refine Or.inr ⟨_, _, rfl, fun i x hx => ?_⟩
    rw [List.getElem?_take] at hx
    split at hx
    · exact hr _ _ hx
    · cases hx
  · exact Or.inl (by omega)
theorem own_geW {W : World} {B n : Nat} {v : Value} {ys : List Value} (h : W.ownsRow B 41 5 v n ys) : ∀ k, v.ownBlock = some k → B ≤ k := by
  intro k hk
  rcases h.2 with ⟨rfl, _⟩ | ⟨g, cap, cur, rfl, hg, _⟩
  · cases hk
  · simp [Value.ownBlock] at hk; omega
theorem litT {W : World} {B g : Nat} (h : B ≤ W.heap.size) (hg : g = W.heap.size) : OwnIw (W.alloc (.cells #[] 41)) B (.slice (some ⟨g, 0, none⟩) 0 0) [] := by
  subst hg
  exact World.ownsRow_lit (base := B) (size := 5) W #[] 0 h (by decide) (by simp)
theorem drop_rev {xs : List IwR} {j : Nat} {x : IwR} (h : xs[j]? = some x) : (xs.drop j).reverse = (xs.drop (j + 1)).reverse ++ [x] := by
  obtain ⟨hj, he⟩ := List.getElem?_eq_some_iff.1 h
  rw [List.drop_eq_getElem_cons hj, List.reverse_cons, he]

set_option linter.unusedSimpArgs false in
set_option maxRecDepth 20000 in
set_option maxHeartbeats 2000000 in
theorem turned_any (a : Option Addr) (len cap : Nat) (xs : List IwR) (w : World) (h : IwRs w a len xs) (hl : len ≤ 1048576) : Calls Tryz.prog 17 #[.slice a len cap] w fun e w' => ∃ v, e = .returned v ∧ OwnIw w' w.heap.size v xs.reverse ∧ Below w.heap.size w w' := by
  have hxl := h.1
  have hm := h.2.1
  obtain ⟨i0, hi, hz0, hz1, hz2⟩ := info_parts Tryz.infoIw
  have O0 : Hid (OwnIw (w.alloc (.cells #[] 41)) w.heap.size (.slice (some ⟨w.heap.size, 0, none⟩) 0 0) (xs.drop len).reverse) := hide (by rw [List.drop_of_length_le (by omega)]; exact litT (Nat.le_refl _) rfl)
  have hb0 : Below w.heap.size w (w.alloc (.cells #[] 41)) := bel_one _ _
  have hw0 : IntKind.i64.wrap ((len : Int) - 1) = (len : Int) - 1 := IntWalk.i64_in _ ⟨by omega, by omega⟩
  go_enter Tryz.func17, Tryz.ntmps17
  go_wp2
  go_loopw [3, 4] (fun ov iv wr => ∃ k : Nat, k ≤ len ∧ iv = .int .i64 ((k : Int) - 1) ∧ Hid (OwnIw wr w.heap.size ov (xs.drop k).reverse) ∧ Below w.heap.size w wr) (fun _ iv _ => (intOf iv + 1).toNat)
  case atStart => exact ⟨len, Nat.le_refl _, rfl, O0, hb0⟩
  case round =>
    clear O0 hb0 hw0
    obtain ⟨k, hk, rfl, HO, hbw⟩ := hrel
    cases k with
    | zero =>
      have HQ : Hid (OwnIw wr w.heap.size u3 xs.reverse) := hide (by have h9 := unhide HO; rw [List.drop_zero] at h9; exact h9)
      clear HO
      go_wp2
      go_ret
      exact ⟨_, rfl, unhide HQ, hbw⟩
    | succ j =>
      have ej : (((j + 1 : Nat) : Int) - 1) = (j : Int) := by omega
      rw [ej]
      obtain ⟨_, _, hy⟩ := h
      obtain ⟨g, o, rfl, hr⟩ := hy.resolve_left (by omega)
      obtain ⟨x, hx⟩ : ∃ x, xs[j]? = some x := ⟨_, List.getElem?_eq_getElem (by omega)⟩
      have HX := hide hx
      have hY := (hr j _ hx).below hbw (hr.lt (by omega))
      obtain ⟨c0, c1, c2, c3, c4⟩ := hY
      have hjl : (j : Int) < (len : Int) := by omega
      have hj0 : (0 : Int) ≤ (j : Int) := by omega
      have hwj : IntKind.i64.wrap ((j : Int) - 1) = (j : Int) - 1 := IntWalk.i64_in _ ⟨by omega, by omega⟩
      have hge := hide (fun b (hb : u3.ownBlock = some b) => (World.ownsRow.lt (unhide HO) b hb).1)
      have hzw := hbw.size
      have hrl : (xs.drop (j + 1)).reverse.length ≤ 1048576 := by simp; omega
      clear hx hr hy
      go_wp2_with (at_builtin; go_loud (refine wpList_append_own _ rfl _ _ 25 rfl w.heap.size 41 i0 _ 5 40 Tryz.underlying25 hi hz0 hz1 hz2 rfl (by decide) u3 _ _ rfl (World.ownsRow.alloc (unhide HO) _) ⟨wr.heap.size, 0, none⟩ 1 1 [.int .i64 x.kd, .int .i64 x.tm, .int .i64 x.ke, .int .i64 x.va, .int .i64 x.nn] rfl rfl (cells_atIw _ x.kd x.tm x.ke x.va x.nn _ rfl) (by simp [Value.oneCell']) (by unfold maxLen; omega) (by omega) (by simp; omega) ?_); intro v' w5 hown hgrow _)
      have hb5 : Below w.heap.size w w5 := (bel_alloc hbw _).grown hgrow (by simp; omega) (unhide hge)
      have O5 : Hid (OwnIw w5 w.heap.size v' (xs.drop j).reverse) := hide (by rw [drop_rev (unhide HX)]; exact ownIw_snoc hown)
      clear hown hgrow
      go_wp2
      refine ⟨⟨j, by omega, by first | rfl | (simp; done), O5, hb5⟩, ?_⟩
      first | (simp [intOf]; done) | (simp [intOf]; omega)
end Go.Proofs.YtbockbdlojkpiaaGreat
/- Proved here, for any program: a map of the call's own, as a function of its keys: made, looked up, stored into. -/
namespace Go.Proofs.YtbockbdlojkpiaaGreat
open Go.ChangeShapes Go.WideShapes Go.ChangeAt Go.RowKit Go.Maps
set_option linter.unusedVariables false

section
variable {κ : Type} {P : Program} {k : TypeId} {R : Value → Option (DataW Unit × List MemPlace)} {zd : DataW Unit} {b n : Nat} {kv : κ → Value} {ok : κ → Prop} {f : κ → DataW Unit} {w : World}

/-- Block b is a map that holds, at each key that is ok, what f says. -/
def OwnsFn (w : World) (P : Program) (k : TypeId) (R : Value → Option (DataW Unit × List MemPlace)) (zd : DataW Unit) (b n : Nat) (kv : κ → Value) (ok : κ → Prop) (f : κ → DataW Unit) : Prop :=
  ∃ D, w.ownsMap P k R b n D ∧ ∀ q, ok q → ∀ kl, keyOf P k (kv q) = some kl → D.atKey kl zd = f q

theorem OwnsFn.made (w : World) (P : Program) (k : TypeId) (R : Value → Option (DataW Unit × List MemPlace)) (zd : DataW Unit) (kv : κ → Value) (ok : κ → Prop) : OwnsFn (w.alloc (.map #[] 0)) P k R zd w.heap.size 0 kv ok (fun _ => zd) :=
  ⟨_, World.ownsMap_made w P k R, fun _ _ _ _ => rfl⟩
theorem OwnsFn.lt (h : OwnsFn w P k R zd b n kv ok f) : b < w.heap.size := by
  obtain ⟨D, h, _⟩ := h
  exact h.lt
theorem OwnsFn.below {w' : World} (h : OwnsFn w P k R zd b n kv ok f) (hb : Below w.heap.size w w') : OwnsFn w' P k R zd b n kv ok f := by
  obtain ⟨D, h, hf⟩ := h
  exact ⟨D, h.kept ⟨hb.os, hb.tape, hb.output, hb.size, fun k hk _ => hb.block k hk⟩ (row := none) (by simp), hf⟩
theorem OwnsFn.grown {w' : World} {row : Option Nat} (h : OwnsFn w P k R zd b n kv ok f) (hg : w.grownBy w' row) (hne : some b ≠ row) : OwnsFn w' P k R zd b n kv ok f := by
  obtain ⟨D, h, hf⟩ := h
  exact ⟨D, h.kept hg hne, hf⟩
theorem OwnsFn.drew (h : OwnsFn w P k R zd b n kv ok f) : OwnsFn w.drew P k R zd b n kv ok f := h
theorem OwnsFn.look {t e : TypeId} (h : OwnsFn w P k R zd b n kv ok f) (K : Keyed P k) (ht : P.underlying t = some (.map k e)) {z : Value} (hz : (zeroValue e).run P w = .ok z w) {zp : List MemPlace} (hzd : R z = some (zd, zp)) (hk : ∀ q, ok q → ∃ kl, keyOf P k (kv q) = some kl) (q : κ) (hq : ok q) :
    ∃ v ps, (Instr.lookup t (.map (some b)) (kv q) false).run P w = .ok v w ∧ R v = some (f q, ps) := by
  obtain ⟨D, h, hf⟩ := h
  obtain ⟨kl, hkl⟩ := hk q hq
  obtain ⟨v, ps, h1, h2⟩ := h.lookup K ht hz hzd hkl
  exact ⟨v, ps, h1, by rw [h2, hf q hq kl hkl]⟩
theorem OwnsFn.store [DecidableEq κ] {t e : TypeId} (h : OwnsFn w P k R zd b n kv ok f) (K : Keyed P k) (ht : P.underlying t = some (.map k e)) (hn : n < maxLen) (hk : ∀ q, ok q → ∃ kl, keyOf P k (kv q) = some kl) (hinj : ∀ q q', kv q = kv q' → q = q') (q : κ) (hq : ok q) {val : Value} {d : DataW Unit} {ps : List MemPlace} (hv : R val = some (d, ps)) :
    ∃ w', (Instr.mapUpdate t (.map (some b)) (kv q) val).run P w = .ok () w' ∧ OwnsFn w' P k R zd b (n + 1) kv ok (fun x => if x = q then d else f x) ∧ w.grownBy w' (some b) := by
  obtain ⟨D, h, hf⟩ := h
  obtain ⟨kl, hkl⟩ := hk q hq
  obtain ⟨w', h1, h2, h3⟩ := h.update K ht hn hkl hv
  refine ⟨w', h1, ⟨_, h2, fun x hx kx hkx => ?_⟩, h3⟩
  show _ = if x = q then d else f x
  by_cases e : x = q
  · subst e
    rw [hkl] at hkx
    cases hkx
    rw [if_pos rfl, atKey_put_same h.isMap (K.key hkl)]
  · rw [if_neg e]
    have hne : kx ≠ kl := fun e' => e (hinj _ _ (K.inj (by rw [← e']; exact hkx) hkl))
    rw [atKey_put_other hne]
    exact hf x hx kx hkx
end
end Go.Proofs.YtbockbdlojkpiaaGreat
/- Proved here, for any program: a map of the call's own, as a partial function of its keys: made, looked up, stored into, taken out of. -/
namespace Go.Proofs.YtbockbdlojkpiaaGreat
open Go.ChangeShapes Go.WideShapes Go.ChangeAt Go.RowKit Go.Maps
set_option linter.unusedVariables false

section
variable {κ V : Type} {P : Program} {k : TypeId} {R : Value → Option (DataW Value × List MemPlace)} {b n : Nat} {kv : κ → Value} {ok : κ → Prop} {dv : V → DataW Value} {m : κ → Option V} {w : World}

/-- A map's datum tells, at each key that is ok, what m says: a value, or nothing. -/
def OpD (P : Program) (k : TypeId) (kv : κ → Value) (ok : κ → Prop) (dv : V → DataW Value) (D : DataW Value) (m : κ → Option V) : Prop :=
  ∀ q, ok q → ∀ kl, keyOf P k (kv q) = some kl → (∀ a, m q = some a → ∀ zd, D.atKey kl zd = dv a) ∧ (m q = none → has D kl = false)
/-- Block b is a map of at most n entries that tells what m says. -/
def OwnsOp (w : World) (P : Program) (k : TypeId) (R : Value → Option (DataW Value × List MemPlace)) (b n : Nat) (kv : κ → Value) (ok : κ → Prop) (dv : V → DataW Value) (m : κ → Option V) : Prop :=
  ∃ D, w.ownsMap P k R b n D ∧ OpD P k kv ok dv D m

theorem OwnsOp.made (w : World) (P : Program) (k : TypeId) (R : Value → Option (DataW Value × List MemPlace)) (kv : κ → Value) (ok : κ → Prop) (dv : V → DataW Value) : OwnsOp (w.alloc (.map #[] 0)) P k R w.heap.size 0 kv ok dv (fun _ => none) :=
  ⟨_, World.ownsMap_made w P k R, fun _ _ _ _ => ⟨fun _ h => (by cases h), fun _ => rfl⟩⟩
theorem OwnsOp.lt (h : OwnsOp w P k R b n kv ok dv m) : b < w.heap.size := by
  obtain ⟨D, h, _⟩ := h
  exact h.lt
theorem OwnsOp.below {w' : World} (h : OwnsOp w P k R b n kv ok dv m) (hb : Below w.heap.size w w') : OwnsOp w' P k R b n kv ok dv m := by
  obtain ⟨D, h, hf⟩ := h
  exact ⟨D, h.kept ⟨hb.os, hb.tape, hb.output, hb.size, fun k hk _ => hb.block k hk⟩ (row := none) (by simp), hf⟩
theorem OwnsOp.grown {w' : World} {row : Option Nat} (h : OwnsOp w P k R b n kv ok dv m) (hg : w.grownBy w' row) (hne : some b ≠ row) : OwnsOp w' P k R b n kv ok dv m := by
  obtain ⟨D, h, hf⟩ := h
  exact ⟨D, h.kept hg hne, hf⟩
theorem OwnsOp.drew (h : OwnsOp w P k R b n kv ok dv m) : OwnsOp w.drew P k R b n kv ok dv m := h
theorem OwnsOp.more {n2 : Nat} (h : OwnsOp w P k R b n kv ok dv m) (hn : n ≤ n2) : OwnsOp w P k R b n2 kv ok dv m := by
  obtain ⟨D, h, hf⟩ := h
  exact ⟨D, h.mono hn, hf⟩
/-- A map that lies where it lay. -/
theorem OwnsOp.keep {w' : World} (h : OwnsOp w P k R b n kv ok dv m) (hb : w'.heap[b]? = w.heap[b]?) : OwnsOp w' P k R b n kv ok dv m := by
  obtain ⟨D, ⟨es, clock, h1, h2⟩, hf⟩ := h
  exact ⟨D, ⟨es, clock, hb.trans h1, h2⟩, hf⟩
theorem OwnsOp.look {t e : TypeId} (h : OwnsOp w P k R b n kv ok dv m) (K : Keyed P k) (ht : P.underlying t = some (.map k e)) {z : Value} (hz : (zeroValue e).run P w = .ok z w) {zd : DataW Value} {zp : List MemPlace} (hzd : R z = some (zd, zp)) (hk : ∀ q, ok q → ∃ kl, keyOf P k (kv q) = some kl) (q : κ) (hq : ok q) :
    ∃ v ps, (Instr.lookup t (.map (some b)) (kv q) false).run P w = .ok v w ∧ R v = some ((m q).elim zd dv, ps) := by
  obtain ⟨D, h, hf⟩ := h
  obtain ⟨kl, hkl⟩ := hk q hq
  obtain ⟨v, ps, h1, h2⟩ := h.lookup K ht hz hzd hkl
  refine ⟨v, ps, h1, ?_⟩
  rw [h2]
  obtain ⟨f1, f2⟩ := hf q hq kl hkl
  cases hm : m q with
  | none => rw [atKey_of_not_has (f2 hm)]; rfl
  | some a => rw [f1 a hm]; rfl
theorem OwnsOp.store [DecidableEq κ] {t e : TypeId} (h : OwnsOp w P k R b n kv ok dv m) (K : Keyed P k) (ht : P.underlying t = some (.map k e)) (hn : n < maxLen) (hk : ∀ q, ok q → ∃ kl, keyOf P k (kv q) = some kl) (hinj : ∀ q q', kv q = kv q' → q = q') (q : κ) (hq : ok q) {val : Value} (a : V) {ps : List MemPlace} (hv : R val = some (dv a, ps)) :
    ∃ w', (Instr.mapUpdate t (.map (some b)) (kv q) val).run P w = .ok () w' ∧ OwnsOp w' P k R b (n + 1) kv ok dv (fun x => if x = q then some a else m x) ∧ w.grownBy w' (some b) := by
  obtain ⟨D, h, hf⟩ := h
  obtain ⟨kl, hkl⟩ := hk q hq
  obtain ⟨w', h1, h2, h3⟩ := h.update K ht hn hkl hv
  refine ⟨w', h1, ⟨_, h2, fun x hx kx hkx => ?_⟩, h3⟩
  by_cases e : x = q
  · subst e
    rw [hkl] at hkx
    cases hkx
    simp only [if_true]
    exact ⟨fun a' ha' zd => by cases ha'; exact atKey_put_same h.isMap (K.key hkl) _ _, fun h9 => by cases h9⟩
  · have hne : kx ≠ kl := fun e' => e (hinj _ _ (K.inj (by rw [← e']; exact hkx) hkl))
    simp only [if_neg e]
    obtain ⟨f1, f2⟩ := hf x hx kx hkx
    exact ⟨fun a' ha' zd => by rw [atKey_put_other hne]; exact f1 a' ha' zd, fun h9 => by rw [has_put_other hne]; exact f2 h9⟩
theorem OwnsOp.drop [DecidableEq κ] {t e : TypeId} (h : OwnsOp w P k R b n kv ok dv m) (K : Keyed P k) (ht : P.underlying t = some (.map k e)) (hk : ∀ q, ok q → ∃ kl, keyOf P k (kv q) = some kl) (hinj : ∀ q q', kv q = kv q' → q = q') (q : κ) (hq : ok q) (ty : TypeId) :
    ∃ w', (Builtin.delete_ #[t, k] ty #[.map (some b), kv q]).run P w = .ok (.tuple #[]) w' ∧ OwnsOp w' P k R b n kv ok dv (fun x => if x = q then none else m x) ∧ w.grownBy w' (some b) := by
  obtain ⟨D, h, hf⟩ := h
  obtain ⟨kl, hkl⟩ := hk q hq
  obtain ⟨w', h1, h2, h3⟩ := h.drop K ht hkl ty
  refine ⟨w', h1, ⟨_, h2, fun x hx kx hkx => ?_⟩, h3.grown⟩
  by_cases e : x = q
  · subst e
    rw [hkl] at hkx
    cases hkx
    simp only [if_true]
    exact ⟨fun a' ha' => (by cases ha'), fun _ => has_del_same⟩
  · have hne : kx ≠ kl := fun e' => e (hinj _ _ (K.inj (by rw [← e']; exact hkx) hkl))
    simp only [if_neg e]
    obtain ⟨f1, f2⟩ := hf x hx kx hkx
    exact ⟨fun a' ha' zd => by rw [atKey_del_other hne]; exact f1 a' ha' zd, fun h9 => by rw [has_del_other hne]; exact f2 h9⟩

/-- Keys that have come: no key twice; a key has come just where the map has it and it is no longer to come. -/
def CollO (P : Program) (k : TypeId) (kv : κ → Value) (ok : κ → Prop) (D0 : DataW Value) (left : Lit → Bool) (ss : List κ) : Prop :=
  ss.Nodup ∧ (∀ q ∈ ss, ok q) ∧ ∀ q, ok q → ∀ kl, keyOf P k (kv q) = some kl → (q ∈ ss ↔ (has D0 kl = true ∧ left kl = false))
theorem CollO.start (P : Program) (k : TypeId) (kv : κ → Value) (ok : κ → Prop) (D0 : DataW Value) : CollO P k kv ok D0 (has D0) [] :=
  ⟨List.nodup_nil, fun q h => (by cases h), fun q _ kl _ => by cases has D0 kl <;> simp⟩
theorem CollO.step {D0 : DataW Value} {left : Lit → Bool} {ss : List κ} (h : CollO P k kv ok D0 left ss) (K : Keyed P k) (hinj : ∀ q q', kv q = kv q' → q = q') {x : κ} {kl : Lit} (hx : ok x) (hkl : keyOf P k (kv x) = some kl) {y : DataW Value} (hlk : left kl = true) (hat : ∀ zd, D0.atKey kl zd = y) :
    CollO P k kv ok D0 (fun z => left z && !z.sameKey kl) (ss ++ [x]) := by
  have hhas : has D0 kl = true := has_true_of_atKey hat
  have hnew : x ∉ ss := fun h9 => by have := ((h.2.2 x hx kl hkl).1 h9).2; rw [hlk] at this; cases this
  refine ⟨List.nodup_append.2 ⟨h.1, by simp, fun a ha b hb => by simp at hb; subst hb; exact fun e => hnew (e ▸ ha)⟩, fun q hq => ?_, fun q hq kq hkq => ?_⟩
  · rcases List.mem_append.1 hq with hq | hq
    · exact h.2.1 q hq
    · rw [List.mem_singleton.1 hq]; exact hx
  · by_cases e : q = x
    · subst e
      rw [hkl] at hkq
      cases hkq
      simp [hhas, WideAt.sameKey_self (K.key hkl)]
    · have hne : kq ≠ kl := fun e' => e (hinj _ _ (K.inj (by rw [← e']; exact hkq) hkl))
      have hs : kq.sameKey kl = false := by
        cases h9 : kq.sameKey kl
        · rfl
        · exact absurd (WideAt.sameKey_eq h9) hne
      simp [h.2.2 q hq kq hkq, e, hs]
/-- At the end: just the keys at which there is something. -/
theorem CollO.all {D0 : DataW Value} {left : Lit → Bool} {ss : List κ} (h : CollO P k kv ok D0 left ss) (hk : ∀ q, ok q → ∃ kl, keyOf P k (kv q) = some kl) (hD : OpD P k kv ok dv D0 m) (hl : ∀ kl, left kl = false) : ss.Nodup ∧ ∀ q, q ∈ ss ↔ (ok q ∧ m q ≠ none) := by
  refine ⟨h.1, fun q => ⟨fun hq => ?_, fun ⟨hq, hm⟩ => ?_⟩⟩
  · have hok := h.2.1 q hq
    obtain ⟨kl, hkl⟩ := hk q hok
    refine ⟨hok, fun h9 => ?_⟩
    have h1 := ((h.2.2 q hok kl hkl).1 hq).1
    rw [(hD q hok kl hkl).2 h9] at h1
    cases h1
  · obtain ⟨kl, hkl⟩ := hk q hq
    refine (h.2.2 q hq kl hkl).2 ⟨?_, hl kl⟩
    cases h9 : m q with
    | none => exact absurd h9 hm
    | some a => exact has_true_of_atKey ((hD q hq kl hkl).1 a h9)
end
end Go.Proofs.YtbockbdlojkpiaaGreat
/- Proved here: a window of a key is a key of a map: what reads as one is one; two are the same just if their numbers are. -/
namespace Go.Proofs.YtbockbdlojkpiaaGreat
open Go.ChangeShapes Go.WideShapes Go.ChangeAt Go.RowKit Go.Maps Go.WideMaps
set_option linter.unusedVariables false

/-- A place as its three numbers. -/
abbrev P3 := Int × Int × Int
def v3 (q : P3) : Value := .agg #[.int .i64 q.1, .int .i64 q.2.1, .int .i64 q.2.2]
def ok3 (q : P3) : Prop := (Lit.int .i64 q.1).wf = true ∧ (Lit.int .i64 q.2.1).wf = true ∧ (Lit.int .i64 q.2.2).wf = true
theorem inj3 (q q' : P3) (h : v3 q = v3 q') : q = q' := by
  obtain ⟨a, b, c⟩ := q
  obtain ⟨a', b', c'⟩ := q'
  simp [v3] at h
  obtain ⟨h1, h2, h3⟩ := h
  subst h1 h2 h3
  rfl
theorem laid3 : laidOutB Tryz.prog = true := by kernel_rfl
theorem law3 : KeyLaw Tryz.prog 64 := deep_law_laid laid3 (m := 3) (by omega) (of_decide_eq_true (by kernel_rfl)) (by kernel_rfl) (by kernel_rfl)
theorem key3 : Keyed Tryz.prog 64 := Keyed.of_law law3
theorem keyOf3 (v : Value) : keyOf Tryz.prog 64 v = (if (Tryz.prog.keyType 64 && v.formed Tryz.prog 64) = true then (Tryz.prog.keyLits (Tryz.prog.types.size + 1) 64 v.cells.toList).map (fun ls => .string (keyBytes ls)) else none) := by
  unfold keyOf
  rw [Tryz.underlying64]
set_option maxRecDepth 100000 in
theorem some3 (q : P3) (h : ok3 q) : ∃ kl, keyOf Tryz.prog 64 (v3 q) = some kl := by
  obtain ⟨h1, h2, h3⟩ := h
  have hN : ∃ m, Tryz.prog.types.size = m + 3 := ⟨Tryz.prog.types.size - 3, by kernel_rfl⟩
  obtain ⟨m, hm⟩ := hN
  have c1 : Tryz.prog.cellsOf 64 = 3 := by kernel_rfl
  have c2 : Tryz.prog.cellsOf 35 = 2 := by kernel_rfl
  have c3 : Tryz.prog.cellsOf 3 = 1 := by kernel_rfl
  have hk : Tryz.prog.keyType 64 = true := by kernel_rfl
  have hf : (v3 q).formed Tryz.prog 64 = true := by
    simp [v3, Value.formed, Tryz.underlying64, c1]
  have hL : Tryz.prog.keyLits (m + 3 + 1) 64 [.int .i64 q.1, .int .i64 q.2.1, .int .i64 q.2.2] = some [.int .i64 q.1, .int .i64 q.2.1, .int .i64 q.2.2] := by
    simp [Tryz.underlying64, Tryz.underlying35, Tryz.underlying3, Program.keyLits, c1, c2, c3, h1, h2, h3]
    rw [if_pos (by decide)]
    rfl
  have e := keyOf3 (v3 q)
  rw [hk, hf, hm] at e
  simp only [Bool.and_self, ↓reduceIte] at e
  have e2 : (v3 q).cells.toList = [.int .i64 q.1, .int .i64 q.2.1, .int .i64 q.2.2] := rfl
  rw [e2, hL] at e
  exact ⟨_, e⟩
theorem lits_struct {P : Program} {d : Nat} {t : TypeId} {cs : List Value} {fs : Array Field} (h : P.underlying t = some (.struct fs)) : P.keyLits (d + 1) t cs = if cs.length = P.cellsOf t ∧ fs.all (·.name != "_") = true then (fs.toList.mapM fun f => P.keyLits d f.type ((cs.drop f.offset).take (P.cellsOf f.type))).map List.flatten else none := by
  conv => lhs; unfold Program.keyLits
  simp only [h]
theorem lit_int {P : Program} {d : Nat} {t : TypeId} {v : Value} {l : List Lit} (ht : P.underlying t = some (.int .i64)) (h : P.keyLits (d + 1) t [v] = some l) : ∃ n, v = .int .i64 n ∧ (Lit.int .i64 n).wf = true := by
  unfold Program.keyLits at h
  simp only [ht] at h
  cases v <;> simp at h
  rename_i q n
  obtain ⟨⟨rfl, hw⟩, _⟩ := h
  exact ⟨n, rfl, hw⟩
set_option maxRecDepth 100000 in
theorem inv3 (v : Value) (kl : Lit) (h : keyOf Tryz.prog 64 v = some kl) : ∃ q : P3, v = v3 q ∧ ok3 q := by
  have hN : ∃ m, Tryz.prog.types.size = m + 3 := ⟨Tryz.prog.types.size - 3, by kernel_rfl⟩
  obtain ⟨m, hm⟩ := hN
  have c1 : Tryz.prog.cellsOf 64 = 3 := by kernel_rfl
  have c2 : Tryz.prog.cellsOf 35 = 2 := by kernel_rfl
  have c3 : Tryz.prog.cellsOf 3 = 1 := by kernel_rfl
  rw [keyOf3, hm] at h
  split at h
  case isFalse => cases h
  rename_i hf
  rw [Bool.and_eq_true] at hf
  have hf2 := hf.2
  cases v <;> simp [Value.formed, Tryz.underlying64, c1] at hf2
  rename_i cs
  obtain ⟨l⟩ := cs
  match l, hf2 with
  | [a, b, c], _ =>
    have hL : ∃ l, Tryz.prog.keyLits (m + 3 + 1) 64 [a, b, c] = some l := by
      cases h9 : Tryz.prog.keyLits (m + 3 + 1) 64 [a, b, c] with
      | none => rw [show (Value.agg { toList := [a, b, c] }).cells.toList = [a, b, c] from rfl, h9] at h; cases h
      | some l => exact ⟨l, rfl⟩
    obtain ⟨l, hL⟩ := hL
    rw [lits_struct Tryz.underlying64] at hL
    simp [c1, c2, c3, lits_struct Tryz.underlying35] at hL
    cases ha : Tryz.prog.keyLits (m + 3) 3 [a] with
    | none => simp [ha] at hL
    | some la =>
      cases hb : Tryz.prog.keyLits (m + 2) 3 [b] with
      | none => simp [ha, hb] at hL
      | some lb =>
        cases hc : Tryz.prog.keyLits (m + 2) 3 [c] with
        | none => simp [ha, hb, hc] at hL
        | some lc =>
          obtain ⟨x, rfl, hx⟩ := lit_int Tryz.underlying3 ha
          obtain ⟨y, rfl, hy⟩ := lit_int Tryz.underlying3 hb
          obtain ⟨z, rfl, hz⟩ := lit_int Tryz.underlying3 hc
          exact ⟨(x, y, z), rfl, hx, hy, hz⟩
end Go.Proofs.YtbockbdlojkpiaaGreat
/- Proved here: the keys of a map of places, told one behind the other by maps.Keys: each once, just those that stand there. -/
namespace Go.Proofs.YtbockbdlojkpiaaGreat
open Go.RowKit Go.Shelf Go.Maps
set_option linter.unusedVariables false
attribute [local go_sem] Oper.semAt_some

theorem grown_of0 {W W' : World} (h : Below W.heap.size W W') : W.grownBy W' none := ⟨h.os, h.tape, h.output, h.size, fun k hk _ => h.block k hk⟩

/-- What all keys are: each once, just those that are there. -/
def KeysAre (D0 : DataW Value) (ss : List P3) : Prop := CollO Tryz.prog 64 v3 ok3 D0 (fun _ => false) ss

set_option maxRecDepth 100000 in
set_option maxHeartbeats 2000000 in
theorem keysT_in (n : Nat) (hn : 1 ≤ n) (l Bm b nn : Nat) (D0 : DataW Value) {R : Value → Option (DataW Value × List MemPlace)} (J Jx : List P3 → World → Prop)
    (hY : ∀ pre x W, J pre W → pre.length < Maps.size D0 → YieldAt Fence.wide (n - 1) Tryz.prog l #[v3 x] W fun e W' =>
      (e = .returned (.bool true) ∧ J (pre ++ [x]) W' ∧ KeepsWalks W W') ∨ (e = .returned (.bool false) ∧ Jx (pre ++ [x]) W'))
    (W : World) (hJ : AbidesFrom W.heap.size J) (hm : W.cell? ⟨Bm, 0, none⟩ = some (.map (some b))) (hown : W.ownsMap Tryz.prog 64 R b nn D0) (h0 : J [] W) :
    CallsIn Fence.wide n Tryz.prog 88 #[.func (.yield l) #[] #[], .pointer (some ⟨Bm, 0, none⟩)] W fun e W' => (∃ v, e = .returned v) ∧
      ((∃ ss : List P3, KeysAre D0 ss ∧ J ss W') ∨ (∃ pre : List P3, True ∧ Jx pre W')) := by
  refine callsIn_of_wp Tryz.func88 rfl trivial ?_ rfl
  simp only [Tryz.ntmps88, List.size_toArray, List.length_cons, List.length_nil, Nat.reduceAdd, Nat.reduceSub, Array.replicate_succ, Array.replicate_zero, List.push_toArray, List.append_toArray, List.nil_append, List.cons_append]
  gi_wp2_with (first
    | (gi_at_range; refine wpListIn_range_own _ rfl _ 78 rfl 64 37 key3 Tryz.underlying78 _ b nn _ rfl hown ?_; intro w0 hrg0 hg0 hs0)
    | gi_in)
  go_frame
  gi_loopw [3] (fun _ wr => ∃ (left : Lit → Bool) (cnt : Nat) (ss : List P3), wr.ranges Tryz.prog 64 R b W.heap.size nn D0 left cnt ∧ ss.length + cnt ≤ Maps.size D0 ∧ CollO Tryz.prog 64 v3 ok3 D0 left ss ∧ J ss wr)
    (fun _ wr => wr.rangeLeft b W.heap.size)
  case atStart =>
    exact ⟨_, _, [], hrg0, by simp, CollO.start _ _ _ _ D0, hJ [] W w0 none h0 hg0 (fun r e => by cases e)⟩
  case round =>
    obtain ⟨left, cnt, ss, hrg, hcs, hC, hJs⟩ := hrel
    gi_wp2_with (first
      | (gi_at_next; refine wpListIn_next_ranges _ rfl _ rfl 64 key3 R v3 id (fun key kl hk => by obtain ⟨x, hx, _⟩ := inv3 key kl hk; exact ⟨x, hx⟩) (fun v _ _ => ⟨v, rfl⟩) b W.heap.size nn _ _ _ rfl hrg ?_ ?_)
      | gi_in)
    · intro hc0 hl0
      have hl1 : left = fun _ => false := funext hl0
      subst hl1
      gi_wp2
      go_end0
      exact ⟨⟨_, rfl⟩, .inl ⟨ss, hC, hJs⟩⟩
    · intro xa xb xc c kl yd yp w2 cnt2 hkey hlk hv hat hrg2 hlt hg2 hs2 hen
      obtain ⟨x', ex, hx⟩ := inv3 _ kl hkey
      obtain rfl : (xa, xb, xc) = x' := inj3 _ _ ex
      have hC2 := hC.step key3 inj3 hx hkey hlk hat
      have hrb : w2.heap.size ≤ (w2.alloc (.cells #[.int .i64 xa, .int .i64 xb, .int .i64 xc] 64)).heap.size := by simp
      have hJ2 : J ss w2 := hJ ss wr w2 (some W.heap.size) hJs hg2 (fun r e => by cases e; exact ⟨Nat.le_refl _, hrg.iter_walk⟩)
      have hJ2a : J ss (w2.alloc (.cells #[.int .i64 xa, .int .i64 xb, .int .i64 xc] 64)) := hJ ss w2 _ none hJ2 (grown_of0 (bel_one _ _)) (fun r e => by cases e)
      have hrg2a := hrg2.of_walks (KeepsWalks.alloc w2 (.cells #[.int .i64 xa, .int .i64 xb, .int .i64 xc] 64))
      obtain ⟨fn, tmps, assign, body, hy, hR⟩ := hY ss (xa, xb, xc) _ hJ2a (by omega)
      clear hs2 hrb
      simp only [v3] at hy hen hR
      gi_wp2
      refine hR.mono ?_
      rintro e W3 (⟨rfl, hJ3, hk3⟩ | ⟨rfl, hJx3⟩)
      · gi_wp2
        have hrg3 := hrg2a.of_walks hk3
        go_roundw
        case rel => exact ⟨_, cnt2, ss ++ [(xa, xb, xc)], hrg3, by simp; omega, hC2, hJ3⟩
        case measure => rw [hrg3.left_eq, hrg.left_eq]; exact hlt
      · gi_wp2
        refine bodyPost_ret (results_none rfl _ _ _) rfl ?_
        exact ⟨⟨_, rfl⟩, .inr ⟨ss ++ [(xa, xb, xc)], trivial, hJx3⟩⟩

/-- maps.Keys hands back a value that tells the keys. -/
theorem keysT_stops (n : Nat) (hn : 1 ≤ n) (Bm b nn : Nat) (D0 : DataW Value) {R : Value → Option (DataW Value × List MemPlace)} (w : World) (hBm : Bm < w.heap.size)
    (hm : w.cell? ⟨Bm, 0, none⟩ = some (.map (some b))) (hown : w.ownsMap Tryz.prog 64 R b nn D0) :
    SeqStopsK Fence.wide n Tryz.prog 88 #[.pointer (some ⟨Bm, 0, none⟩)] (fun x => #[v3 x]) KeepsWalks (KeysAre D0) (fun _ => True) (Maps.size D0) w := fun l J Jx W hW hJ _ hY h0 => by
  have hown' : W.ownsMap Tryz.prog 64 R b nn D0 := by
    have hbl := hown.lt
    obtain ⟨es, clock, hb, Ft, hs, hD⟩ := hown
    exact ⟨es, clock, (hW.block b hbl).trans hb, Ft, hs, hD⟩
  exact keysT_in n hn l Bm b nn D0 J Jx hY W hJ ((hW.cell (p := ⟨Bm, 0, none⟩) hBm).trans hm) hown' h0

theorem keysT_any (mb : Nat) (w : World) : Calls Tryz.prog 80 #[.map (some mb)] w fun e w' => e = .returned (.func (.func 88) #[] #[.pointer (some ⟨w.heap.size, 0, none⟩)]) ∧ w' = w.alloc (.cells #[.map (some mb)] 78) := by
  go_enter Tryz.func80, Tryz.ntmps80
  go_wp2
  go_ret
  exact ⟨rfl, rfl⟩
end Go.Proofs.YtbockbdlojkpiaaGreat
/- Proved here: places are sorted, each once, as slices.SortFunc does it with compare. -/
namespace Go.Proofs.YtbockbdlojkpiaaGreat
open Go.ChangeShapes Go.WideShapes Go.ChangeAt Go.RowKit Go.Shelf Go.Lib Go.Sort
set_option linter.unusedVariables false

/-- A place as its three numbers; how two stand. -/
abbrev Pl := Int × Int × Int
def encPl (x : Pl) : List Value := [.int .i64 x.1, .int .i64 x.2.1, .int .i64 x.2.2]
def cfPl (x y : Pl) : Int := plCmp x.1 x.2.1 x.2.2 y.1 y.2.1 y.2.2
def ltPl (x y : Pl) : Prop := x.1 < y.1 ∨ (x.1 = y.1 ∧ (x.2.1 < y.2.1 ∨ (x.2.1 = y.2.1 ∧ x.2.2 < y.2.2)))
theorem cfPl_iff (x y : Pl) : cfPl x y < 0 ↔ ltPl x y := by
  unfold cfPl plCmp orI cmpI ltPl
  by_cases h1 : x.1 < y.1
  · simp [h1]
  · by_cases h2 : y.1 < x.1
    · simp [h1, h2]; omega
    · have e1 : x.1 = y.1 := by omega
      by_cases h3 : x.2.1 < y.2.1
      · simp [e1, h3]
      · by_cases h4 : y.2.1 < x.2.1
        · simp [e1, h3, h4]; omega
        · have e2 : x.2.1 = y.2.1 := by omega
          by_cases h5 : x.2.2 < y.2.2
          · simp [e1, e2, h5]
          · by_cases h6 : y.2.2 < x.2.2
            · simp [e1, e2, h5, h6]
            · simp [e1, e2, h5, h6]
theorem ltOfPl (x y : Pl) : ltOf cfPl x y = true ↔ ltPl x y := by
  unfold ltOf
  rw [decide_eq_true_iff]
  exact cfPl_iff x y
theorem ltOfPl_f (x y : Pl) : ltOf cfPl x y = false ↔ ¬ ltPl x y := by
  rw [← ltOfPl]
  simp
theorem swoPl : SWO (ltOf cfPl) where
  irrefl x := by rw [ltOfPl_f]; unfold ltPl; omega
  trans x y z h1 h2 := by rw [ltOfPl] at *; unfold ltPl at *; omega
  ntrans x y z h1 h2 := by rw [ltOfPl_f] at *; unfold ltPl at *; omega
theorem totPl (x y : Pl) (h1 : ltOf cfPl x y = false) (h2 : ltOf cfPl y x = false) : x = y := by
  rw [ltOfPl_f] at h1 h2
  unfold ltPl at h1 h2
  obtain ⟨a, b, c⟩ := x
  obtain ⟨a', b', c'⟩ := y
  simp only at h1 h2
  have e1 : a = a' := by omega
  have e2 : b = b' := by omega
  have e3 : c = c' := by omega
  rw [e1, e2, e3]
theorem cmpPl (blk off size : Nat) (w : World) : CmpLays Tryz.prog 81 #[] encPl 3 cfPl blk off size w := by
  intro m os dk hd x y
  exact compare_grow x.1 x.2.1 x.2.2 y.1 y.2.1 y.2.2 _
theorem sortpl_any (blk off cap : Nat) (d : Array Pl) (w : World) (hH : HoldsK encPl 3 w blk off d) (hblk : blk < w.heap.size) (hsz : d.size < 4611686018427387904) :
    Calls Tryz.prog 87 #[.slice (some ⟨blk, off, none⟩) d.size cap, .func (.func 81) #[] #[]] w fun e w' =>
      e = .returned (.tuple #[]) ∧ ∃ n os, w' = sortWorldK encPl 3 w blk off n (d.toList.mergeSort fun x y => !(ltOf cfPl) y x).toArray os := by
  have eg : ∀ args w, (callFunc 81 args).run Tryz.prog w = .ok (.enter 81 args) w := enters_of Tryz.func81 (by kernel_rfl) rfl
  exact AnyQ.slices_SortFunc_total Tryz.sortPl 3 Tryz.isAgg64 Tryz.sizeOf64 encPl (fun _ => rfl) (fun x v hv => by simp [encPl] at hv; rcases hv with rfl | rfl | rfl <;> rfl) cfPl swoPl _ #[] blk off cap d w eg (cmpPl blk off d.size w) hH hblk hsz totPl
end Go.Proofs.YtbockbdlojkpiaaGreat
/- Proved here: what an iterator over places tells is gathered, and sorted: slices.AppendSeq, slices.Collect, slices.SortedFunc. -/
namespace Go.Proofs.YtbockbdlojkpiaaGreat
open Go.RowKit Go.Shelf
set_option linter.unusedVariables false
attribute [local go_sem] Oper.semAt_some

theorem Tryz.infoP3 : (Tryz.prog.info? 64).map (fun i => (i.zero, i.size, i.bytes)) = some (some (.agg #[.int .i64 0, .int .i64 0, .int .i64 0]), 3, 24) := by kernel_rfl
def cells3 (x : P3) : List Value := [.int .i64 x.1, .int .i64 x.2.1, .int .i64 x.2.2]
def flat3 (xs : List P3) : List Value := xs.flatMap cells3
theorem flat3_snoc (xs : List P3) (x : P3) : flat3 (xs ++ [x]) = flat3 xs ++ [.int .i64 x.1, .int .i64 x.2.1, .int .i64 x.2.2] := by simp [flat3, cells3]
theorem flat3_len (xs : List P3) : (flat3 xs).length = xs.length * 3 := by
  induction xs with
  | nil => rfl
  | cons x r ih => show (cells3 x ++ flat3 r).length = _; rw [List.length_append, ih]; simp [cells3]; omega
def Own3 (W : World) (B : Nat) (v : Value) (xs : List P3) : Prop := W.ownsRow B 64 3 v xs.length (flat3 xs)
theorem cells_new3 (w : World) (a b c : Int) (ty : Nat) : ∀ j u, ([.int .i64 a, .int .i64 b, .int .i64 c] : List Value)[j]? = some u → (w.alloc (.cells #[.int .i64 a, .int .i64 b, .int .i64 c] ty)).cell? ((⟨w.heap.size, 0, none⟩ : Addr).add j) = some u := by
  intro j u hj
  have e : ((⟨w.heap.size, 0, none⟩ : Addr).add j) = ⟨w.heap.size, j, none⟩ := by
    unfold Addr.add
    split
    · rename_i h0; rw [h0]
    · simp
  rw [e]
  simpa [go_sem] using hj
def Bx3 (W : World) (q : Nat) (x : P3) : Prop := W.heap[q]? = some (.cells #[.int .i64 x.1, .int .i64 x.2.1, .int .i64 x.2.2] 64 (0, 0))
theorem Bx3.new (W : World) (x : P3) : Bx3 (W.alloc (.cells #[.int .i64 x.1, .int .i64 x.2.1, .int .i64 x.2.2] 64)) W.heap.size x := World.alloc_heap_new W _
theorem Bx3.cells {W : World} {q : Nat} {x : P3} (h : Bx3 W q x) : W.cell? ⟨q, 0, none⟩ = some (.int .i64 x.1) ∧ W.cell? ⟨q, 1, none⟩ = some (.int .i64 x.2.1) ∧ W.cell? ⟨q, 2, none⟩ = some (.int .i64 x.2.2) := ⟨(Joins.cell_of_block h 0), (Joins.cell_of_block h 1), (Joins.cell_of_block h 2)⟩
theorem grown_of3 {W W' : World} (h : Below W.heap.size W W') : W.grownBy W' none := ⟨h.os, h.tape, h.output, h.size, fun k hk _ => h.block k hk⟩
theorem walks_app {W w1 : World} {n₀ B : Nat} {e : TypeId} {size : Nat} {v v' : Value} {q : Nat} {ys : List Value} {tmp : Obj} (hrow : W.ownsRow n₀ e size v q ys) (hgrow : (W.alloc tmp).grownBy w1 v.ownBlock) : KeepsWalks W (w1.setCell ⟨B, 0, none⟩ v') := by
  refine ((KeepsWalks.alloc W tmp).trans (KeepsWalks.of_grownBy hgrow (fun j o hj ho => ?_))).trans (KeepsWalks.setCell _ _ _)
  rcases (hrow.alloc tmp).2 with ⟨rfl, _⟩ | ⟨g, cap, cur, rfl, _, hgb, _⟩
  · simp [Value.ownBlock] at hj
  · have : g = j := by simpa [Value.ownBlock] using hj
    subst this; rw [hgb] at ho; cases ho; rfl
/-- The frame of a round. -/
def act3 (w : World) (gf : Nat) (lb : Array Value) (x : P3) (q : Nat) : Act := { tmps := #[.slice none 0 0, .func (.func gf) #[] lb, .pointer (some ⟨w.heap.size, 0, none⟩), undef, .slice none 0 0, .pointer (some ⟨q, 0, none⟩), .func (.func gf) #[] lb, .agg #[.int .i64 x.1, .int .i64 x.2.1, .int .i64 x.2.2], undef, undef, undef, undef, undef], defers := [] }

set_option maxRecDepth 100000 in
set_option maxHeartbeats 4000000 in
theorem appendseq3 (gf : Nat) (lb : Array Value) (eg : ∀ args w, (callFunc gf args).run Tryz.prog w = .ok (.enter gf args) w) (S Sp : List P3 → Prop) (N : Nat) (hN : N ≤ 1048577) (w : World)
    (hseq : SeqStopsK Fence.wide 5 Tryz.prog gf lb (fun x : P3 => #[.agg #[.int .i64 x.1, .int .i64 x.2.1, .int .i64 x.2.2]]) KeepsWalks S Sp N w) :
    Calls Tryz.prog 92 #[.slice none 0 0, .func (.func gf) #[] lb] w fun e' w' => ∃ v' ss, e' = .returned v' ∧ S ss ∧ ss.length ≤ N ∧ Own3 w' w.heap.size v' ss ∧ Below w.heap.size w w' := by
  obtain ⟨i0, hi, hz0', hz1', hz2'⟩ := info_parts Tryz.infoP3
  refine (callsIn_wide (n := 6)).1 ?_
  refine callsIn_of_wp_marks Tryz.func92 rfl trivial ?_ rfl
  simp only [Tryz.ntmps92, List.size_toArray, List.length_cons, List.length_nil, Nat.reduceAdd, Nat.reduceSub, Array.replicate_succ, Array.replicate_zero, List.push_toArray, List.append_toArray, List.nil_append, List.cons_append]
  gi_wp2
  have bS := Boxed.new w 109 (.slice none 0 0)
  have hB0 : Below w.heap.size w (w.alloc (.cells #[.slice none 0 0] 109)) := bel_one _ _
  refine wpIn_rangeFunc_ownH rfl (by omega) (gf := gf) (lb := lb) rfl trivial eg
    hseq KeepsWalks.trans walksK_b hB0 (fun _ => rfl)
    (fun pre W => (∃ v, Boxed W w.heap.size 109 v ∧ W.ownsRow w.heap.size 64 3 v pre.length (flat3 pre) ∧ pre.length ≤ N) ∧ Below w.heap.size w W)
    (fun _ _ _ => False)
    (OwnFrom.and (Own.from (holdsRow_own w.heap.size w.heap.size 109 64 3 (fun pre : List P3 => pre.length) (fun pre => flat3 pre) (fun pre _ => pre.length ≤ N)) _) (ownFrom_below (Nat.le_refl _) (by simp)))
    (fun _ _ _ _ _ hs _ _ => hs)
    ⟨⟨_, bS, World.ownsRow_nil _ _ _ _, Nat.zero_le _⟩, hB0⟩
    (fun x a' W => ∃ q, a' = act3 w gf lb x q ∧ Bx3 W q x)
    (fun x a' _ W W' row hs hg hr => by
      obtain ⟨q, e1, hq⟩ := hs
      refine ⟨q, e1, (hg.block q (Array.getElem?_eq_some_iff.1 hq).1 (fun e9 => ?_)).trans hq⟩
      obtain ⟨_, o, ho, hc⟩ := hr q e9.symm
      rw [hq] at ho
      cases ho
      cases hc) ?assign ?body ?done ?stop
  case assign =>
    rintro lb0 pre x W K ⟨⟨rv, hv, hrow, hpN⟩, hB⟩ hK
    have HK := hK (act3 w gf lb x W.heap.size) (W.alloc (.cells #[.int .i64 x.1, .int .i64 x.2.1, .int .i64 x.2.2] 64)) ((KeepsOthers.of_grownBy (grown_of3 (bel_one W _)) (fun _ _ e => by cases e)).from _) (KeepsWalks.alloc _ _) ⟨⟨rv, hv.alloc _, hrow.alloc _, hpN⟩, bel_alloc hB _⟩ ⟨_, rfl, Bx3.new W x⟩
    clear hK
    unfold act3 at HK
    gi_wp2
    exact HK
  case body =>
    rintro lb0 pre x a' W hlb _ ⟨⟨rv, hv, hrow, hpN⟩, hB⟩ ⟨q, rfl, hq⟩ hpl
    have hcv := hv.cell
    have hz1 := hv.lt
    have hfv := hv.frozen
    have HR := hide hrow
    have HV := hide hv
    obtain ⟨x0, x1, x2⟩ := hq.cells
    have hlq := (Array.getElem?_eq_some_iff.1 hq).1
    clear hB0 bS hrow hv hq
    unfold act3
    gi_wp2_with (gi_at_builtin; go_loud (refine wpListIn_append_own _ rfl _ _ 109 rfl w.heap.size 64 i0 _ 3 24 Tryz.underlying109 hi hz0' hz1' hz2' rfl (by decide) rv _ _ rfl (World.ownsRow.alloc (unhide HR) _) ⟨W.heap.size, 0, none⟩ 1 1 [.int .i64 x.1, .int .i64 x.2.1, .int .i64 x.2.2] rfl rfl (cells_new3 W x.1 x.2.1 x.2.2 _) (by simp [Value.oneCell']) (by unfold maxLen; omega) (by omega) (by simp; omega) ?_); intro v' w2 hown' hgrow _; obtain ⟨g', cap', rfl⟩ := ownsRow_succ hown'; obtain ⟨hv1, hv2, hr2, hk2, hb2⟩ := Boxed.appended (unhide HV) (by decide) (unhide HR) (by omega) (Nat.le_refl _) hown' hgrow; have hkp := walks_app (B := w.heap.size) (v' := .slice (some ⟨g', 0, none⟩) (pre.length + 1) cap') (unhide HR) hgrow; have hcc := hv1.cell; have hff := hv1.frozen; have HV3 := hide hv2; have HR3 := hide hr2; clear hv1 hv2 hr2 hown' hgrow)
    exact ⟨hk2.from _, hkp, ⟨_, unhide HV3, by rw [flat3_snoc, List.length_append]; exact unhide HR3, by rw [List.length_append]; simp; omega⟩, hB.trans hb2⟩
  case done =>
    rintro D ys W hD hys ⟨⟨rv, hv, hrow, hpN⟩, hB⟩ hK
    have hcv := hv.cell
    have HR := hide hrow
    clear hrow
    gi_wp2
    refine ⟨by simp, .inl ⟨_, _, rfl, run_takeDeferred hK, ?_⟩⟩
    exact ⟨_, results_tmp rfl _ _ _, rv, ys, rfl, hys, hpN, ownsRow_putObj (unhide HR) _ hK rfl, hB.trans (belowK_b (w := w) (Nat.le_refl _) W D _ _ (by simp at hD; omega) hK rfl rfl)⟩
  case stop =>
    rintro D c pre W _ _ hx _
    exact hx.elim

theorem collect3 (gf : Nat) (lb : Array Value) (eg : ∀ args w, (callFunc gf args).run Tryz.prog w = .ok (.enter gf args) w) (S Sp : List P3 → Prop) (N : Nat) (hN : N ≤ 1048577) (w : World)
    (hseq : SeqStopsK Fence.wide 5 Tryz.prog gf lb (fun x : P3 => #[.agg #[.int .i64 x.1, .int .i64 x.2.1, .int .i64 x.2.2]]) KeepsWalks S Sp N w) :
    Calls Tryz.prog 86 #[.func (.func gf) #[] lb] w fun e' w' => ∃ v' ss, e' = .returned v' ∧ S ss ∧ ss.length ≤ N ∧ Own3 w' w.heap.size v' ss ∧ Below w.heap.size w w' := by
  go_enter Tryz.func86, Tryz.ntmps86
  go_wp2_with fail
  refine (appendseq3 gf lb eg S Sp N hN _ hseq).mono ?_
  rintro e' w' ⟨v', ss, rfl, hS, hl, hO, hb⟩
  go_wp2_with fail
  go_ret
  exact ⟨_, ss, rfl, hS, hl, hO, hb⟩
end Go.Proofs.YtbockbdlojkpiaaGreat
/- Proved here: what an iterator over places tells, gathered and sorted (slices.SortedFunc). -/
namespace Go.Proofs.YtbockbdlojkpiaaGreat
open Go.RowKit Go.Shelf Go.Sort Go.Lib
set_option linter.unusedVariables false

theorem flat3_get : ∀ (ss : List P3) (t : Nat), t < ss.length * 3 → (flat3 ss)[t]? = (cells3 ss[t / 3]!)[t % 3]?
  | [], t, h => by simp at h
  | x :: r, t, h => by
    show (cells3 x ++ flat3 r)[t]? = _
    by_cases h3 : t < 3
    · rw [List.getElem?_append_left (by simp [cells3]; omega), Nat.div_eq_of_lt h3, Nat.mod_eq_of_lt h3]
      rfl
    · rw [List.getElem?_append_right (by simp [cells3]; omega)]
      have hl : (cells3 x).length = 3 := rfl
      rw [hl, flat3_get r (t - 3) (by simp at h; omega)]
      have e1 : t / 3 = (t - 3) / 3 + 1 := by omega
      have e2 : t % 3 = (t - 3) % 3 := by omega
      rw [e1, e2]
      simp
theorem flatK3 (ss : List P3) : (Go.Sort.flatK encPl 3 ss.toArray).toList = flat3 ss := by
  apply List.ext_getElem?
  intro t
  by_cases h : t < ss.length * 3
  · rw [flat3_get ss t h, Array.getElem?_toList, Array.getElem?_eq_getElem (by rw [size_flatK]; simpa using h)]
    have h9 := get_flatK encPl 3 ss.toArray t (by simpa using h)
    rw [getElem!_pos _ t (by rw [size_flatK]; simpa using h)] at h9
    rw [h9]
    have hm : t % 3 < 3 := Nat.mod_lt _ (by omega)
    have hq : ss.toArray[t / 3]! = ss[t / 3]! := by simp
    rw [hq]
    have hc : (encPl ss[t / 3]!) = cells3 ss[t / 3]! := rfl
    rw [hc]
    generalize ss[t / 3]! = y
    have hy : t % 3 < (cells3 y).length := hm
    rw [getElem!_pos (cells3 y) _ hy, List.getElem?_eq_getElem hy]
  · rw [Array.getElem?_toList, Array.getElem?_eq_none (by rw [size_flatK]; simp; omega), List.getElem?_eq_none (by rw [flat3_len]; omega)]
theorem take_putV (F cur : Array Value) (h : F.size ≤ cur.size) : (putCells id 0 F cur).toList.take F.size = F.toList := by
  apply List.ext_getElem?
  intro j
  by_cases hj : j < F.size
  · rw [List.getElem?_take_of_lt hj, Array.getElem?_toList, Array.getElem?_toList]
    simp [putCells, hj, show j < cur.size by omega]
  · rw [List.getElem?_take_eq_none (by omega), List.getElem?_eq_none (by simp; omega)]
theorem heap_srt {w : World} {g n : Nat} {os : Array Obj} {cur : Array Value} {e : TypeId} {fr : Nat × Nat} (F : Array Value) (hb : w.heap[g]? = some (.cells cur e fr)) :
    (grow (putRow id (Sort.ahead w n) g 0 F) os).heap[g]? = some (.cells (putCells id 0 F cur) e fr) := by
  have hg : g < w.heap.size := (Array.getElem?_eq_some_iff.1 hb).1
  rw [heap_grow_old _ _ (by simpa using hg)]
  simp [putRow, mapBlock, Sort.ahead, Array.getElem?_modify, hb, onCells]
theorem below_srt {w : World} {g n B : Nat} {os : Array Obj} (F : Array Value) (hB : B ≤ g) (hw : B ≤ w.heap.size) : Below B w (grow (putRow id (Sort.ahead w n) g 0 F) os) := by
  refine ⟨rfl, rfl, rfl, by simp, fun k hk => ?_⟩
  rw [heap_grow_old _ _ (by simp; omega)]
  have : g ≠ k := by omega
  simp [putRow, mapBlock, Sort.ahead, Array.getElem?_modify, this]
/-- Places in order. -/
def srt3 (ss : List P3) : List P3 := ss.mergeSort fun x y => !(ltOf cfPl) y x
theorem srt3_len (ss : List P3) : (srt3 ss).length = ss.length := List.length_mergeSort ss
theorem srt3_perm (ss : List P3) : (srt3 ss).Perm ss := List.mergeSort_perm ss _
theorem sort3_any (B : Nat) (v : Value) (ss : List P3) (w : World) (h : Own3 w B v ss) (hB : B ≤ w.heap.size) (hl : ss.length ≤ 1048577) : Calls Tryz.prog 87 #[v, .func (.func 81) #[] #[]] w fun e w' =>
    e = .returned (.tuple #[]) ∧ Own3 w' B v (srt3 ss) ∧ Below B w w' := by
  obtain ⟨h0, hc⟩ := h
  by_cases hz : ss.length = 0
  · obtain rfl : ss = [] := List.eq_nil_of_length_eq_zero hz
    have hv : ∃ p cap, v = .slice p 0 cap := by
      rcases hc with ⟨rfl, _⟩ | ⟨g, cap, cur, rfl, _⟩
      · exact ⟨_, _, rfl⟩
      · exact ⟨_, _, rfl⟩
    obtain ⟨p, cap, rfl⟩ := hv
    refine (AnyF.slices_SortFunc_none Tryz.sortPl p cap _ w).mono ?_
    rintro e w' ⟨rfl, rfl⟩
    have e0 : srt3 [] = [] := by simp [srt3]
    rw [e0]
    exact ⟨rfl, ⟨h0, hc⟩, Below.refl _ _⟩
  · obtain ⟨g, cap, cur, rfl, hg, hblk, h1, h2, h3, h4⟩ := hc.resolve_left (fun h => hz h.2)
    have hsz : (Go.Sort.flatK encPl 3 ss.toArray).size = ss.length * 3 := by simp
    have hH : HoldsK encPl 3 w g 0 ss.toArray := by
      intro j hj
      rw [hsz] at hj
      refine ⟨?_, by simp [World.frozen?, hblk]⟩
      rw [Nat.zero_add, Joins.cell_of_block hblk j, ← Array.getElem?_toList]
      have h5 : (cur.toList.take (ss.length * 3))[j]? = (flat3 ss)[j]? := by rw [h4]
      rw [List.getElem?_take_of_lt hj] at h5
      rw [h5, ← flatK3, Array.getElem?_toList, Array.getElem?_eq_getElem (by rw [hsz]; exact hj), getElem!_pos _ j (by rw [hsz]; exact hj)]
      rfl
    have hgl : g < w.heap.size := (Array.getElem?_eq_some_iff.1 hblk).1
    have h9 := sortpl_any g 0 cap ss.toArray w hH hgl (by simp; omega)
    rw [List.size_toArray] at h9
    refine h9.mono ?_
    rintro e w' ⟨rfl, n, os, rfl⟩
    have hF : (Go.Sort.flatK encPl 3 (srt3 ss).toArray).size = ss.length * 3 := by simp [srt3_len]
    refine ⟨rfl, ⟨by rw [flat3_len], .inr ⟨g, cap, _, by rw [srt3_len], hg, heap_srt _ hblk, by rw [srt3_len]; exact h1, h2, by simp [putCells, h3], ?_⟩⟩, below_srt _ hg hB⟩
    have h8 := take_putV (Go.Sort.flatK encPl 3 (srt3 ss).toArray) cur (by rw [hF, h3]; exact Nat.mul_le_mul_right 3 h1)
    rw [hF, flatK3] at h8
    rw [srt3_len]
    exact h8
theorem sorted3 (gf : Nat) (lb : Array Value) (eg : ∀ args w, (callFunc gf args).run Tryz.prog w = .ok (.enter gf args) w) (S Sp : List P3 → Prop) (N : Nat) (hN : N ≤ 1048577) (w : World)
    (hseq : SeqStopsK Fence.wide 5 Tryz.prog gf lb (fun x : P3 => #[.agg #[.int .i64 x.1, .int .i64 x.2.1, .int .i64 x.2.2]]) KeepsWalks S Sp N w) :
    Calls Tryz.prog 79 #[.func (.func gf) #[] lb, .func (.func 81) #[] #[]] w fun e' w' => ∃ v' ss, e' = .returned v' ∧ S ss ∧ ss.length ≤ N ∧ Own3 w' w.heap.size v' (srt3 ss) ∧ Below w.heap.size w w' := by
  go_enter Tryz.func79, Tryz.ntmps79
  go_wp2_with fail
  refine (collect3 gf lb eg S Sp N hN _ hseq).mono ?_
  rintro e' w1 ⟨v', ss, rfl, hS, hl, hO, hb⟩
  go_wp2_with fail
  refine (sort3_any w.heap.size v' ss _ hO hb.size (by omega)).mono ?_
  rintro e' w2 ⟨rfl, hO2, hb2⟩
  go_wp2_with fail
  go_ret
  exact ⟨_, ss, rfl, hS, hl, hO2, hb.trans hb2⟩
end Go.Proofs.YtbockbdlojkpiaaGreat
/- Proved here: what stands in a map of places is told in the order of its places. -/
namespace Go.Proofs.YtbockbdlojkpiaaGreat
open Go.RowKit Go.Shelf Go.Maps
set_option linter.unusedVariables false
attribute [local go_sem] Oper.semAt_some

/-- A map's values, read as they are. -/
def rdV (v : Value) : Option (DataW Value × List MemPlace) := some (.held v, [])
/-- Block b is a map of at most n places that holds what m says. -/
def OwnsV (w : World) (b n : Nat) (m : P3 → Option Value) : Prop := OwnsOp w Tryz.prog 64 rdV b n v3 ok3 DataW.held m
theorem OwnsV.look {w : World} {b n : Nat} {m : P3 → Option Value} (h : OwnsV w b n m) {z : Value} (hz : (zeroValue 37).run Tryz.prog w = .ok z w) (q : P3) (hq : ok3 q) :
    (Instr.lookup 78 (.map (some b)) (.agg #[.int .i64 q.1, .int .i64 q.2.1, .int .i64 q.2.2]) false).run Tryz.prog w = .ok ((m q).getD z) w := by
  obtain ⟨v, ps, h1, h2⟩ := OwnsOp.look h key3 Tryz.underlying78 hz (zd := .held z) (zp := []) rfl some3 q hq
  have e : v = (m q).getD z := by
    cases hm : m q with
    | none => rw [hm] at h2; simp [rdV] at h2; exact h2.1
    | some a => rw [hm] at h2; simp [rdV] at h2; exact h2.1
  rw [← e]
  exact h1
/-- The keys of a map, each once. -/
def KeysOf {V : Type} (m : P3 → Option V) (ss : List P3) : Prop := ss.Nodup ∧ ∀ q, q ∈ ss ↔ (ok3 q ∧ m q ≠ none)
/-- What is told of a map: its places in order, each with what stands there. -/
def InOrd {V : Type} (z : V) (m : P3 → Option V) (ys : List (P3 × V)) : Prop := ∃ ss, KeysOf m ss ∧ ys = (srt3 ss).map (fun q => (q, (m q).getD z))
/-- What a round keeps: maps, and blocks of places and of maps' names. -/
def KpO (W W' : World) : Prop := KeepsWalks W W' ∧ ∀ (b : Nat) (cs : Array Value) (ty : TypeId), (ty = 64 ∨ ty = 78) → W.heap[b]? = some (Obj.cells cs ty (0, 0)) → W'.heap[b]? = some (Obj.cells cs ty (0, 0))
theorem KpO.rfl' (W : World) : KpO W W := ⟨KeepsWalks.refl W, fun _ _ _ _ h => h⟩
theorem KpO.trans {A B C : World} (h : KpO A B) (k : KpO B C) : KpO A C := ⟨h.1.trans k.1, fun b cs ty ht hb => k.2 b cs ty ht (h.2 b cs ty ht hb)⟩
theorem KpO.put {w : World} (W : World) (l : Nat) (o o' : Obj) (hl : w.heap.size ≤ l) (h : W.heap[l]? = some o) (hc : o.isCells = false) (hw : o.isWalk = false) : KpO W (W.putObj l o') := by
  refine ⟨KeepsWalks.putObj _ h hw, fun b cs ty _ hb => ?_⟩
  have hne : b ≠ l := by
    rintro rfl
    rw [hb] at h
    cases h
    cases hc
  rw [World.putObj_heap_other hne]
  exact hb
theorem KpO.of_bel {W W' : World} (hb : Below W.heap.size W W') : KpO W W' := ⟨⟨hb.size, fun k o hk _ => (hb.block k (Array.getElem?_eq_some_iff.1 hk).1).trans hk⟩, fun b cs ty _ h => (hb.block b (Array.getElem?_eq_some_iff.1 h).1).trans h⟩
theorem OwnsV.kp {W W' : World} {b n : Nat} {m : P3 → Option Value} (h : OwnsV W b n m) (k : KeepsWalks W W') : OwnsV W' b n m := by
  obtain ⟨D, ⟨es, clock, h1, h2⟩, hf⟩ := h
  exact ⟨D, ⟨es, clock, k.same b _ h1 rfl, h2⟩, hf⟩
theorem own3_kp {B : Nat} {W W' : World} {v : Value} {ys : List P3} (h : Own3 W B v ys) (hk : KpO W W') : Own3 W' B v ys := by
  rcases h with ⟨hl, h | ⟨g, cap, cur, hv, hB, hblk, r⟩⟩
  · exact ⟨hl, Or.inl h⟩
  · exact ⟨hl, Or.inr ⟨g, cap, cur, hv, hB, hk.2 g cur _ (Or.inl rfl) hblk, r⟩⟩
theorem own3_bel {B : Nat} {W W' : World} {v : Value} {ys : List P3} (h : Own3 W B v ys) (hk : Below W.heap.size W W') : Own3 W' B v ys := own3_kp h (KpO.of_bel hk)
/-- A slice of places of one's own, read. -/
theorem hold3 {W : World} {B : Nat} {v : Value} {ys : List P3} (h : Own3 W B v ys) : ∃ a cap, v = .slice a ys.length cap ∧ (∀ i x, ys[i]? = some x → ∃ g, a = some ⟨g, 0, none⟩ ∧ g < W.heap.size ∧ W.cell? ⟨g, i * 3, none⟩ = some (.int .i64 x.1) ∧ W.cell? ⟨g, i * 3 + 1, none⟩ = some (.int .i64 x.2.1) ∧ W.cell? ⟨g, i * 3 + 2, none⟩ = some (.int .i64 x.2.2)) := by
  obtain ⟨hl, ⟨rfl, h0⟩ | ⟨g, cap, cur, rfl, hB, hblk, h1, h2, h3, h4⟩⟩ := h
  · rw [h0]
    refine ⟨none, 0, rfl, fun i x hx => ?_⟩
    rw [List.eq_nil_of_length_eq_zero h0] at hx
    simp at hx
  · refine ⟨_, cap, rfl, fun i x hx => ⟨g, rfl, (Array.getElem?_eq_some_iff.1 hblk).1, ?_⟩⟩
    have hi : i < ys.length := (List.getElem?_eq_some_iff.1 hx).1
    have hy : ys[i]! = x := by rw [List.getElem!_eq_getElem?_getD, hx]; rfl
    have hc : ∀ j, j < 3 → W.cell? ⟨g, i * 3 + j, none⟩ = (cells3 x)[j]? := by
      intro j hj
      rw [Joins.cell_of_block hblk, ← Array.getElem?_toList]
      have h5 : (cur.toList.take (ys.length * 3))[i * 3 + j]? = (flat3 ys)[i * 3 + j]? := by rw [h4]
      rw [List.getElem?_take_of_lt (by omega)] at h5
      rw [h5, flat3_get ys _ (by omega)]
      have e1 : (i * 3 + j) / 3 = i := by omega
      have e2 : (i * 3 + j) % 3 = j := by omega
      rw [e1, e2, hy]
    exact ⟨hc 0 (by omega), hc 1 (by omega), hc 2 (by omega)⟩
theorem ents_at {V : Type} {z : V} {m : P3 → Option V} {ss : List P3} {i : Nat} {x : P3} (h : ss[i]? = some x) : (ss.take (i + 1)).map (fun q => (q, (m q).getD z)) = (ss.take i).map (fun q => (q, (m q).getD z)) ++ [(x, (m x).getD z)] := by
  rw [List.take_add_one, h]; simp

set_option maxRecDepth 100000 in
set_option maxHeartbeats 4000000 in
theorem inord_in (n : Nat) (hn : 8 ≤ n) (lb0 Bm b nn : Nat) {V : Type} (ev : V → Value) (m : P3 → Option V) (z : V) (hz : ∀ u : World, (zeroValue 37).run Tryz.prog u = .ok (ev z) u) (J Jx : List (P3 × V) → World → Prop)
    (hY : ∀ pre x W, J pre W → pre.length < nn → YieldAt Fence.wide (n - 1) Tryz.prog lb0 #[.agg #[.int .i64 x.1.1, .int .i64 x.1.2.1, .int .i64 x.1.2.2], ev x.2] W fun e W' =>
      (e = .returned (.bool true) ∧ J (pre ++ [x]) W' ∧ KpO W W') ∨ (e = .returned (.bool false) ∧ Jx (pre ++ [x]) W'))
    (W : World) (hJ : AbidesFrom W.heap.size J) (hnn : nn ≤ 1048577) (hm : W.heap[Bm]? = some (.cells #[.map (some b)] 78 (0, 0))) (hown : OwnsV W b nn (fun q => (m q).map ev)) (h0 : J [] W) :
    CallsIn Fence.wide n Tryz.prog 78 #[.func (.yield lb0) #[] #[], .pointer (some ⟨Bm, 0, none⟩)] W fun e W' => (∃ v, e = .returned v) ∧
      ((∃ ys, InOrd z m ys ∧ J ys W') ∨ (∃ pre, True ∧ Jx pre W')) := by
  have hBm : Bm < W.heap.size := (Array.getElem?_eq_some_iff.1 hm).1
  have hmc : W.cell? ⟨Bm, 0, none⟩ = some (.map (some b)) := Joins.cell_of_block hm 0
  obtain ⟨D0, hD0, hD1⟩ := hown
  have hOV : OwnsV W b nn (fun q => (m q).map ev) := ⟨D0, hD0, hD1⟩
  have hsz : Maps.size D0 ≤ nn := hD0.size_le
  have hb1 : Below W.heap.size W (W.alloc (.cells #[.map (some b)] 78)) := bel_one _ _
  have hD0' : (W.alloc (.cells #[.map (some b)] 78)).ownsMap Tryz.prog 64 rdV b nn D0 := hD0.kept ⟨hb1.os, hb1.tape, hb1.output, hb1.size, fun k hk _ => hb1.block k hk⟩ (row := none) (by simp)
  have hseq := keysT_stops 5 (by omega) W.heap.size b nn D0 (W.alloc (.cells #[.map (some b)] 78)) (by simp) (by simp [go_sem]) hD0'
  refine callsIn_of_wp Tryz.func78 rfl trivial ?_ rfl
  simp only [Tryz.ntmps78, List.size_toArray, List.length_cons, List.length_nil, Nat.reduceAdd, Nat.reduceSub, Array.replicate_succ, Array.replicate_zero, List.push_toArray, List.append_toArray, List.nil_append, List.cons_append]
  gi_wp2_with (first
    | (refine ⟨trivial, fun _ => (by omega), ?_⟩; gi_at_call 80; refine (callsIn_wide.2 (keysT_any b _)).mono ?_; rintro e' w1 ⟨rfl, hw1⟩; subst hw1)
    | (refine ⟨trivial, fun _ => (by omega), ?_⟩; gi_at_call 79; refine (callsIn_wide.2 (sorted3 _ _ (enters_of Tryz.func88 (by kernel_rfl) rfl) _ _ (Maps.size D0) (by omega) _ hseq)).mono ?_; rintro e' w2 ⟨vs, ss, rfl, hKA, hsl, hO3, hb2⟩; obtain ⟨aa, cs, rfl, _⟩ := hold3 hO3))
  have hKO : KeysOf m ss := by
    obtain ⟨k1, k2⟩ := CollO.all hKA some3 hD1 (fun _ => rfl)
    exact ⟨k1, fun q => by rw [k2 q]; simp⟩
  have hbW : Below W.heap.size W w2 := bel_trans hb1 hb2
  have hJ2 : J [] w2 := hJ [] W w2 none h0 (grown_of0 hbW) (fun r e => by cases e)
  have hm2 : w2.heap[Bm]? = some (.cells #[.map (some b)] 78 (0, 0)) := (hbW.block Bm hBm).trans hm
  have hO2 : OwnsV w2 b nn (fun q => (m q).map ev) := hOV.kp (KpO.of_bel hbW).1
  have hls : (srt3 ss).length ≤ nn := by rw [srt3_len]; omega
  have hok : ∀ x ∈ srt3 ss, ok3 x := fun x hx => ((hKO.2 x).1 ((srt3_perm ss).mem_iff.1 hx)).1
  have HI : Hid (InOrd z m ((srt3 ss).map (fun q => (q, (m q).getD z)))) := hide ⟨ss, hKO, rfl⟩
  clear hKO hKA hsl hD0 hD1 hOV hD0' hseq hb1 hb2 h0 hm hmc hbW hsz
  generalize srt3 ss = ts at hls hok HI hO3 ⊢
  gi_loopw [9] (fun iv wr => ∃ i : Nat, i ≤ ts.length ∧ iv = .int .i64 i ∧ Hid (J ((ts.take i).map (fun q => (q, (m q).getD z))) wr) ∧ Hid (wr.heap[Bm]? = some (.cells #[.map (some b)] 78 (0, 0))) ∧ Hid (OwnsV wr b nn (fun q => (m q).map ev)) ∧ Hid (Own3 wr (W.alloc (.cells #[.map (some b)] 78)).heap.size (.slice aa ts.length cs) ts)) (fun iv _ => ts.length - (intOf iv).toNat)
  case atStart => exact ⟨0, Nat.zero_le _, rfl, hide (by simpa using hJ2), hide hm2, hide hO2, hide hO3⟩
  case round =>
    clear hJ2 hm2 hO2 hO3
    obtain ⟨i, hil, rfl, hJs, hmr, hOr, h3r⟩ := hrel
    by_cases hlt : i < ts.length
    · obtain ⟨x, hxk⟩ : ∃ x, ts[i]? = some x := ⟨_, List.getElem?_eq_getElem hlt⟩
      have hxo := hok x (List.mem_of_getElem? hxk)
      obtain ⟨a', cs', e9, hcl⟩ := hold3 (unhide h3r)
      simp at e9
      obtain ⟨rfl, rfl⟩ := e9
      obtain ⟨g, rfl, hgl, c0, c1, c2⟩ := hcl i x hxk
      have HX := hide (ents_at (z := z) (m := m) hxk)
      clear hxk hcl
      obtain ⟨xa, xb, xc⟩ := x
      dsimp only at c0 c1 c2
      have hmc := Joins.cell_of_block (unhide hmr) 0
      have hBl : Bm < wr.heap.size := (Array.getElem?_eq_some_iff.1 (unhide hmr)).1
      have hbd : Below wr.heap.size wr (wr.alloc (.cells #[.int .i64 xa, .int .i64 xb, .int .i64 xc] 64)).drew := bel_drew (bel_one _ _)
      have hlk := ((unhide hOr).kp (KpO.of_bel hbd).1).look (hz _) (xa, xb, xc) hxo
      have hJd := hJ _ wr _ none (unhide hJs) (grown_of0 hbd) (fun r e => by cases e)
      obtain ⟨vv, hvv⟩ : ∃ vv, (m (xa, xb, xc)).getD z = vv := ⟨_, rfl⟩
      have hev : ((m (xa, xb, xc)).map ev).getD (ev z) = ev vv := by rw [← hvv]; cases m (xa, xb, xc) <;> rfl
      rw [hev] at hlk
      rw [hvv] at HX
      clear hev
      obtain ⟨fn, tmps, assign, body, hy, hR⟩ := hY _ ((xa, xb, xc), vv) _ hJd (by rw [List.length_map, List.length_take]; omega)
      dsimp only at hlk hy hR
      have hR2 : RoundIn Fence.wide (n - 1) Tryz.prog lb0 fn tmps assign body (wr.alloc (.cells #[.int .i64 xa, .int .i64 xb, .int .i64 xc] 64)).drew fun e W' => ∃ bb : Bool, e = .returned (.bool bb) ∧ Hid ((bb = true ∧ J ((ts.take i).map (fun q => (q, (m q).getD z)) ++ [((xa, xb, xc), vv)]) W' ∧ KpO (wr.alloc (.cells #[.int .i64 xa, .int .i64 xb, .int .i64 xc] 64)).drew W') ∨ (bb = false ∧ Jx ((ts.take i).map (fun q => (q, (m q).getD z)) ++ [((xa, xb, xc), vv)]) W')) := hR.mono (fun e W' h9 => by
        rcases h9 with ⟨rfl, h1, h2⟩ | ⟨rfl, h1⟩
        · exact ⟨true, rfl, hide (.inl ⟨rfl, h1, h2⟩)⟩
        · exact ⟨false, rfl, hide (.inr ⟨rfl, h1⟩)⟩)
      clear hR hvv hJd hbd
      gi_wp2
      gi_region_with (refine ⟨fun _ => (by omega), hR2.mono ?_⟩; rintro e' W3 ⟨bb, rfl, H3⟩)
      all_goals
        rcases unhide H3 with ⟨rfl, hJ3, hk3⟩ | ⟨rfl, hJx3⟩
        · have hk4 : KpO wr W3 := (KpO.of_bel (bel_drew (bel_one _ _))).trans hk3
          have HJ : Hid (J ((ts.take (i + 1)).map (fun q => (q, (m q).getD z))) W3) := hide (by rw [unhide HX]; exact hJ3)
          have HM := hide (hk4.2 Bm _ _ (Or.inr rfl) (unhide hmr))
          have HO := hide ((unhide hOr).kp hk4.1)
          have H3r := hide (own3_kp (unhide h3r) hk4)
          clear hJs hmr hOr h3r hJ3 hk3 hk4 H3
          gi_wp2
          go_roundw
          case rel => exact ⟨i + 1, by omega, by go_num, HJ, HM, HO, H3r⟩
          case measure => simp [intOf]; omega
        · clear hJs hmr hOr h3r H3
          gi_wp2
          refine bodyPost_ret (results_none rfl _ _ _) rfl ?_
          exact ⟨⟨_, rfl⟩, .inr ⟨_, trivial, hJx3⟩⟩
    · gi_wp2
      go_end0
      exact ⟨⟨_, rfl⟩, .inl ⟨_, unhide HI, by have h9 := unhide hJs; rw [List.take_of_length_le (by omega)] at h9; exact h9⟩⟩
/-- inOrder hands back a value that tells what stands in a map, in order. -/
theorem inord_stops (n : Nat) (hn : 8 ≤ n) (Bm b nn : Nat) {V : Type} (ev : V → Value) (m : P3 → Option V) (z : V) (hz : ∀ u : World, (zeroValue 37).run Tryz.prog u = .ok (ev z) u) (w : World) (hnn : nn ≤ 1048577) (hm : w.heap[Bm]? = some (.cells #[.map (some b)] 78 (0, 0))) (hown : OwnsV w b nn (fun q => (m q).map ev)) :
    SeqStopsK Fence.wide n Tryz.prog 78 #[.pointer (some ⟨Bm, 0, none⟩)] (fun x : P3 × V => #[.agg #[.int .i64 x.1.1, .int .i64 x.1.2.1, .int .i64 x.1.2.2], ev x.2]) KpO (InOrd z m) (fun _ => True) nn w := fun l J Jx W hW hJ _ hY h0 =>
  inord_in n hn l Bm b nn ev m z hz J Jx hY W hJ hnn ((hW.block Bm (Array.getElem?_eq_some_iff.1 hm).1).trans hm) (hown.kp (KpO.of_bel hW).1) h0
theorem inorder_any (mb : Nat) (w : World) : Calls Tryz.prog 67 #[.map (some mb)] w fun e w' => e = .returned (.func (.func 78) #[] #[.pointer (some ⟨w.heap.size, 0, none⟩)]) ∧ w' = w.alloc (.cells #[.map (some mb)] 78) := by
  go_enter Tryz.func67, Tryz.ntmps67
  go_wp2
  go_ret
  exact ⟨rfl, rfl⟩
end Go.Proofs.YtbockbdlojkpiaaGreat
/- Proved here: the table of what is known of places: its rows, in order. -/
namespace Go.Proofs.YtbockbdlojkpiaaGreat
open Go.RowKit Go.Shelf
set_option linter.unusedVariables false
attribute [local go_sem] Oper.semAt_some

/-- What is known, as its four numbers. -/
abbrev Ag4 := Int × Int × Int × Int
def agV (a : Ag4) : Value := .agg #[.int .i64 a.1, .int .i64 a.2.1, .int .i64 a.2.2.1, .int .i64 a.2.2.2]
def ag0 : Ag4 := (0, 0, 0, 0)
theorem zeroAg (u : World) : (zeroValue 37).run Tryz.prog u = .ok (agV ag0) u := by kernel_rfl
def rowT (x : P3 × Ag4) : TbR := ⟨x.1.1, x.1.2.1, x.1.2.2, x.2.1, x.2.2.1, x.2.2.2.1, x.2.2.2.2⟩
def BxA (W : World) (q : Nat) (x : Ag4) : Prop := W.heap[q]? = some (.cells #[.int .i64 x.1, .int .i64 x.2.1, .int .i64 x.2.2.1, .int .i64 x.2.2.2] 37 (0, 0))
theorem BxA.new (W : World) (x : Ag4) : BxA (W.alloc (.cells #[.int .i64 x.1, .int .i64 x.2.1, .int .i64 x.2.2.1, .int .i64 x.2.2.2] 37)) W.heap.size x := World.alloc_heap_new W _
theorem BxA.cells {W : World} {q : Nat} {x : Ag4} (h : BxA W q x) : W.cell? ⟨q, 0, none⟩ = some (.int .i64 x.1) ∧ W.cell? ⟨q, 1, none⟩ = some (.int .i64 x.2.1) ∧ W.cell? ⟨q, 2, none⟩ = some (.int .i64 x.2.2.1) ∧ W.cell? ⟨q, 3, none⟩ = some (.int .i64 x.2.2.2) := ⟨(Joins.cell_of_block h 0), (Joins.cell_of_block h 1), (Joins.cell_of_block h 2), (Joins.cell_of_block h 3)⟩
theorem kpo_app {W w1 : World} {n₀ B : Nat} {v v' : Value} {q : Nat} {ys : List Value} {tmp : Obj} (hv : Boxed W B 28 v) (hrow : W.ownsRow n₀ 39 7 v q ys) (hgrow : (W.alloc tmp).grownBy w1 v.ownBlock) : KpO W (w1.setCell ⟨B, 0, none⟩ v') := by
  refine ⟨walks_app hrow hgrow, fun bl cs ty ht hbl => ?_⟩
  have hlt := (Array.getElem?_eq_some_iff.1 hbl).1
  have h1 : bl ≠ B := by
    rintro rfl
    have := hv
    unfold Boxed at this
    rw [hbl] at this
    simp only [Option.some.injEq, Obj.cells.injEq] at this
    rcases ht with rfl | rfl
    · exact absurd this.2.1 (by decide)
    · exact absurd this.2.1 (by decide)
  have h2 : some bl ≠ v.ownBlock := by
    rcases hrow.2 with ⟨rfl, _⟩ | ⟨g, cp, cur, rfl, _, hgb, _⟩
    · simp [Value.ownBlock]
    · intro e9
      simp [Value.ownBlock] at e9
      subst e9
      rw [hbl] at hgb
      simp only [Option.some.injEq, Obj.cells.injEq] at hgb
      rcases ht with rfl | rfl
      · exact absurd hgb.2.1 (by decide)
      · exact absurd hgb.2.1 (by decide)
  rw [Below.heap_setCell w1 _ v' bl h1, hgrow.block bl (by simp; omega) h2, Below.heap_alloc _ _ _ hlt]
  exact hbl
/-- The frame of a round. -/
def actR (w : World) (b : Nat) (x : P3 × Ag4) (q : Nat) : Act := { tmps := #[.map (some b), undef, .slice none 0 0, .pointer (some ⟨w.heap.size, 0, none⟩), .pointer (some ⟨q, 0, none⟩), .pointer (some ⟨q + 1, 0, none⟩), .map (some b), .func (.func 78) #[] #[.pointer (some ⟨w.heap.size + 1, 0, none⟩)], .agg #[.int .i64 x.1.1, .int .i64 x.1.2.1, .int .i64 x.1.2.2], .agg #[.int .i64 x.2.1, .int .i64 x.2.2.1, .int .i64 x.2.2.2.1, .int .i64 x.2.2.2.2], undef, undef, undef, undef, undef, undef, undef, undef, undef, undef], defers := [] }

set_option maxRecDepth 100000 in
set_option maxHeartbeats 4000000 in
theorem rowsof_any (b nn : Nat) (f : P3 → Option Ag4) (w : World) (hnn : nn ≤ 1048577) (hown : OwnsV w b nn (fun q => (f q).map agV)) :
    Calls Tryz.prog 46 #[.map (some b)] w fun e' w' => ∃ v' ys, e' = .returned v' ∧ InOrd ag0 f ys ∧ ys.length ≤ nn ∧ OwnTb w' w.heap.size v' (ys.map rowT) ∧ Below w.heap.size w w' := by
  obtain ⟨i0, hi, hz0', hz1', hz2'⟩ := info_parts Tryz.infoTb
  refine (callsIn_wide (n := 20)).1 ?_
  refine callsIn_of_wp_marks Tryz.func46 rfl trivial ?_ rfl
  simp only [Tryz.ntmps46, List.size_toArray, List.length_cons, List.length_nil, Nat.reduceAdd, Nat.reduceSub, Array.replicate_succ, Array.replicate_zero, List.push_toArray, List.append_toArray, List.nil_append, List.cons_append]
  have hB1 : Below w.heap.size w (w.alloc (.cells #[.slice none 0 0] 28)) := bel_one _ _
  have hB0 : Below w.heap.size w ((w.alloc (.cells #[.slice none 0 0] 28)).alloc (.cells #[.map (some b)] 78)) := bel_alloc hB1 _
  have bS : Boxed ((w.alloc (.cells #[.slice none 0 0] 28)).alloc (.cells #[.map (some b)] 78)) w.heap.size 28 (.slice none 0 0) := (Boxed.new w 28 (.slice none 0 0)).alloc _
  have hm : ((w.alloc (.cells #[.slice none 0 0] 28)).alloc (.cells #[.map (some b)] 78)).heap[w.heap.size + 1]? = some (.cells #[.map (some b)] 78 (0, 0)) := by
    have := World.alloc_heap_new (w.alloc (.cells #[.slice none 0 0] 28)) (.cells #[.map (some b)] 78)
    rw [World.size_alloc] at this
    exact this
  gi_wp2_with (refine ⟨trivial, ?_⟩; gi_at_call 67; refine (callsIn_wide.2 (inorder_any b _)).mono ?_; rintro e' w1 ⟨rfl, hw1⟩; subst hw1)
  refine wpIn_rangeFunc_ownH rfl (by omega) (gf := 78) (lb := #[.pointer (some ⟨w.heap.size + 1, 0, none⟩)]) (by simp [go_sem, Act.eval]) trivial (enters_of Tryz.func78 (by kernel_rfl) rfl)
    (inord_stops _ (by omega) (w.heap.size + 1) b nn agV f ag0 zeroAg _ hnn hm (hown.kp (KpO.of_bel hB0).1)) KpO.trans KpO.put (Below.refl _ _) (fun _ => rfl)
    (fun pre W => (∃ v, Boxed W w.heap.size 28 v ∧ W.ownsRow w.heap.size 39 7 v pre.length (flatTb (pre.map rowT)) ∧ pre.length ≤ nn) ∧ Below w.heap.size w W)
    (fun _ _ _ => False)
    (OwnFrom.and (Own.from (holdsRow_own w.heap.size w.heap.size 28 39 7 (fun pre : List (P3 × Ag4) => pre.length) (fun pre => flatTb (pre.map rowT)) (fun pre _ => pre.length ≤ nn)) _) (ownFrom_below (Nat.le_refl _) (by simp; omega)))
    (fun _ _ _ _ _ hs _ _ => hs)
    ⟨⟨_, bS, World.ownsRow_nil _ _ _ _, Nat.zero_le _⟩, hB0⟩
    (fun x a' W => ∃ q, a' = actR w b x q ∧ Bx3 W q x.1 ∧ BxA W (q + 1) x.2)
    (fun x a' _ W W' row hs hg hr => by
      obtain ⟨q, e1, hq, hq2⟩ := hs
      refine ⟨q, e1, (hg.block q (Array.getElem?_eq_some_iff.1 hq).1 (fun e9 => ?_)).trans hq, (hg.block (q + 1) (Array.getElem?_eq_some_iff.1 hq2).1 (fun e9 => ?_)).trans hq2⟩
      · obtain ⟨_, o, ho, hc⟩ := hr q e9.symm
        rw [hq] at ho
        cases ho
        cases hc
      · obtain ⟨_, o, ho, hc⟩ := hr (q + 1) e9.symm
        rw [hq2] at ho
        cases ho
        cases hc) ?assign ?body ?done ?stop
  case assign =>
    rintro lb0 pre x W K ⟨⟨rv, hv, hrow, hpN⟩, hB⟩ hK
    have hbA : Below W.heap.size W ((W.alloc (.cells #[.int .i64 x.1.1, .int .i64 x.1.2.1, .int .i64 x.1.2.2] 64)).alloc (.cells #[.int .i64 x.2.1, .int .i64 x.2.2.1, .int .i64 x.2.2.2.1, .int .i64 x.2.2.2.2] 37)) := bel_alloc (bel_one W _) _
    have HK := hK (actR w b x W.heap.size) ((W.alloc (.cells #[.int .i64 x.1.1, .int .i64 x.1.2.1, .int .i64 x.1.2.2] 64)).alloc (.cells #[.int .i64 x.2.1, .int .i64 x.2.2.1, .int .i64 x.2.2.2.1, .int .i64 x.2.2.2.2] 37)) ((KeepsOthers.of_grownBy (grown_of3 hbA) (fun _ _ e => by cases e)).from _) (KpO.of_bel hbA) ⟨⟨rv, (hv.alloc _).alloc _, (hrow.alloc _).alloc _, hpN⟩, bel_alloc (bel_alloc hB _) _⟩ ⟨_, rfl, (KpO.of_bel (bel_one _ _)).2 _ _ _ (Or.inl rfl) (Bx3.new W x.1), by have h9 := BxA.new (W.alloc (.cells #[.int .i64 x.1.1, .int .i64 x.1.2.1, .int .i64 x.1.2.2] 64)) x.2; rw [World.size_alloc] at h9; exact h9⟩
    clear hK hbA
    unfold actR at HK
    unfold agV
    gi_wp2
    exact HK
  case body =>
    rintro lb0 pre x a' W hlb _ ⟨⟨rv, hv, hrow, hpN⟩, hB⟩ ⟨q, rfl, hq, hq2⟩ hpl
    have hcv := hv.cell
    have hz1 := hv.lt
    have hfv := hv.frozen
    have HR := hide hrow
    have HV := hide hv
    obtain ⟨x0, x1, x2⟩ := hq.cells
    obtain ⟨y0, y1, y2, y3⟩ := hq2.cells
    have hlq := (Array.getElem?_eq_some_iff.1 hq).1
    have hlq2 := (Array.getElem?_eq_some_iff.1 hq2).1
    clear hB0 hB1 bS hrow hv hq hq2 hm hown
    unfold actR
    gi_wp2_with (gi_at_builtin; go_loud (refine wpListIn_append_own _ rfl _ _ 28 rfl w.heap.size 39 i0 _ 7 56 Tryz.underlying28 hi hz0' hz1' hz2' rfl (by decide) rv _ _ rfl (World.ownsRow.alloc (unhide HR) _) ⟨W.heap.size, 0, none⟩ 1 1 [.int .i64 x.1.1, .int .i64 x.1.2.1, .int .i64 x.1.2.2, .int .i64 x.2.1, .int .i64 x.2.2.1, .int .i64 x.2.2.2.1, .int .i64 x.2.2.2.2] rfl rfl (cells_newTb W x.1.1 x.1.2.1 x.1.2.2 x.2.1 x.2.2.1 x.2.2.2.1 x.2.2.2.2 _) (by simp [Value.oneCell']) (by unfold maxLen; omega) (by omega) (by simp; omega) ?_); intro v' w2 hown' hgrow _; obtain ⟨g', cap', rfl⟩ := ownsRow_succ hown'; obtain ⟨hv1, hv2, hr2, hk2, hb2⟩ := Boxed.appended (unhide HV) (by decide) (unhide HR) (by omega) (Nat.le_refl _) hown' hgrow; have hkp := kpo_app (v' := .slice (some ⟨g', 0, none⟩) (pre.length + 1) cap') (unhide HV) (unhide HR) hgrow; have hcc := hv1.cell; have hff := hv1.frozen; have HV3 := hide hv2; have HR3 := hide hr2; clear hv1 hv2 hr2 hown' hgrow)
    exact ⟨hk2.from _, hkp, ⟨_, unhide HV3, by rw [List.map_append, List.length_append]; simp only [List.map_cons, List.map_nil]; rw [flatTb_snoc]; exact unhide HR3, by rw [List.length_append]; simp; omega⟩, hB.trans hb2⟩
  case done =>
    rintro D ys W hD hys ⟨⟨rv, hv, hrow, hpN⟩, hB⟩ hK
    have hcv := hv.cell
    have HR := hide hrow
    clear hrow
    gi_wp2
    refine ⟨by simp, .inl ⟨_, _, rfl, run_takeDeferred hK, ?_⟩⟩
    exact ⟨_, results_tmp rfl _ _ _, rv, ys, rfl, hys, hpN, by unfold OwnTb; rw [List.length_map]; exact ownsRow_putObj (unhide HR) _ hK rfl, hB.trans (belowK_b (w := w) (Nat.le_refl _) W D _ _ (by simp at hD; omega) hK rfl rfl)⟩
  case stop =>
    rintro D c pre W _ _ hx _
    exact hx.elim
end Go.Proofs.YtbockbdlojkpiaaGreat
/- Proved here: which row stands ahead of another one; the first that a row stands ahead of. -/
namespace Go.Proofs.YtbockbdlojkpiaaGreat
open Go.ChangeShapes Go.WideShapes Go.ChangeAt Go.RowKit
set_option linter.unusedVariables false

/-- Whether a row stands ahead of another one. -/
def aheadR (r x : TbR) : Bool := decide (plCmp r.ky r.st r.en x.ky x.st x.en < 0)

set_option maxRecDepth 20000 in
set_option maxHeartbeats 2000000 in
theorem isahead_any (r x : TbR) (w : World) : Calls Tryz.prog 73 #[.agg #[.int .i64 r.ky, .int .i64 r.st, .int .i64 r.en, .int .i64 r.n, .int .i64 r.su, .int .i64 r.le, .int .i64 r.mo], .agg #[.int .i64 x.ky, .int .i64 x.st, .int .i64 x.en, .int .i64 x.n, .int .i64 x.su, .int .i64 x.le, .int .i64 x.mo]] w fun e w' => e = .returned (.bool (aheadR r x)) ∧ Below w.heap.size w w' := by
  go_enter Tryz.func73, Tryz.ntmps73
  go_wp2
  go_region_held3 (fun W => ((W.cell? ⟨w.heap.size, 0, none⟩ = some (.int .i64 r.ky) ∧ W.cell? ⟨w.heap.size, 1, none⟩ = some (.int .i64 r.st) ∧ W.cell? ⟨w.heap.size, 2, none⟩ = some (.int .i64 r.en) ∧ W.cell? ⟨w.heap.size, 3, none⟩ = some (.int .i64 r.n) ∧ W.cell? ⟨w.heap.size, 4, none⟩ = some (.int .i64 r.su) ∧ W.cell? ⟨w.heap.size, 5, none⟩ = some (.int .i64 r.le) ∧ W.cell? ⟨w.heap.size, 6, none⟩ = some (.int .i64 r.mo) ∧ W.cell? ⟨w.heap.size + 1, 0, none⟩ = some (.int .i64 x.ky) ∧ W.cell? ⟨w.heap.size + 1, 1, none⟩ = some (.int .i64 x.st) ∧ W.cell? ⟨w.heap.size + 1, 2, none⟩ = some (.int .i64 x.en) ∧ W.cell? ⟨w.heap.size + 1, 3, none⟩ = some (.int .i64 x.n) ∧ W.cell? ⟨w.heap.size + 1, 4, none⟩ = some (.int .i64 x.su) ∧ W.cell? ⟨w.heap.size + 1, 5, none⟩ = some (.int .i64 x.le) ∧ W.cell? ⟨w.heap.size + 1, 6, none⟩ = some (.int .i64 x.mo)) ∧ w.heap.size < W.heap.size ∧ w.heap.size + 1 < W.heap.size)) ((first | ((repeat (first | (with_reducible assumption) | (with_reducible refine hd_7_7 ?_ (by with_reducible assumption)) | (with_reducible refine hd_7_7 ?_ (bel_drew (Below.refl _ _))) | (with_reducible exact hd_7_7_re (by with_reducible assumption) (by first | omega | (simp; done) | (simp; omega)) (by first | omega | (simp; done) | (simp; omega))) | (with_reducible refine hd_7_7 ?_ (bel_one _ _)) | (with_reducible refine hd_7_7_set ?_ (by first | omega | (simp; done) | (simp; omega)) (by first | omega | (simp; done) | (simp; omega)) _))); done) | (refine ⟨⟨?_, ?_, ?_, ?_, ?_, ?_, ?_, ?_, ?_, ?_, ?_, ?_, ?_, ?_⟩, ?_, ?_⟩ <;> first | (go_keep; done) | (simp; done) | (simp; omega) | omega)))
    (first
    | (go_at_call 34; refine (rowplace_any _ _ _ _ _ _ _ _).mono ?_; rintro e w' ⟨rfl, hb⟩)
    | (go_at_call 81; refine (compare_any _ _ _ _ _ _ _).mono ?_; rintro e w' ⟨rfl, hb⟩))
  all_goals
    go_wp2
    go_ret
    exact ⟨rfl, (by repeat (first | (with_reducible exact Below.refl _ _) | (with_reducible assumption) | (with_reducible refine bel_set ?_ (by first | (simp; done) | (simp; omega)) _) | (with_reducible refine bel_alloc ?_ _) | (with_reducible refine bel_drew ?_) | (with_reducible refine bel_drewN ?_ _) | (with_reducible refine bel_trans ?_ (by with_reducible assumption))))⟩

/-- The place of the first row that a row stands ahead of, or -1. -/
def idxR (r : TbR) (xs : List TbR) : Int := match xs.findIdx? (aheadR r) with
  | some i => (i : Int)
  | none => -1

theorem idxR_hit {r : TbR} {xs : List TbR} {j : Nat} {x : TbR} (hx : xs[j]? = some x) (h0 : ∀ i, i < j → ∀ y, xs[i]? = some y → aheadR r y = false) (hb : aheadR r x = true) : idxR r xs = (j : Int) := by
  have hj := (List.getElem?_eq_some_iff.1 hx)
  have hj1 := hj.1
  have : xs.findIdx? (aheadR r) = some j := by
    rw [List.findIdx?_eq_some_iff_getElem]
    refine ⟨hj.1, by rw [hj.2]; exact hb, fun i hi => ?_⟩
    have := h0 i hi _ (List.getElem?_eq_getElem (by omega))
    simp [this]
  unfold idxR
  rw [this]

theorem idxR_none {r : TbR} {xs : List TbR} (h0 : ∀ i, i < xs.length → ∀ y, xs[i]? = some y → aheadR r y = false) : idxR r xs = -1 := by
  have : xs.findIdx? (aheadR r) = none := by
    rw [List.findIdx?_eq_none_iff]
    intro x hx
    obtain ⟨i, hi, rfl⟩ := List.getElem_of_mem hx
    exact h0 i hi _ (List.getElem?_eq_getElem hi)
  unfold idxR
  rw [this]

theorem idx_step {r : TbR} {xs : List TbR} {j : Nat} {x : TbR} (hx : xs[j]? = some x) (h0 : ∀ i, i < j → ∀ y, xs[i]? = some y → aheadR r y = false) (hb : aheadR r x = false) : ∀ i, i < j + 1 → ∀ y, xs[i]? = some y → aheadR r y = false := by
  intro i hi y hy
  by_cases e : i = j
  · subst e; rw [hx] at hy; cases hy; exact hb
  · exact h0 i (by omega) y hy

set_option maxRecDepth 20000 in
set_option maxHeartbeats 1000000 in
theorem idx_any (r : TbR) (a : Option Addr) (len cap : Nat) (xs : List TbR) (w : World) (h : TbRs w a len xs) (hl : len ≤ 1048576) : Calls Tryz.prog 72 #[.slice a len cap, .func (.func 73) #[.agg #[.int .i64 r.ky, .int .i64 r.st, .int .i64 r.en, .int .i64 r.n, .int .i64 r.su, .int .i64 r.le, .int .i64 r.mo]] #[]] w fun e w' => e = .returned (.int .i64 (idxR r xs)) ∧ Below w.heap.size w w' := by
  go_enter Tryz.func72, Tryz.ntmps72
  go_wp2
  go_loopw [8] (fun i wr => ∃ j : Nat, j ≤ len ∧ i = .int .i64 j ∧ Hid (∀ i, i < j → ∀ y, xs[i]? = some y → aheadR r y = false) ∧ Below w.heap.size w wr) (fun i _ => len - (intOf i).toNat)
  case atStart => exact ⟨0, Nat.zero_le _, rfl, hide (fun i hi => absurd hi (by omega)), Below.refl _ _⟩
  case round =>
    obtain ⟨j, hj, rfl, HN, hbw⟩ := hrel
    by_cases hlt : j < len
    · obtain ⟨hxl, _, hx⟩ := h
      obtain ⟨g, o, rfl, hr⟩ := hx.resolve_left (by omega)
      obtain ⟨x, hxk⟩ : ∃ x, xs[j]? = some x := ⟨_, List.getElem?_eq_getElem (by omega)⟩
      have hg : g < w.heap.size := hr.lt (by omega)
      have hX := hide hxk
      obtain ⟨d0, d1, d2, d3, d4, d5, d6⟩ := (hr j _ hxk).below hbw hg
      clear hx hxk hr
      cases hB : aheadR r x
      · have HN2 := hide (idx_step (unhide hX) (unhide HN) hB)
        go_wp2_with (go_at_call 73; refine (isahead_any r x _).mono ?_; rintro e w' ⟨rfl, hb⟩)
        go_roundw
        case rel => exact ⟨j + 1, by omega, by go_num, HN2, (by repeat (first | (with_reducible exact Below.refl _ _) | (with_reducible assumption) | (with_reducible refine bel_set ?_ (by first | (simp; done) | (simp; omega)) _) | (with_reducible refine bel_alloc ?_ _) | (with_reducible refine bel_drew ?_) | (with_reducible refine bel_drewN ?_ _) | (with_reducible refine bel_trans ?_ (by with_reducible assumption))))⟩
        case measure => simp [intOf]; omega
      · have HQ := hide (idxR_hit (unhide hX) (unhide HN) hB)
        go_wp2_with (go_at_call 73; refine (isahead_any r x _).mono ?_; rintro e w' ⟨rfl, hb⟩)
        go_ret
        exact ⟨ret_i (unhide HQ).symm, (by repeat (first | (with_reducible exact Below.refl _ _) | (with_reducible assumption) | (with_reducible refine bel_set ?_ (by first | (simp; done) | (simp; omega)) _) | (with_reducible refine bel_alloc ?_ _) | (with_reducible refine bel_drew ?_) | (with_reducible refine bel_drewN ?_ _) | (with_reducible refine bel_trans ?_ (by with_reducible assumption))))⟩
    · have HQ := hide (idxR_none (r := r) (xs := xs) (fun i hi => unhide HN i (by have := h.1; omega)))
      go_wp2
      go_ret
      exact ⟨ret_i (unhide HQ).symm, hbw⟩

end Go.Proofs.YtbockbdlojkpiaaGreat
/- Proved here: which row is ahead of another one, in the specification; a row put in its place, as a list. -/
namespace Go.Proofs.YtbockbdlojkpiaaGreat
open Go.ChangeShapes Go.WideShapes Go.ChangeAt Go.RowKit
set_option linter.unusedVariables false

theorem ret_pb {a b : Bool} (h : b = a) : Ending.returned (.bool a) = .returned (.bool b) := by rw [h]

theorem aheadR_ky {r x : TbR} (h : ¬ r.ky = x.ky) : aheadR r x = decide (r.ky < x.ky) := by
  unfold aheadR plCmp orI cmpI
  by_cases h1 : r.ky < x.ky
  · simp [h1]
  · have h2 : x.ky < r.ky := by omega
    simp [h1, h2]

theorem aheadR_st {r x : TbR} (h : r.ky = x.ky) (h2 : ¬ r.st = x.st) : aheadR r x = decide (r.st < x.st) := by
  unfold aheadR plCmp orI cmpI
  by_cases h1 : r.st < x.st
  · simp [h, h1]
  · have h3 : x.st < r.st := by omega
    simp [h, h1, h3]

theorem aheadR_en {r x : TbR} (h : r.ky = x.ky) (h2 : r.st = x.st) : aheadR r x = decide (r.en < x.en) := by
  unfold aheadR plCmp orI cmpI
  by_cases h1 : r.en < x.en
  · simp [h, h2, h1]
  · by_cases h3 : x.en < r.en
    · simp [h, h2, h1, h3]
    · simp [h, h2, h1, h3]

/-- Whether a window is ahead of another one. -/
def lessW (st en st' en' : Int) : Bool := if st = st' then decide (en < en') else decide (st < st')

theorem l2less_any (st en st' en' : Int) (w : World) : Calls Tryz.prog 70 #[.agg #[.int .i64 st, .int .i64 en], .agg #[.int .i64 st', .int .i64 en']] w fun e w' => e = .returned (.bool (lessW st en st' en')) ∧ Below w.heap.size w w' := by
  by_cases h : st = st'
  · have hq : lessW st en st' en' = decide (en < en') := if_pos h
    have HQ := hide hq
    have h' : (st == st') = true := by simpa using h
    clear hq
    go_enter Tryz.func70, Tryz.ntmps70
    go_wp2
    go_ret
    exact ⟨ret_pb (unhide HQ), (by repeat (first | (with_reducible exact Below.refl _ _) | (with_reducible assumption) | (with_reducible refine bel_set ?_ (by first | (simp; done) | (simp; omega)) _) | (with_reducible refine bel_alloc ?_ _) | (with_reducible refine bel_drew ?_) | (with_reducible refine bel_drewN ?_ _) | (with_reducible refine bel_trans ?_ (by with_reducible assumption))))⟩
  · have hq : lessW st en st' en' = decide (st < st') := if_neg h
    have HQ := hide hq
    have h' : (st == st') = false := by simpa using h
    clear hq
    go_enter Tryz.func70, Tryz.ntmps70
    go_wp2
    go_ret
    exact ⟨ret_pb (unhide HQ), (by repeat (first | (with_reducible exact Below.refl _ _) | (with_reducible assumption) | (with_reducible refine bel_set ?_ (by first | (simp; done) | (simp; omega)) _) | (with_reducible refine bel_alloc ?_ _) | (with_reducible refine bel_drew ?_) | (with_reducible refine bel_drewN ?_ _) | (with_reducible refine bel_trans ?_ (by with_reducible assumption))))⟩

theorem ahead_k {r x : TbR} (h : r.ky = x.ky) : lessW r.st r.en x.st x.en = aheadR r x := by
  unfold lessW
  by_cases h2 : r.st = x.st
  · rw [if_pos h2, aheadR_en h h2]
  · rw [if_neg h2, aheadR_st h h2]

theorem l5ahead_any (r x : TbR) (w : World) : Calls Tryz.prog 54 #[.int .i64 r.ky, .agg #[.int .i64 r.st, .int .i64 r.en], .int .i64 x.ky, .agg #[.int .i64 x.st, .int .i64 x.en]] w fun e w' => e = .returned (.bool (aheadR r x)) ∧ Below w.heap.size w w' := by
  by_cases h : r.ky = x.ky
  · have HQ := hide (ahead_k h).symm
    have h' : (r.ky == x.ky) = true := by simpa using h
    go_enter Tryz.func54, Tryz.ntmps54
    go_wp2_with (go_at_call 70; refine (l2less_any _ _ _ _ _).mono ?_; rintro e w' ⟨rfl, hb⟩)
    go_ret
    exact ⟨ret_pb (unhide HQ), (by repeat (first | (with_reducible exact Below.refl _ _) | (with_reducible assumption) | (with_reducible refine bel_set ?_ (by first | (simp; done) | (simp; omega)) _) | (with_reducible refine bel_alloc ?_ _) | (with_reducible refine bel_drew ?_) | (with_reducible refine bel_drewN ?_ _) | (with_reducible refine bel_trans ?_ (by with_reducible assumption))))⟩
  · have HQ := hide (aheadR_ky h)
    have h' : (r.ky == x.ky) = false := by simpa using h
    go_enter Tryz.func54, Tryz.ntmps54
    go_wp2
    go_ret
    exact ⟨ret_pb (unhide HQ), (by repeat (first | (with_reducible exact Below.refl _ _) | (with_reducible assumption) | (with_reducible refine bel_set ?_ (by first | (simp; done) | (simp; omega)) _) | (with_reducible refine bel_alloc ?_ _) | (with_reducible refine bel_drew ?_) | (with_reducible refine bel_drewN ?_ _) | (with_reducible refine bel_trans ?_ (by with_reducible assumption))))⟩

/-- A row put in its place. -/
def insR (r : TbR) (xs : List TbR) : List TbR := match xs with
  | [] => [r]
  | x :: xs => if aheadR r x then r :: x :: xs else x :: insR r xs

theorem insR_len (r : TbR) (xs : List TbR) : (insR r xs).length = xs.length + 1 := by
  induction xs with
  | nil => rfl
  | cons x xs ih => unfold insR; split <;> simp [ih]

/-- How far one has come: what is laid out already. -/
def PutAt (r : TbR) (xs : List TbR) (k : Nat) (ys : List TbR) : Bool → Prop
  | true => ys ++ xs.drop k = insR r xs ∧ ys.length = k + 1
  | false => ys = xs.take k ∧ xs.take k ++ insR r (xs.drop k) = insR r xs ∧ ys.length = k

theorem putAt_start (r : TbR) (xs : List TbR) : PutAt r xs 0 [] false := ⟨rfl, by simp, rfl⟩

theorem drop_at {xs : List TbR} {k : Nat} {x : TbR} (h : xs[k]? = some x) : xs.drop k = x :: xs.drop (k + 1) := by
  obtain ⟨hk, he⟩ := List.getElem?_eq_some_iff.1 h
  rw [List.drop_eq_getElem_cons hk, he]

theorem putAt_done {r x : TbR} {xs ys : List TbR} {k : Nat} (hx : xs[k]? = some x) (h : PutAt r xs k ys true) : PutAt r xs (k + 1) (ys ++ [x]) true := by
  refine ⟨?_, by simp [h.2]⟩
  rw [← h.1, drop_at hx]; simp

theorem putAt_now {r x : TbR} {xs ys : List TbR} {k : Nat} (hx : xs[k]? = some x) (ha : aheadR r x = true) (h : PutAt r xs k ys false) : PutAt r xs (k + 1) ((ys ++ [r]) ++ [x]) true := by
  refine ⟨?_, by simp [h.2.2]⟩
  rw [← h.2.1, drop_at hx, h.1]
  simp [insR, ha]

theorem putAt_on {r x : TbR} {xs ys : List TbR} {k : Nat} (hx : xs[k]? = some x) (ha : aheadR r x = false) (h : PutAt r xs k ys false) : PutAt r xs (k + 1) (ys ++ [x]) false := by
  have e : xs.take (k + 1) = xs.take k ++ [x] := take_snocT hx
  refine ⟨by rw [e, h.1], ?_, by simp [h.2.2]⟩
  rw [e, ← h.2.1, drop_at hx]
  simp [insR, ha]

theorem putAt_end1 {r : TbR} {xs ys : List TbR} {k : Nat} (hk : xs.length ≤ k) (h : PutAt r xs k ys true) : ys = insR r xs := by
  rw [← h.1, List.drop_of_length_le hk, List.append_nil]

theorem putAt_end0 {r : TbR} {xs ys : List TbR} {k : Nat} (hk : xs.length ≤ k) (h : PutAt r xs k ys false) : ys ++ [r] = insR r xs := by
  rw [← h.2.1, List.drop_of_length_le hk, h.1]; rfl

theorem putAt_len {r : TbR} {xs ys : List TbR} {k : Nat} {d : Bool} (h : PutAt r xs k ys d) : ys.length ≤ k + 1 := by
  cases d
  · have := h.2.2; omega
  · have := h.2; omega

end Go.Proofs.YtbockbdlojkpiaaGreat
