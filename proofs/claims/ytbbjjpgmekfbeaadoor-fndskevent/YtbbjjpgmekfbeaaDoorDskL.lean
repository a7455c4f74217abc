/- Proved here: the map of readers of events. -/
import Derived.Test.YtbbjjpgmekfbeaaDoorDskK
import Derived.Maps.Own
import Derived.Maps.OwnSet
import Derived.Maps.Views
import Derived.StringKeys
namespace Go.Proofs.YtbbjjpgmekfbeaaDoor
open Go.ChangeShapes Go.WideShapes Go.ChangeAt Go.RowKit Go.Maps
set_option linter.unusedVariables false


/-- A reader as a datum: its kind. -/
def rdF (v : Value) : Option (DataW Unit × List MemPlace) := match v with
  | .func (.func f) a b => match a.toList, b.toList with
    | [.int .i64 k], [] => if f = 25 then some (.lit (.int .i64 k), []) else none
    | _, _ => none
  | .nilFunc => some (.lit (.int .i64 0), [])
  | _ => none
theorem rdF_inv {v : Value} {k : Int} {ps : List MemPlace} (hk : k ≠ 0) (h : rdF v = some (.lit (.int .i64 k), ps)) : v = (.func (.func 25) #[.int .i64 k] #[]) := by
  unfold rdF at h
  split at h
  · split at h
    · split at h
      · rename_i a b _ _ _ ha hb hf
        cases h
        subst hf
        have e1 : a = #[.int .i64 k] := Array.toList_inj.1 (by rw [ha])
        have e2 : b = #[] := Array.toList_inj.1 (by rw [hb])
        rw [e1, e2]
      · cases h
    · cases h
  · cases h
    exact absurd rfl hk
  · cases h
theorem keyStr {s : ByteArray} (hs : s.size ≤ 1048576) : keyOf Tryd.prog 9 (.string s) = some (.string s.data.toList) := WideMaps.keyOf_string_mk Tryd.underlying9 (by unfold maxLen; omega)
def evD : DataW Unit := (((((((((((((((DataW.map [] : DataW Unit)).put (.string [115, 111, 117, 114, 99, 101]) (.lit (.int .i64 1)))).put (.string [116, 97, 115, 107]) (.lit (.int .i64 2)))).put (.string [97, 115, 107]) (.lit (.int .i64 3)))).put (.string [115, 97, 118, 101]) (.lit (.int .i64 4)))).put (.string [100, 114, 111, 112]) (.lit (.int .i64 5)))).put (.string [99, 111, 109, 109, 105, 116]) (.lit (.int .i64 6)))).put (.string [99, 114, 97, 115, 104]) (.lit (.int .i64 7)))
/-- A map holds the seven readers. -/
def Readers (w : World) (b : Nat) : Prop := w.ownsMap Tryd.prog 9 rdF b 7 evD
theorem Readers.below {w w' : World} {b : Nat} (h : Readers w b) (hb : Below w.heap.size w w') : Readers w' b :=
  World.ownsMap.kept h ⟨hb.os, hb.tape, hb.output, hb.size, fun k hk _ => hb.block k hk⟩ (row := none) (by simp)
theorem bel_map {w w1 w2 : World} {b : Nat} (h : Below w.heap.size w w1) (hb : w.heap.size ≤ b) (hg : w1.grownBy w2 (some b)) : Below w.heap.size w w2 := h.grown hg (by have := h.size; omega) (fun k hk => by cases hk; exact hb)
theorem readers_made (w : World) {b : Nat} (hb : w.heap.size = b) : ∃ w1 w2 w3 w4 w5 w6 w7, (Instr.mapUpdate 51 (.map (some b)) (.string ⟨#[115, 111, 117, 114, 99, 101]⟩) (.func (.func 25) #[.int .i64 1] #[])).run Tryd.prog (w.alloc (.map #[] 0)) = .ok () w1 ∧ (Instr.mapUpdate 51 (.map (some b)) (.string ⟨#[116, 97, 115, 107]⟩) (.func (.func 25) #[.int .i64 2] #[])).run Tryd.prog w1 = .ok () w2 ∧ (Instr.mapUpdate 51 (.map (some b)) (.string ⟨#[97, 115, 107]⟩) (.func (.func 25) #[.int .i64 3] #[])).run Tryd.prog w2 = .ok () w3 ∧ (Instr.mapUpdate 51 (.map (some b)) (.string ⟨#[115, 97, 118, 101]⟩) (.func (.func 25) #[.int .i64 4] #[])).run Tryd.prog w3 = .ok () w4 ∧ (Instr.mapUpdate 51 (.map (some b)) (.string ⟨#[100, 114, 111, 112]⟩) (.func (.func 25) #[.int .i64 5] #[])).run Tryd.prog w4 = .ok () w5 ∧ (Instr.mapUpdate 51 (.map (some b)) (.string ⟨#[99, 111, 109, 109, 105, 116]⟩) (.func (.func 25) #[.int .i64 6] #[])).run Tryd.prog w5 = .ok () w6 ∧ (Instr.mapUpdate 51 (.map (some b)) (.string ⟨#[99, 114, 97, 115, 104]⟩) (.func (.func 25) #[.int .i64 7] #[])).run Tryd.prog w6 = .ok () w7 ∧ Readers w7 b ∧ Below w.heap.size w w7 := by
  subst hb
  have K := string_keyed Tryd.underlying9
  have h0 := World.ownsMap_made w Tryd.prog 9 rdF
  obtain ⟨w1, u1, h1, g1⟩ := h0.update K Tryd.underlying51 (by unfold maxLen; omega) (keyStr (s := ⟨#[115, 111, 117, 114, 99, 101]⟩) (by decide)) (show rdF (.func (.func 25) #[.int .i64 1] #[]) = some (.lit (.int .i64 1), []) from rfl)
  obtain ⟨w2, u2, h2, g2⟩ := h1.update K Tryd.underlying51 (by unfold maxLen; omega) (keyStr (s := ⟨#[116, 97, 115, 107]⟩) (by decide)) (show rdF (.func (.func 25) #[.int .i64 2] #[]) = some (.lit (.int .i64 2), []) from rfl)
  obtain ⟨w3, u3, h3, g3⟩ := h2.update K Tryd.underlying51 (by unfold maxLen; omega) (keyStr (s := ⟨#[97, 115, 107]⟩) (by decide)) (show rdF (.func (.func 25) #[.int .i64 3] #[]) = some (.lit (.int .i64 3), []) from rfl)
  obtain ⟨w4, u4, h4, g4⟩ := h3.update K Tryd.underlying51 (by unfold maxLen; omega) (keyStr (s := ⟨#[115, 97, 118, 101]⟩) (by decide)) (show rdF (.func (.func 25) #[.int .i64 4] #[]) = some (.lit (.int .i64 4), []) from rfl)
  obtain ⟨w5, u5, h5, g5⟩ := h4.update K Tryd.underlying51 (by unfold maxLen; omega) (keyStr (s := ⟨#[100, 114, 111, 112]⟩) (by decide)) (show rdF (.func (.func 25) #[.int .i64 5] #[]) = some (.lit (.int .i64 5), []) from rfl)
  obtain ⟨w6, u6, h6, g6⟩ := h5.update K Tryd.underlying51 (by unfold maxLen; omega) (keyStr (s := ⟨#[99, 111, 109, 109, 105, 116]⟩) (by decide)) (show rdF (.func (.func 25) #[.int .i64 6] #[]) = some (.lit (.int .i64 6), []) from rfl)
  obtain ⟨w7, u7, h7, g7⟩ := h6.update K Tryd.underlying51 (by unfold maxLen; omega) (keyStr (s := ⟨#[99, 114, 97, 115, 104]⟩) (by decide)) (show rdF (.func (.func 25) #[.int .i64 7] #[]) = some (.lit (.int .i64 7), []) from rfl)
  have b0 : Below w.heap.size w (w.alloc (.map #[] 0)) := bel_one _ _
  have b1 := bel_map b0 (Nat.le_refl _) g1
  have b2 := bel_map b1 (Nat.le_refl _) g2
  have b3 := bel_map b2 (Nat.le_refl _) g3
  have b4 := bel_map b3 (Nat.le_refl _) g4
  have b5 := bel_map b4 (Nat.le_refl _) g5
  have b6 := bel_map b5 (Nat.le_refl _) g6
  have b7 := bel_map b6 (Nat.le_refl _) g7
  exact ⟨w1, w2, w3, w4, w5, w6, w7, u1, u2, u3, u4, u5, u6, u7, h7, b7⟩
theorem str_ne {x : ByteArray} {l : List UInt8} (h : x ≠ ⟨l.toArray⟩) : Lit.string x.data.toList ≠ Lit.string l := fun e => h (by
  injection e with e1
  exact ByteArray.ext (Array.toList_inj.1 (by rw [e1])))
theorem readers_look {w : World} {b : Nat} {x : ByteArray} (h : Readers w b) (hx : x.size ≤ 1048576) : ∃ v, (Instr.lookup 51 (.map (some b)) (.string x) true).run Tryd.prog w = .ok (.tuple #[v, .bool (decide ((evK x).1 ≠ 0))]) w ∧ ((evK x).1 ≠ 0 → v = (.func (.func 25) #[.int .i64 (evK x).1] #[])) := by
  have K := string_keyed Tryd.underlying9
  obtain ⟨v, ps, h1, h2⟩ := World.ownsMap.look_ok h K Tryd.underlying51 (z := .nilFunc) (zd := .lit (.int .i64 0)) (zp := []) (by kernel_rfl) rfl (keyStr hx)
  by_cases e0 : x = ⟨#[115, 111, 117, 114, 99, 101]⟩
  · have hk : (evK x).1 = 1 := by unfold evK; rw [if_pos e0]
    rw [hk]
    subst e0
    rw [show Maps.has evD (.string [115, 111, 117, 114, 99, 101]) = true from by kernel_rfl] at h1
    rw [show evD.atKey (.string [115, 111, 117, 114, 99, 101]) (.lit (.int .i64 0)) = .lit (.int .i64 1) from by kernel_rfl] at h2
    exact ⟨v, h1, fun _ => rdF_inv (by decide) h2⟩
  by_cases e1 : x = ⟨#[116, 97, 115, 107]⟩
  · have hk : (evK x).1 = 2 := by unfold evK; rw [if_neg e0, if_pos e1]
    rw [hk]
    subst e1
    rw [show Maps.has evD (.string [116, 97, 115, 107]) = true from by kernel_rfl] at h1
    rw [show evD.atKey (.string [116, 97, 115, 107]) (.lit (.int .i64 0)) = .lit (.int .i64 2) from by kernel_rfl] at h2
    exact ⟨v, h1, fun _ => rdF_inv (by decide) h2⟩
  by_cases e2 : x = ⟨#[97, 115, 107]⟩
  · have hk : (evK x).1 = 3 := by unfold evK; rw [if_neg e0, if_neg e1, if_pos e2]
    rw [hk]
    subst e2
    rw [show Maps.has evD (.string [97, 115, 107]) = true from by kernel_rfl] at h1
    rw [show evD.atKey (.string [97, 115, 107]) (.lit (.int .i64 0)) = .lit (.int .i64 3) from by kernel_rfl] at h2
    exact ⟨v, h1, fun _ => rdF_inv (by decide) h2⟩
  by_cases e3 : x = ⟨#[115, 97, 118, 101]⟩
  · have hk : (evK x).1 = 4 := by unfold evK; rw [if_neg e0, if_neg e1, if_neg e2, if_pos e3]
    rw [hk]
    subst e3
    rw [show Maps.has evD (.string [115, 97, 118, 101]) = true from by kernel_rfl] at h1
    rw [show evD.atKey (.string [115, 97, 118, 101]) (.lit (.int .i64 0)) = .lit (.int .i64 4) from by kernel_rfl] at h2
    exact ⟨v, h1, fun _ => rdF_inv (by decide) h2⟩
  by_cases e4 : x = ⟨#[100, 114, 111, 112]⟩
  · have hk : (evK x).1 = 5 := by unfold evK; rw [if_neg e0, if_neg e1, if_neg e2, if_neg e3, if_pos e4]
    rw [hk]
    subst e4
    rw [show Maps.has evD (.string [100, 114, 111, 112]) = true from by kernel_rfl] at h1
    rw [show evD.atKey (.string [100, 114, 111, 112]) (.lit (.int .i64 0)) = .lit (.int .i64 5) from by kernel_rfl] at h2
    exact ⟨v, h1, fun _ => rdF_inv (by decide) h2⟩
  by_cases e5 : x = ⟨#[99, 111, 109, 109, 105, 116]⟩
  · have hk : (evK x).1 = 6 := by unfold evK; rw [if_neg e0, if_neg e1, if_neg e2, if_neg e3, if_neg e4, if_pos e5]
    rw [hk]
    subst e5
    rw [show Maps.has evD (.string [99, 111, 109, 109, 105, 116]) = true from by kernel_rfl] at h1
    rw [show evD.atKey (.string [99, 111, 109, 109, 105, 116]) (.lit (.int .i64 0)) = .lit (.int .i64 6) from by kernel_rfl] at h2
    exact ⟨v, h1, fun _ => rdF_inv (by decide) h2⟩
  by_cases e6 : x = ⟨#[99, 114, 97, 115, 104]⟩
  · have hk : (evK x).1 = 7 := by unfold evK; rw [if_neg e0, if_neg e1, if_neg e2, if_neg e3, if_neg e4, if_neg e5, if_pos e6]
    rw [hk]
    subst e6
    rw [show Maps.has evD (.string [99, 114, 97, 115, 104]) = true from by kernel_rfl] at h1
    rw [show evD.atKey (.string [99, 114, 97, 115, 104]) (.lit (.int .i64 0)) = .lit (.int .i64 7) from by kernel_rfl] at h2
    exact ⟨v, h1, fun _ => rdF_inv (by decide) h2⟩
  have hk : (evK x).1 = 0 := by unfold evK; rw [if_neg e0, if_neg e1, if_neg e2, if_neg e3, if_neg e4, if_neg e5, if_neg e6]
  have hh : Maps.has evD (.string x.data.toList) = false := by
    unfold evD
    rw [has_put_other (str_ne e6), has_put_other (str_ne e5), has_put_other (str_ne e4), has_put_other (str_ne e3), has_put_other (str_ne e2), has_put_other (str_ne e1), has_put_other (str_ne e0)]
    rfl
  rw [hh] at h1
  rw [hk]
  exact ⟨v, h1, fun h => absurd rfl h⟩
end Go.Proofs.YtbbjjpgmekfbeaaDoor
