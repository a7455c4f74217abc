/- Proved here: a reader is opened; a record is drawn. -/
import Derived.Test.YtcokdcehjibanaaGreatDoorDraw

namespace Go.Proofs.YtcokdcehjibanaaGreatDoor
open Go.ChangeShapes Go.WideShapes Go.ChangeAt Go.RowKit
set_option linter.unusedVariables false

def OpenP (w : World) (a : Option Addr) (e : Ending) (w' : World) : Prop := ∃ R len cap, e = .returned (.pointer (some ⟨R, 0, none⟩)) ∧ w.heap.size ≤ R ∧ R < w'.heap.size ∧ Below w.heap.size w w' ∧ Rd R w' a len cap 0

theorem BytesAt.bel {w w' : World} {a : Option Addr} {len : Nat} (h : BytesAt w a len) (hl : ∀ g o, a = some ⟨g, o, none⟩ → 0 < len → g < w.heap.size) (hb : Below w.heap.size w w') : BytesAt w' a len := by
  rcases h with h | ⟨g, o, ha, h⟩
  · exact Or.inl h
  · refine Or.inr ⟨g, o, ha, fun i hi => ?_⟩
    obtain ⟨z, hz, q⟩ := h i hi
    exact ⟨z, (hb.cell (p := ⟨g, o + i, none⟩) (hl g o ha (by omega))).trans hz, q⟩

theorem BytesAt.less {w : World} {a : Option Addr} {len l : Nat} (h : BytesAt w a len) (hl : l ≤ len) : BytesAt w a l := by
  rcases h with h | ⟨g, o, ha, h⟩
  · exact Or.inl (by omega)
  · exact Or.inr ⟨g, o, ha, fun i hi => h i (by omega)⟩

theorem open_rd {w : World} {a : Option Addr} {len cap ty : Nat} (hs : len ≤ 2000) (hb : BytesAt w a len) (hl : ∀ g o, a = some ⟨g, o, none⟩ → 0 < len → g < w.heap.size) : Rd w.heap.size (w.alloc (.cells #[.slice a len cap, .int .i64 0] ty)) a len cap 0 :=
  ⟨by simp [go_sem], by simp [go_sem], by simp [go_sem], by omega, hs, hb.bel hl (bel_one _ _), hl⟩

set_option maxRecDepth 20000 in
theorem open_any (a : Option Addr) (len cap : Nat) (w : World) (hlc : len ≤ cap) (hlm : len ≤ 1048576) (hb : BytesAt w a len) (hl : ∀ g o, a = some ⟨g, o, none⟩ → 0 < len → g < w.heap.size) (hn : a = none → cap = 0) : Calls Tryz.prog 12 #[.slice a len cap] w fun e w' => OpenP w a e w' := by
  have HB := hide hb
  have HL := hide hl
  clear hb hl
  by_cases hz : (2000 : Int) < (len : Int)
  · obtain ⟨ad, rfl⟩ : ∃ ad, a = some ad := by
      cases a
      · have := hn rfl
        omega
      · exact ⟨_, rfl⟩
    go_enter Tryz.func12, Tryz.ntmps12
    go_wp2
    go_ret
    exact ⟨_, 2000, cap, rfl, Nat.le_refl _, by simp, bel_one _ _, open_rd (by omega) ((unhide HB).less (by omega)) (fun g o e h => unhide HL g o e (by omega))⟩
  · go_enter Tryz.func12, Tryz.ntmps12
    go_wp2
    go_ret
    exact ⟨_, len, cap, rfl, Nat.le_refl _, by simp, bel_one _ _, open_rd (by omega) (unhide HB) (unhide HL)⟩

theorem Rd.kp {R : Nat} {w w' : World} {a : Option Addr} {len cap p : Nat} (h : Rd R w a len cap p) (hR : R < w.heap.size) (hb : Below w.heap.size w w') : Rd R w' a len cap p := by
  obtain ⟨h1, h2, h3, h4, h5, h6, h7⟩ := h
  exact ⟨(hb.cell (p := ⟨R, 0, none⟩) hR).trans h1, (hb.cell (p := ⟨R, 1, none⟩) hR).trans h2, (hb.frozen (p := ⟨R, 1, none⟩) hR).trans h3, h4, h5, h6.bel (fun g o e h => Nat.lt_trans (h7 g o e h) hR) hb, h7⟩

def RecP (R : Nat) (w : World) (a : Option Addr) (len cap p : Nat) (e : Ending) (w' : World) : Prop := ∃ t k v : Int, e = .returned (.agg #[.int .i64 1, .int .i64 t, .int .i64 k, .int .i64 v, .int .i64 0]) ∧ (0 ≤ t ∧ t ≤ 60) ∧ (0 ≤ k ∧ k ≤ 3) ∧ (-9 ≤ v ∧ v ≤ 9) ∧ Kp R w w' ∧ Rd R w' a len cap (p + 4)

end Go.Proofs.YtcokdcehjibanaaGreatDoor
