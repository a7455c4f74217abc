/- Proved here: a window is drawn. -/
import Derived.Test.YtbockbdlojkpiaaGreatDraw3
import Derived.Deep.DeepCutAuto
namespace Go.Proofs.YtbockbdlojkpiaaGreat
open Go.ChangeShapes Go.WideShapes Go.ChangeAt Go.RowKit
set_option linter.unusedVariables false

theorem el5 (x : Int) (bx1 : 0 ≤ x) (bx2 : x ≤ 60) (y : Int) (h3 : 0 ≤ y) (h4 : y < 5) : ∃ t : Int, (#[Value.int .i64 0, .int .i64 5, .int .i64 20, .int .i64 60, .int .i64 x] : Array Value)[y.toNat]? = some (.int .i64 t) ∧ ([Value.int .i64 0, .int .i64 5, .int .i64 20, .int .i64 60, .int .i64 x] : List Value)[y.toNat]? = some (.int .i64 t) ∧ (∀ h, ([Value.int .i64 0, .int .i64 5, .int .i64 20, .int .i64 60, .int .i64 x] : List Value)[y.toNat]'h = .int .i64 t) ∧ 0 ≤ t ∧ t ≤ 60 := by
  have : y = 0 ∨ y = 1 ∨ y = 2 ∨ y = 3 ∨ y = 4 := by omega
  rcases this with rfl | rfl | rfl | rfl | rfl
  · exact ⟨0, rfl, rfl, fun _ => rfl, by omega, by omega⟩
  · exact ⟨5, rfl, rfl, fun _ => rfl, by omega, by omega⟩
  · exact ⟨20, rfl, rfl, fun _ => rfl, by omega, by omega⟩
  · exact ⟨60, rfl, rfl, fun _ => rfl, by omega, by omega⟩
  · exact ⟨x, rfl, rfl, fun _ => rfl, by omega, by omega⟩
theorem el4  (y : Int) (h3 : 0 ≤ y) (h4 : y < 4) : ∃ t : Int, (#[Value.int .i64 1, .int .i64 5, .int .i64 10, .int .i64 20] : Array Value)[y.toNat]? = some (.int .i64 t) ∧ ([Value.int .i64 1, .int .i64 5, .int .i64 10, .int .i64 20] : List Value)[y.toNat]? = some (.int .i64 t) ∧ (∀ h, ([Value.int .i64 1, .int .i64 5, .int .i64 10, .int .i64 20] : List Value)[y.toNat]'h = .int .i64 t) ∧ 1 ≤ t ∧ t ≤ 20 := by
  have : y = 0 ∨ y = 1 ∨ y = 2 ∨ y = 3 := by omega
  rcases this with rfl | rfl | rfl | rfl
  · exact ⟨1, rfl, rfl, fun _ => rfl, by omega, by omega⟩
  · exact ⟨5, rfl, rfl, fun _ => rfl, by omega, by omega⟩
  · exact ⟨10, rfl, rfl, fun _ => rfl, by omega, by omega⟩
  · exact ⟨20, rfl, rfl, fun _ => rfl, by omega, by omega⟩
theorem el3 (x : Int) (bx1 : (-1) ≤ x) (bx2 : x ≤ 121) (y : Int) (h3 : 0 ≤ y) (h4 : y < 3) : ∃ t : Int, (#[Value.int .i64 (-1), .int .i64 61, .int .i64 x] : Array Value)[y.toNat]? = some (.int .i64 t) ∧ ([Value.int .i64 (-1), .int .i64 61, .int .i64 x] : List Value)[y.toNat]? = some (.int .i64 t) ∧ (∀ h, ([Value.int .i64 (-1), .int .i64 61, .int .i64 x] : List Value)[y.toNat]'h = .int .i64 t) ∧ (-1) ≤ t ∧ t ≤ 121 := by
  have : y = 0 ∨ y = 1 ∨ y = 2 := by omega
  rcases this with rfl | rfl | rfl
  · exact ⟨(-1), rfl, rfl, fun _ => rfl, by omega, by omega⟩
  · exact ⟨61, rfl, rfl, fun _ => rfl, by omega, by omega⟩
  · exact ⟨x, rfl, rfl, fun _ => rfl, by omega, by omega⟩
theorem el4b  (y : Int) (h3 : 0 ≤ y) (h4 : y < 4) : ∃ t : Int, (#[Value.int .i64 121, .int .i64 120, .int .i64 0, .int .i64 (-1)] : Array Value)[y.toNat]? = some (.int .i64 t) ∧ ([Value.int .i64 121, .int .i64 120, .int .i64 0, .int .i64 (-1)] : List Value)[y.toNat]? = some (.int .i64 t) ∧ (∀ h, ([Value.int .i64 121, .int .i64 120, .int .i64 0, .int .i64 (-1)] : List Value)[y.toNat]'h = .int .i64 t) ∧ (-1) ≤ t ∧ t ≤ 121 := by
  have : y = 0 ∨ y = 1 ∨ y = 2 ∨ y = 3 := by omega
  rcases this with rfl | rfl | rfl | rfl
  · exact ⟨121, rfl, rfl, fun _ => rfl, by omega, by omega⟩
  · exact ⟨120, rfl, rfl, fun _ => rfl, by omega, by omega⟩
  · exact ⟨0, rfl, rfl, fun _ => rfl, by omega, by omega⟩
  · exact ⟨(-1), rfl, rfl, fun _ => rfl, by omega, by omega⟩
/-- A window in a box of its own; the box of the answer is empty. -/
structure WinAt (R : Nat) (w W : World) (B : Nat) (s0 e0 : Int) : Prop where
  c0 : W.cell? ⟨B, 0, none⟩ = some (.int .i64 s0)
  c1 : W.cell? ⟨B, 1, none⟩ = some (.int .i64 e0)
  f0 : W.frozen? ⟨B, 0, none⟩ = false
  f1 : W.frozen? ⟨B, 1, none⟩ = false
  r0 : W.cell? ⟨w.heap.size, 0, none⟩ = some (.int .i64 0)
  r1 : W.cell? ⟨w.heap.size, 1, none⟩ = some (.int .i64 0)
  g0 : W.frozen? ⟨w.heap.size, 0, none⟩ = false
  g1 : W.frozen? ⟨w.heap.size, 1, none⟩ = false
  lo : w.heap.size < B
  hi : B < W.heap.size
  nr : B ≠ R
  s1 : -1 ≤ s0
  s2 : s0 ≤ 121
  e1 : -1 ≤ e0
  e2 : e0 ≤ 121
  kp : Kp R w W
/-- What a drawn window is. -/
def WinP (R : Nat) (w : World) (a : Option Addr) (len cap p : Nat) (e : Ending) (w' : World) : Prop := ∃ s0 e0 : Int, e = .returned (.agg #[.int .i64 s0, .int .i64 e0]) ∧ (-1 ≤ s0 ∧ s0 ≤ 121) ∧ (-1 ≤ e0 ∧ e0 ≤ 121) ∧ Kp R w w' ∧ ∃ p', p' ≤ p + 7 ∧ Rd R w' a len cap p'
end Go.Proofs.YtbockbdlojkpiaaGreat
