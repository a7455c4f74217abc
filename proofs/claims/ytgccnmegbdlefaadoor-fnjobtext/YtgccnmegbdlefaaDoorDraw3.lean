/- Proved here: a record is drawn. -/
import Derived.Test.YtgccnmegbdlefaaDoorDraw2
import Derived.Deep.RegionHeld3
namespace Go.Proofs.YtgccnmegbdlefaaDoor
open Go.ChangeShapes Go.WideShapes Go.ChangeAt Go.RowKit
set_option linter.unusedVariables false

theorem Kp.frozen {R b o : Nat} {w w' : World} (h : Kp R w w') (hb : b < w.heap.size) (hn : b ≠ R) : w'.frozen? ⟨b, o, none⟩ = w.frozen? ⟨b, o, none⟩ := by
  have := h.all b hb hn
  simp only [World.frozen?, this]

theorem BytesAt.up {B : Nat} {w w' : World} {a : Option Addr} {len : Nat} (h : BytesAt w a len) (hl : ∀ g o, a = some ⟨g, o, none⟩ → 0 < len → g < B) (hb : Below B w w') : BytesAt w' a len := by
  rcases h with h | ⟨g, o, ha, h⟩
  · exact Or.inl h
  · refine Or.inr ⟨g, o, ha, fun i hi => ?_⟩
    obtain ⟨z, hz, h2⟩ := h i hi
    exact ⟨z, (hb.cell (p := ⟨g, o + i, none⟩) (hl g o ha (by omega))).trans hz, h2⟩

theorem Rd.up {R : Nat} {w w' : World} {a : Option Addr} {len cap p : Nat} (h : Rd R w a len cap p) (hb : Below (R + 1) w w') : Rd R w' a len cap p := by
  obtain ⟨h1, h2, h3, h4, h5, h6, h7⟩ := h
  exact ⟨(hb.cell (p := ⟨R, 0, none⟩) (Nat.lt_succ_self R)).trans h1, (hb.cell (p := ⟨R, 1, none⟩) (Nat.lt_succ_self R)).trans h2, (hb.frozen (p := ⟨R, 1, none⟩) (Nat.lt_succ_self R)).trans h3, h4, h5, BytesAt.up h6 (fun g o e h => Nat.lt_succ_of_lt (h7 g o e h)) hb, h7⟩

theorem up_alloc {B : Nat} {w W : World} (h : Below B w W) (hB : B ≤ W.heap.size) (o : Obj) : Below B w (W.alloc o) := h.alloc hB o

theorem kp_setN {R : Nat} {w W : World} {p : Addr} (h : Kp R w W) (hp : w.heap.size ≤ p.block) (hR : R < w.heap.size) (v : Value) : Kp R w (W.setCell p v) :=
  ⟨h.low.setCell (Nat.le_trans (Nat.le_of_lt hR) hp) v, fun b hb hn => (Below.heap_setCell _ _ _ _ (by omega)).trans (h.all b hb hn)⟩

theorem kp_alloc {R : Nat} {w W : World} (hR : R < w.heap.size) (h : Kp R w W) (o : Obj) : Kp R w (W.alloc o) := h.trans (Kp.of_bel (Nat.le_of_lt (Nat.lt_of_lt_of_le hR h.low.size)) (bel_one _ _))

theorem kp_drew {R : Nat} {w W : World} (h : Kp R w W) : Kp R w W.drew := ⟨h.low.drew, h.all⟩

theorem kp_drewN {R : Nat} {w W : World} (h : Kp R w W) (n : Nat) : Kp R w (W.drewN n) := h.trans (Kp.draws R W n)

theorem kp_set {R o : Nat} {w W : World} (h : Kp R w W) (v : Value) : Kp R w (W.setCell ⟨R, o, none⟩ v) := h.trans (Kp.set v)

theorem six (x y : Int) (h1 : 0 ≤ x) (h2 : x < 61) (h3 : 0 ≤ y) (h4 : y < 6) : ∃ t : Int, (#[Value.int .i64 0, .int .i64 1, .int .i64 5, .int .i64 20, .int .i64 60, .int .i64 x] : Array Value)[y.toNat]? = some (.int .i64 t) ∧ ([Value.int .i64 0, .int .i64 1, .int .i64 5, .int .i64 20, .int .i64 60, .int .i64 x] : List Value)[y.toNat]? = some (.int .i64 t) ∧ (∀ h, ([Value.int .i64 0, .int .i64 1, .int .i64 5, .int .i64 20, .int .i64 60, .int .i64 x] : List Value)[y.toNat]'h = .int .i64 t) ∧ 0 ≤ t ∧ t ≤ 60 := by
  have : y = 0 ∨ y = 1 ∨ y = 2 ∨ y = 3 ∨ y = 4 ∨ y = 5 := by omega
  rcases this with rfl | rfl | rfl | rfl | rfl | rfl
  · exact ⟨0, rfl, rfl, fun _ => rfl, by omega, by omega⟩
  · exact ⟨1, rfl, rfl, fun _ => rfl, by omega, by omega⟩
  · exact ⟨5, rfl, rfl, fun _ => rfl, by omega, by omega⟩
  · exact ⟨20, rfl, rfl, fun _ => rfl, by omega, by omega⟩
  · exact ⟨60, rfl, rfl, fun _ => rfl, by omega, by omega⟩
  · exact ⟨x, rfl, rfl, fun _ => rfl, h1, by omega⟩
end Go.Proofs.YtgccnmegbdlefaaDoor
