/- Laid together: what the claim needs of the texts that were built one by one. -/
import Derived.Test.YtabphkmhafflbaaPkBase
import Derived.Deep.RegionHeld3
namespace Go.Proofs.Ytabphkmhafflbaa
open Go.ChangeShapes Go.WideShapes Go.ChangeAt Go.RowKit
set_option linter.unusedVariables false

theorem Kp.frozen {R b o : Nat} {w w' : World} (h : Kp R w w') (hb : b < w.heap.size) (hn : b ≠ R) : w'.frozen? ⟨b, o, none⟩ = w.frozen? ⟨b, o, none⟩ := by
  have := h.all b hb hn
  simp only [World.frozen?, this]

theorem BytesAt.up {B : Nat} {w w' : World} {a : Option Addr} {len : Nat} (h : BytesAt w a len) (hl : ∀ g o, a = some ⟨g, o, none⟩ → 0 < len → g < B) (hb : Below B w w') : BytesAt w' a len := by
  rcases h with h | ⟨g, o, ha, h⟩
  · exact Or.inl h
  · refine Or.inr ⟨g, o, ha, fun i hi => ?_⟩
    obtain ⟨z, hz, h2⟩ := h i hi
    exact ⟨z, (hb.cell (p := ⟨g, o + i, none⟩) (hl g o ha (by omega))).trans hz, h2⟩

theorem Rd.up {R : Nat} {w w' : World} {a : Option Addr} {len cap p : Nat} (h : Rd R w a len cap p) (hb : Below (R + 1) w w') : Rd R w' a len cap p := by
  obtain ⟨h1, h2, h3, h4, h5, h6, h7⟩ := h
  exact ⟨(hb.cell (p := ⟨R, 0, none⟩) (Nat.lt_succ_self R)).trans h1, (hb.cell (p := ⟨R, 1, none⟩) (Nat.lt_succ_self R)).trans h2, (hb.frozen (p := ⟨R, 1, none⟩) (Nat.lt_succ_self R)).trans h3, h4, h5, BytesAt.up h6 (fun g o e h => Nat.lt_succ_of_lt (h7 g o e h)) hb, h7⟩
end Go.Proofs.Ytabphkmhafflbaa
