/- Laid together: what the claim needs of the texts that were built one by one. -/
import Derived.Test.YtflignpbboiahaaGreatQ18
import Derived.Test.YtflignpbboiahaaGreatQ24
import Derived.Test.YtflignpbboiahaaGreatQ4
import Derived.Test.YtflignpbboiahaaGreatQ1
import Derived.Deep.DeepCutAuto
import Derived.Test.YtflignpbboiahaaGreatQ0
set_option linter.unusedVariables false
namespace Go.Proofs.YtflignpbboiahaaGreat
open Go.ChangeShapes Go.WideShapes Go.ChangeAt Go.RowKit
theorem hd_10_2_5 {b0 b1 b2 a0 a1 a2 a3 a4 a5 a6 a7 a8 a9 c0 c1 e0 e1 e2 e3 e4 : Nat} {k0 k1 k2 k3 k4 k5 k6 k7 k8 k9 l0 l1 m0 m1 m2 m3 m4 : Value} {W W' : World} (h : ((W.cell? ⟨b0, a0, none⟩ = some k0 ∧ W.cell? ⟨b0, a1, none⟩ = some k1 ∧ W.cell? ⟨b0, a2, none⟩ = some k2 ∧ W.cell? ⟨b0, a3, none⟩ = some k3 ∧ W.cell? ⟨b0, a4, none⟩ = some k4 ∧ W.cell? ⟨b0, a5, none⟩ = some k5 ∧ W.cell? ⟨b0, a6, none⟩ = some k6 ∧ W.cell? ⟨b0, a7, none⟩ = some k7 ∧ W.cell? ⟨b0, a8, none⟩ = some k8 ∧ W.cell? ⟨b0, a9, none⟩ = some k9 ∧ W.cell? ⟨b1, c0, none⟩ = some l0 ∧ W.cell? ⟨b1, c1, none⟩ = some l1 ∧ W.cell? ⟨b2, e0, none⟩ = some m0 ∧ W.cell? ⟨b2, e1, none⟩ = some m1 ∧ W.cell? ⟨b2, e2, none⟩ = some m2 ∧ W.cell? ⟨b2, e3, none⟩ = some m3 ∧ W.cell? ⟨b2, e4, none⟩ = some m4) ∧ b0 < W.heap.size ∧ b1 < W.heap.size ∧ b2 < W.heap.size)) (hb : Below W.heap.size W W') : ((W'.cell? ⟨b0, a0, none⟩ = some k0 ∧ W'.cell? ⟨b0, a1, none⟩ = some k1 ∧ W'.cell? ⟨b0, a2, none⟩ = some k2 ∧ W'.cell? ⟨b0, a3, none⟩ = some k3 ∧ W'.cell? ⟨b0, a4, none⟩ = some k4 ∧ W'.cell? ⟨b0, a5, none⟩ = some k5 ∧ W'.cell? ⟨b0, a6, none⟩ = some k6 ∧ W'.cell? ⟨b0, a7, none⟩ = some k7 ∧ W'.cell? ⟨b0, a8, none⟩ = some k8 ∧ W'.cell? ⟨b0, a9, none⟩ = some k9 ∧ W'.cell? ⟨b1, c0, none⟩ = some l0 ∧ W'.cell? ⟨b1, c1, none⟩ = some l1 ∧ W'.cell? ⟨b2, e0, none⟩ = some m0 ∧ W'.cell? ⟨b2, e1, none⟩ = some m1 ∧ W'.cell? ⟨b2, e2, none⟩ = some m2 ∧ W'.cell? ⟨b2, e3, none⟩ = some m3 ∧ W'.cell? ⟨b2, e4, none⟩ = some m4) ∧ b0 < W'.heap.size ∧ b1 < W'.heap.size ∧ b2 < W'.heap.size) := by
 obtain ⟨h99, s0, s1, s2⟩ := h
 have e0 : ∀ z, W'.cell? ⟨b0, z, none⟩ = W.cell? ⟨b0, z, none⟩ := fun z => hb.cell s0
 have e1 : ∀ z, W'.cell? ⟨b1, z, none⟩ = W.cell? ⟨b1, z, none⟩ := fun z => hb.cell s1
 have e2 : ∀ z, W'.cell? ⟨b2, z, none⟩ = W.cell? ⟨b2, z, none⟩ := fun z => hb.cell s2
 refine ⟨?_, Nat.lt_of_lt_of_le s0 hb.size, Nat.lt_of_lt_of_le s1 hb.size, Nat.lt_of_lt_of_le s2 hb.size⟩
 simp only [e0, e1, e2]
 exact h99
theorem own_gPt {W W' : World} {row : Option Nat} {B size n : Nat} {e : TypeId} {v : Value} {ys : List Value} (h : W.ownsRow B e size v n ys) (hg : W.grownBy W' row) (hne : ∀ k, row = some k → v.ownBlock ≠ some k) : W'.ownsRow B e size v n ys := by
 rcases h with ⟨hl, h | ⟨q, cap, cur, rfl, hB, hblk, r⟩⟩
 ·exact ⟨hl, Or.inl h⟩
 ·exact ⟨hl, Or.inr ⟨q, cap, cur, rfl, hB, (hg.block q (Array.getElem?_eq_some_iff.1 hblk).1 (fun e9 => hne q e9.symm rfl)).trans hblk, r⟩⟩
theorem own_no_bothT {W : World} {B B' size size' n n' : Nat} {e e' : TypeId} {v v' : Value} {ys ys' : List Value} (h : W.ownsRow B e size v n ys) (h' : W.ownsRow B' e' size' v' n' ys') (hne : e' ≠ e) : ∀ k, v.ownBlock = some k → v'.ownBlock ≠ some k := by
 intro k hk hk'
 rcases h'.2 with ⟨rfl, _⟩ | ⟨g, cap, cur, rfl, _, hgb, _⟩
 ·cases hk'
 ·simp [Value.ownBlock] at hk'
  subst hk'
  exact own_ne_ty h hgb hne hk
theorem own_monoXt {W : World} {B B' size n : Nat} {e : TypeId} {v : Value} {ys : List Value} (h : W.ownsRow B e size v n ys) (hB : B' ≤ B) : W.ownsRow B' e size v n ys := World.ownsRow.mono h hB
theorem grown_al {w w' : World} {o : Obj} {row : Option Nat} (h : (w.alloc o).grownBy w' row) : w.grownBy w' row :=
 ⟨h.os, h.tape, h.output, by have := h.size; simp at this; omega, fun k hk hne => (h.block k (by simp; omega) hne).trans (Below.heap_alloc _ _ _ hk)⟩
theorem row_ownOr {a : Option Addr} {n c b : Nat} (h : rowOr a n = some b) : (Value.slice a n c).ownBlock = some b := by
 unfold rowOr at h
 split at h
 ·cases h
 ·cases a with
  | none => cases h
  | some p => simp at h; simp [Value.ownBlock, h]
theorem row_ownPn {a : Option Addr} {n c b : Nat} (h : rowPn a n = some b) : (Value.slice a n c).ownBlock = some b := by
 unfold rowPn at h
 split at h
 ·cases h
 ·cases a with
  | none => cases h
  | some p => simp at h; simp [Value.ownBlock, h]
theorem row_ownLp {a : Option Addr} {n c b : Nat} (h : rowLp a n = some b) : (Value.slice a n c).ownBlock = some b := by
 unfold rowLp at h
 split at h
 ·cases h
 ·cases a with
  | none => cases h
  | some p => simp at h; simp [Value.ownBlock, h]
theorem markStG_any (K : Int) (h0K : 0 ≤ K) (hK : K ≤ 8796093022208) (m : Int) (a : Option Addr) (n cap : Nat) (w : World) (h : WrOr w a n cap) (hn : n ≤ 1048576) : Calls Tryz.prog 13 #[.agg #[.int .i64 m, .slice a n cap], .int .i64 K] w fun e w' => e = .returned (.int .i64 (K + 13 * (n : Int))) ∧ MarkedKOr w' a n K ∧ w.grownBy w' (rowOr a n) := by
 go_enter Tryz.func13, Tryz.ntmps13
 go_wp2_with fail
 refine (markKOr_any K h0K (by omega) a n cap _ (h.below (bel_one _ _)) hn).mono ?_
 rintro e w1 ⟨rfl, hM, hg⟩
 go_wp2
 go_ret
 exact ⟨rfl, hM, grown_al hg⟩
theorem heldStG_any (K : Int) (h0K : 0 ≤ K) (hK : K ≤ 8796093022208) (m : Int) (a : Option Addr) (n cap : Nat) (w : World) (h : MarkedKOr w a n K) (hn : n ≤ 1048576) : Calls Tryz.prog 16 #[.agg #[.int .i64 m, .slice a n cap], .int .i64 K] w fun e w' => e = .returned (.int .i64 (K + 13 * (n : Int))) ∧ Below w.heap.size w w' := by
 go_enter Tryz.func16, Tryz.ntmps16
 go_wp2_with (go_at_call 34; refine (heldKOr_any K h0K (by omega) a n cap _ (h.below (bel_one _ _)) hn).mono ?_; rintro e w1 ⟨rfl, hw⟩; obtain rfl := hw.symm; clear hw)
 go_ret
 exact ⟨rfl, (belA)⟩
def Res (W : World) (B Bx : Nat) (a : Option Addr) (c : Nat) (pa : Option Addr) (pc : Nat) (la : Option Addr) (lc : Nat) (M : Int) (R : List OrR) (P : List PnR) (L : List LpR) : Prop := W.heap[Bx]? = some (.cells #[.int .i64 M, .slice a R.length c] 32 (0, 0)) ∧ OwnOr W B (.slice a R.length c) R ∧ OwnPn W B (.slice pa P.length pc) P ∧ OwnLp W B (.slice la L.length lc) L
theorem Res.lt {W : World} {B Bx : Nat} {a : Option Addr} {c : Nat} {pa : Option Addr} {pc : Nat} {la : Option Addr} {lc : Nat} {M : Int} {R : List OrR} {P : List PnR} {L : List LpR} (h : Res W B Bx a c pa pc la lc M R P L) : Bx < W.heap.size := (Array.getElem?_eq_some_iff.1 h.1).1
theorem Res.below {W W' : World} {B Bx : Nat} {a : Option Addr} {c : Nat} {pa : Option Addr} {pc : Nat} {la : Option Addr} {lc : Nat} {M : Int} {R : List OrR} {P : List PnR} {L : List LpR} (h : Res W B Bx a c pa pc la lc M R P L) (hb : Below W.heap.size W W') : Res W' B Bx a c pa pc la lc M R P L := ⟨(hb.block _ h.lt).trans h.1, own_row h.2.1 (grown_of0 hb) (fun _ e9 => by cases e9), own_row h.2.2.1 (grown_of0 hb) (fun _ e9 => by cases e9), own_row h.2.2.2 (grown_of0 hb) (fun _ e9 => by cases e9)⟩
theorem Res.grown {W W' : World} {row : Option Nat} {B Bx : Nat} {a : Option Addr} {c : Nat} {pa : Option Addr} {pc : Nat} {la : Option Addr} {lc : Nat} {M : Int} {R : List OrR} {P : List PnR} {L : List LpR} (h : Res W B Bx a c pa pc la lc M R P L) (hg : W.grownBy W' row) (hne : ∀ k, row = some k → k ≠ Bx ∧ (Value.slice a R.length c).ownBlock ≠ some k ∧ (Value.slice pa P.length pc).ownBlock ≠ some k ∧ (Value.slice la L.length lc).ownBlock ≠ some k) : Res W' B Bx a c pa pc la lc M R P L := ⟨(hg.block _ h.lt (fun e9 => (hne Bx e9.symm).1 rfl)).trans h.1, own_gPt h.2.1 hg (fun k e9 => (hne k e9).2.1), own_gPt h.2.2.1 hg (fun k e9 => (hne k e9).2.2.1), own_gPt h.2.2.2 hg (fun k e9 => (hne k e9).2.2.2)⟩
theorem Res.cells {W : World} {B Bx : Nat} {a : Option Addr} {c : Nat} {pa : Option Addr} {pc : Nat} {la : Option Addr} {lc : Nat} {M : Int} {R : List OrR} {P : List PnR} {L : List LpR} (h : Res W B Bx a c pa pc la lc M R P L) : W.cell? ⟨Bx, 0, none⟩ = some (.int .i64 M) ∧ W.cell? ⟨Bx, 1, none⟩ = some (.slice a R.length c) := ⟨Joins.cell_of_block h.1 0, Joins.cell_of_block h.1 1⟩
theorem Res.or {W : World} {B Bx : Nat} {a : Option Addr} {c : Nat} {pa : Option Addr} {pc : Nat} {la : Option Addr} {lc : Nat} {M : Int} {R : List OrR} {P : List PnR} {L : List LpR} (h : Res W B Bx a c pa pc la lc M R P L) (hl : R.length ≤ 1048576) : OrRs W a R.length R ∧ WrOr W a R.length c := by
 obtain ⟨a9, c9, e9, h1, h2, _⟩ := holdOr h.2.1 hl
 simp at e9
 obtain ⟨rfl, rfl⟩ := e9
 exact ⟨h1, h2⟩
theorem Res.pn {W : World} {B Bx : Nat} {a : Option Addr} {c : Nat} {pa : Option Addr} {pc : Nat} {la : Option Addr} {lc : Nat} {M : Int} {R : List OrR} {P : List PnR} {L : List LpR} (h : Res W B Bx a c pa pc la lc M R P L) (hl : P.length ≤ 1048576) : PnRs W pa P.length P ∧ WrPn W pa P.length pc := by
 obtain ⟨a9, c9, e9, h1, h2, _⟩ := holdPn h.2.2.1 hl
 simp at e9
 obtain ⟨rfl, rfl⟩ := e9
 exact ⟨h1, h2⟩
theorem Res.lp {W : World} {B Bx : Nat} {a : Option Addr} {c : Nat} {pa : Option Addr} {pc : Nat} {la : Option Addr} {lc : Nat} {M : Int} {R : List OrR} {P : List PnR} {L : List LpR} (h : Res W B Bx a c pa pc la lc M R P L) (hl : L.length ≤ 1048576) : LpRs W la L.length L ∧ WrLp W la L.length lc := by
 obtain ⟨a9, c9, e9, h1, h2, _⟩ := holdLp h.2.2.2 hl
 simp at e9
 obtain ⟨rfl, rfl⟩ := e9
 exact ⟨h1, h2⟩
def BoxT (W0 : World) (M : Int) (R : List OrR) (P : List PnR) (L : List LpR) (pv qv rv : Value) (W : World) : Prop := ∃ (Bx : Nat) (a : Option Addr) (c : Nat) (pa : Option Addr) (pc : Nat) (la : Option Addr) (lc : Nat), pv = .pointer (some ⟨Bx, 0, none⟩) ∧ qv = .slice pa P.length pc ∧ rv = .slice la L.length lc ∧ Res W W0.heap.size Bx a c pa pc la lc M R P L ∧ W0.heap.size ≤ Bx ∧ Below W0.heap.size W0 W
theorem boxEarly3 {W0 wn : World} {M : Int} {R : List OrR} {P : List PnR} {L : List LpR} {Bx B c pc lc : Nat} {a pa la : Option Addr} (zb : wn.heap[Bx]? = some (.cells #[.int .i64 0, .slice none 0 0] 32 (0, 0))) (hO : OwnOr wn B (.slice a R.length c) R) (hP : OwnPn wn B (.slice pa P.length pc) P) (hL : OwnLp wn B (.slice la L.length lc) L) (hB : W0.heap.size ≤ B) (hx : W0.heap.size ≤ Bx) (hb : Below W0.heap.size W0 wn) : BoxT W0 M R P L (.pointer (some ⟨Bx, 0, none⟩)) (.slice pa P.length pc) (.slice la L.length lc) ((wn.setCell ⟨Bx, 0, none⟩ (.int .i64 M)).setCell ⟨Bx, 1, none⟩ (.slice a R.length c)) :=
 ⟨Bx, a, c, pa, pc, la, lc, rfl, rfl, rfl, ⟨Joins.block_setCell (Joins.block_setCell zb _) _, own_monoXt (own_setX (own_setX hO (own_ne_ty hO zb (by decide))) (own_ne_ty hO zb (by decide))) hB, own_monoXt (own_setX (own_setX hP (own_ne_ty hP zb (by decide))) (own_ne_ty hP zb (by decide))) hB, own_monoXt (own_setX (own_setX hL (own_ne_ty hL zb (by decide))) (own_ne_ty hL zb (by decide))) hB⟩, hx, bel_set (bel_set hb hx _) hx _⟩
theorem boxLate3 {W0 wn : World} {M : Int} {R : List OrR} {P : List PnR} {L : List LpR} {B c pc lc : Nat} {a pa la : Option Addr} (hO : OwnOr wn B (.slice a R.length c) R) (hP : OwnPn wn B (.slice pa P.length pc) P) (hL : OwnLp wn B (.slice la L.length lc) L) (hB : W0.heap.size ≤ B) (hb : Below W0.heap.size W0 wn) : BoxT W0 M R P L (.pointer (some ⟨wn.heap.size, 0, none⟩)) (.slice pa P.length pc) (.slice la L.length lc) (wn.alloc (.cells #[.int .i64 M, .slice a R.length c] 32)) :=
 ⟨wn.heap.size, a, c, pa, pc, la, lc, rfl, rfl, rfl, ⟨World.alloc_heap_new wn _, own_monoXt (World.ownsRow.alloc hO _) hB, own_monoXt (World.ownsRow.alloc hP _) hB, own_monoXt (World.ownsRow.alloc hL _) hB⟩, hb.size, bel_alloc hb _⟩
theorem spectake_eq (s t k z q l e : Int) (b : Bool) (v r m : Int) (a : Option Addr) (len cap : Nat) (xs : List OrR) (x1 x2 x3 x4 x5 : Int) (w : World) {M : Int} {R : List OrR} {P : List PnR} {L : List LpR} (h : OrRs w a len xs) (hl : len ≤ 1048576) (hN : Hid (takF s t k z q l e b v r m xs x1 x2 x3 x4 x5 = (M, R, P, L))) : Calls Tryz.prog 5 #[.agg #[.int .i64 s, .int .i64 t, .int .i64 k, .int .i64 z, .int .i64 q, .int .i64 l, .int .i64 e, .bool b, .int .i64 v, .int .i64 r], .agg #[.int .i64 m, .slice a len cap], .agg #[.int .i64 x1, .int .i64 x2, .int .i64 x3, .int .i64 x4, .int .i64 x5]] w fun e' w' => ∃ a1 c1 pa pc la lc, e' = .returned (.tuple #[.agg #[.int .i64 M, .slice a1 R.length c1], .slice pa P.length pc, .slice la L.length lc]) ∧ OwnOr w' w.heap.size (.slice a1 R.length c1) R ∧ OwnPn w' w.heap.size (.slice pa P.length pc) P ∧ OwnLp w' w.heap.size (.slice la L.length lc) L ∧ Below w.heap.size w w' := by
 refine (spectake_any s t k z q l e b v r m a len cap xs x1 x2 x3 x4 x5 w h).mono ?_
 rintro e' w' ⟨v1, v2, v3, rfl, hO, hP, hL, hb⟩
 have hle := tk_le s t k z q l e b v r m xs x1 x2 x3 x4 x5
 rw [unhide hN] at hO hP hL hle ⊢
 dsimp only at hO hP hL hle ⊢
 obtain ⟨a1, c1, rfl, _⟩ := holdOr hO hle.1
 obtain ⟨pa, pc, rfl, _⟩ := holdPn hP hle.2.1
 obtain ⟨la, lc, rfl, _⟩ := holdLp hL hle.2.2
 exact ⟨a1, c1, pa, pc, la, lc, rfl, hO, hP, hL, hb⟩
theorem impltake_eq (s t k z q l e : Int) (b : Bool) (v r m : Int) (a : Option Addr) (len cap : Nat) (xs : List OrR) (x1 x2 x3 x4 x5 : Int) (w : World) {M : Int} {R : List OrR} {P : List PnR} {L : List LpR} (h : OrRs w a len xs) (hl : len ≤ 1048576) (hN : Hid (takF s t k z q l e b v r m xs x1 x2 x3 x4 x5 = (M, R, P, L))) : Calls Tryz.prog 9 #[.agg #[.int .i64 s, .int .i64 t, .int .i64 k, .int .i64 z, .int .i64 q, .int .i64 l, .int .i64 e, .bool b, .int .i64 v, .int .i64 r], .agg #[.int .i64 m, .slice a len cap], .agg #[.int .i64 x1, .int .i64 x2, .int .i64 x3, .int .i64 x4, .int .i64 x5]] w fun e' w' => ∃ a1 c1 pa pc la lc, e' = .returned (.tuple #[.agg #[.int .i64 M, .slice a1 R.length c1], .slice pa P.length pc, .slice la L.length lc]) ∧ OwnOr w' w.heap.size (.slice a1 R.length c1) R ∧ OwnPn w' w.heap.size (.slice pa P.length pc) P ∧ OwnLp w' w.heap.size (.slice la L.length lc) L ∧ Below w.heap.size w w' := by
 refine (impltake_any s t k z q l e b v r m a len cap xs x1 x2 x3 x4 x5 w h).mono ?_
 rintro e' w' ⟨v1, v2, v3, rfl, hO, hP, hL, hb⟩
 have hle := tk_le s t k z q l e b v r m xs x1 x2 x3 x4 x5
 rw [unhide hN] at hO hP hL hle ⊢
 dsimp only at hO hP hL hle ⊢
 obtain ⟨a1, c1, rfl, _⟩ := holdOr hO hle.1
 obtain ⟨pa, pc, rfl, _⟩ := holdPn hP hle.2.1
 obtain ⟨la, lc, rfl, _⟩ := holdLp hL hle.2.2
 exact ⟨a1, c1, pa, pc, la, lc, rfl, hO, hP, hL, hb⟩
set_option linter.unusedSimpArgs false in
set_option maxRecDepth 20000 in
set_option maxHeartbeats 16000000 in
theorem lawOpTake (s t k z q l e : Int) (b : Bool) (v r m : Int) (a0 : Option Addr) (len0 cap0 : Nat) (z0 : List OrR) (x1 x2 x3 x4 x5 : Int) (w : World) (h0 : OrRs w a0 len0 z0) : Calls Tryz.prog 3 #[.agg #[.int .i64 s, .int .i64 t, .int .i64 k, .int .i64 z, .int .i64 q, .int .i64 l, .int .i64 e, .bool b, .int .i64 v, .int .i64 r], .agg #[.int .i64 m, .slice a0 len0 cap0], .agg #[.int .i64 x1, .int .i64 x2, .int .i64 x3, .int .i64 x4, .int .i64 x5]] w fun e' w' => e' = .returned (.bool true) ∧ Below w.heap.size w w' := by
 have hm0 := h0.2.1
 by_cases hL : (len0 : Int) ≤ 1048576
 rotate_left
 ·go_enter Tryz.func3, Tryz.ntmps3
  go_wp2_with fail
  refine (szSt_big m a0 len0 cap0 _ hm0 (by omega)).mono ?_
  rintro e' wx ⟨rfl, hw⟩
  obtain rfl := hw.symm
  go_wp2_with fail
  go_ret
  exact ⟨rfl, (belA)⟩
 ·have hl0 : len0 ≤ 1048576 := by omega
  have hxl := h0.1
  obtain ⟨M, R, P, L, hN0⟩ : ∃ M R P L, takF s t k z q l e b v r m z0 x1 x2 x3 x4 x5 = (M, R, P, L) := ⟨_, _, _, _, rfl⟩
  have hle9 := tk_le s t k z q l e b v r m z0 x1 x2 x3 x4 x5
  rw [hN0] at hle9
  dsimp only at hle9
  have hlR : R.length ≤ 1048576 := hle9.1
  have hlP : P.length ≤ 1048576 := hle9.2.1
  have hlL : L.length ≤ 1048576 := hle9.2.2
  have hN := hide hN0
  clear hN0 hle9
  have hbb : Below w.heap.size w (((w.alloc (.cells #[.int .i64 s, .int .i64 t, .int .i64 k, .int .i64 z, .int .i64 q, .int .i64 l, .int .i64 e, .bool b, .int .i64 v, .int .i64 r] 23)).alloc (.cells #[.int .i64 m, .slice a0 len0 cap0] 26)).alloc (.cells #[.int .i64 x1, .int .i64 x2, .int .i64 x3, .int .i64 x4, .int .i64 x5] 28)) := bel_alloc (bel_alloc (bel_one _ _) _) _
  have HO0 := h0.below hbb
  go_enter Tryz.func3, Tryz.ntmps3
  go_wp2_with fail
  refine (szSt_small m a0 len0 cap0 _ hm0 hL).mono ?_
  rintro e' w1 ⟨rfl, hw⟩
  have hb1 : Below (((w.alloc (.cells #[.int .i64 s, .int .i64 t, .int .i64 k, .int .i64 z, .int .i64 q, .int .i64 l, .int .i64 e, .bool b, .int .i64 v, .int .i64 r] 23)).alloc (.cells #[.int .i64 m, .slice a0 len0 cap0] 26)).alloc (.cells #[.int .i64 x1, .int .i64 x2, .int .i64 x3, .int .i64 x4, .int .i64 x5] 28)).heap.size (((w.alloc (.cells #[.int .i64 s, .int .i64 t, .int .i64 k, .int .i64 z, .int .i64 q, .int .i64 l, .int .i64 e, .bool b, .int .i64 v, .int .i64 r] 23)).alloc (.cells #[.int .i64 m, .slice a0 len0 cap0] 26)).alloc (.cells #[.int .i64 x1, .int .i64 x2, .int .i64 x3, .int .i64 x4, .int .i64 x5] 28)) w1 := by rw [hw]; exact bel_one _ _
  have y0 : w.heap.size + 2 < w1.heap.size := by have h9 := hb1.size; simp at h9; omega
  clear hw
  have hneg : ¬ (1048576 - (len0 : Int)) < 0 := by omega
  have HO : OrRs w1 a0 len0 z0 := HO0.below hb1
  have hbF1 : Below w.heap.size w w1 := bel_trans hbb hb1
  have hS0 : ((w1.cell? ⟨w.heap.size, 0, none⟩ = some (.int .i64 s) ∧ w1.cell? ⟨w.heap.size, 1, none⟩ = some (.int .i64 t) ∧ w1.cell? ⟨w.heap.size, 2, none⟩ = some (.int .i64 k) ∧ w1.cell? ⟨w.heap.size, 3, none⟩ = some (.int .i64 z) ∧ w1.cell? ⟨w.heap.size, 4, none⟩ = some (.int .i64 q) ∧ w1.cell? ⟨w.heap.size, 5, none⟩ = some (.int .i64 l) ∧ w1.cell? ⟨w.heap.size, 6, none⟩ = some (.int .i64 e) ∧ w1.cell? ⟨w.heap.size, 7, none⟩ = some (.bool b) ∧ w1.cell? ⟨w.heap.size, 8, none⟩ = some (.int .i64 v) ∧ w1.cell? ⟨w.heap.size, 9, none⟩ = some (.int .i64 r) ∧ w1.cell? ⟨w.heap.size + 1, 0, none⟩ = some (.int .i64 m) ∧ w1.cell? ⟨w.heap.size + 1, 1, none⟩ = some (.slice a0 len0 cap0) ∧ w1.cell? ⟨w.heap.size + 1 + 1, 0, none⟩ = some (.int .i64 x1) ∧ w1.cell? ⟨w.heap.size + 1 + 1, 1, none⟩ = some (.int .i64 x2) ∧ w1.cell? ⟨w.heap.size + 1 + 1, 2, none⟩ = some (.int .i64 x3) ∧ w1.cell? ⟨w.heap.size + 1 + 1, 3, none⟩ = some (.int .i64 x4) ∧ w1.cell? ⟨w.heap.size + 1 + 1, 4, none⟩ = some (.int .i64 x5)) ∧ w.heap.size < w1.heap.size ∧ w.heap.size + 1 < w1.heap.size ∧ w.heap.size + 1 + 1 < w1.heap.size) := ⟨⟨(hb1.cell (p := ⟨w.heap.size, 0, none⟩) (by simp <;> omega)).trans (by simp [go_sem]), (hb1.cell (p := ⟨w.heap.size, 1, none⟩) (by simp <;> omega)).trans (by simp [go_sem]), (hb1.cell (p := ⟨w.heap.size, 2, none⟩) (by simp <;> omega)).trans (by simp [go_sem]), (hb1.cell (p := ⟨w.heap.size, 3, none⟩) (by simp <;> omega)).trans (by simp [go_sem]), (hb1.cell (p := ⟨w.heap.size, 4, none⟩) (by simp <;> omega)).trans (by simp [go_sem]), (hb1.cell (p := ⟨w.heap.size, 5, none⟩) (by simp <;> omega)).trans (by simp [go_sem]), (hb1.cell (p := ⟨w.heap.size, 6, none⟩) (by simp <;> omega)).trans (by simp [go_sem]), (hb1.cell (p := ⟨w.heap.size, 7, none⟩) (by simp <;> omega)).trans (by simp [go_sem]), (hb1.cell (p := ⟨w.heap.size, 8, none⟩) (by simp <;> omega)).trans (by simp [go_sem]), (hb1.cell (p := ⟨w.heap.size, 9, none⟩) (by simp <;> omega)).trans (by simp [go_sem]), (hb1.cell (p := ⟨w.heap.size + 1, 0, none⟩) (by simp <;> omega)).trans (by simp [go_sem]), (hb1.cell (p := ⟨w.heap.size + 1, 1, none⟩) (by simp <;> omega)).trans (by simp [go_sem]), (hb1.cell (p := ⟨w.heap.size + 1 + 1, 0, none⟩) (by simp <;> omega)).trans (by simp [go_sem]), (hb1.cell (p := ⟨w.heap.size + 1 + 1, 1, none⟩) (by simp <;> omega)).trans (by simp [go_sem]), (hb1.cell (p := ⟨w.heap.size + 1 + 1, 2, none⟩) (by simp <;> omega)).trans (by simp [go_sem]), (hb1.cell (p := ⟨w.heap.size + 1 + 1, 3, none⟩) (by simp <;> omega)).trans (by simp [go_sem]), (hb1.cell (p := ⟨w.heap.size + 1 + 1, 4, none⟩) (by simp <;> omega)).trans (by simp [go_sem])⟩, by omega, by omega, by omega⟩
  clear hb1 hbb h0 HO0
  go_wp2_with fail
  go_cut [8, 9, 10] (fun pv qv rv W => BoxT w1 M R P L pv qv rv W)
  case first =>
   refine wp_region_held_drew (S := (fun W => ((W.cell? ⟨w.heap.size, 0, none⟩ = some (.int .i64 s) ∧ W.cell? ⟨w.heap.size, 1, none⟩ = some (.int .i64 t) ∧ W.cell? ⟨w.heap.size, 2, none⟩ = some (.int .i64 k) ∧ W.cell? ⟨w.heap.size, 3, none⟩ = some (.int .i64 z) ∧ W.cell? ⟨w.heap.size, 4, none⟩ = some (.int .i64 q) ∧ W.cell? ⟨w.heap.size, 5, none⟩ = some (.int .i64 l) ∧ W.cell? ⟨w.heap.size, 6, none⟩ = some (.int .i64 e) ∧ W.cell? ⟨w.heap.size, 7, none⟩ = some (.bool b) ∧ W.cell? ⟨w.heap.size, 8, none⟩ = some (.int .i64 v) ∧ W.cell? ⟨w.heap.size, 9, none⟩ = some (.int .i64 r) ∧ W.cell? ⟨w.heap.size + 1, 0, none⟩ = some (.int .i64 m) ∧ W.cell? ⟨w.heap.size + 1, 1, none⟩ = some (.slice a0 len0 cap0) ∧ W.cell? ⟨w.heap.size + 1 + 1, 0, none⟩ = some (.int .i64 x1) ∧ W.cell? ⟨w.heap.size + 1 + 1, 1, none⟩ = some (.int .i64 x2) ∧ W.cell? ⟨w.heap.size + 1 + 1, 2, none⟩ = some (.int .i64 x3) ∧ W.cell? ⟨w.heap.size + 1 + 1, 3, none⟩ = some (.int .i64 x4) ∧ W.cell? ⟨w.heap.size + 1 + 1, 4, none⟩ = some (.int .i64 x5)) ∧ w.heap.size < W.heap.size ∧ w.heap.size + 1 < W.heap.size ∧ w.heap.size + 1 + 1 < W.heap.size))) (by kernel_rfl) ?_ (fun hHeld => ?_)
   ·(try dsimp only); exact hd_10_2_5 hS0 (belA)
   refine kV 0 ?_
   refine kV 2 ?_
   refine kV 4 ?_
   refine wpAnyH_ready (rs := [1, 11]) (by kernel_rfl) (by simp) ?_
   refine AllReadyH.cons (by simp only [gA, gZ, gS]; rfl) (fun K hK => ?_) ?_
   ·go_simp
    (go_at_call 6; refine (toJob_any _ _ _ _ _ _ _ _ _ _ _).mono ?_; rintro e' pj ⟨rfl, hbpj⟩)
    (try go_wp2_with fail)
    have szpj := hbpj.size
    (try simp at szpj)
    clear hHeld
    refine hK.out _ _ ?_ (fun hHeld => ?_)
    ·(try dsimp only); exact hd_10_2_5 hS0 (belA)
    clear hK K
    try simp only [Act.put, tA, tZ, tS]
    refine wpAnyH_ready (rs := [3, 11]) (by kernel_rfl) (by simp) ?_
    refine AllReadyH.cons (by simp only [gA, gZ, gS]; rfl) (fun K hK => ?_) ?_
    ·go_simp
     (go_at_call 7; refine (toSt_any m a0 len0 cap0 z0 _ (HO.below (belA)) hl0).mono ?_; rintro e' po ⟨bo, rfl, hOo, _, _, hbpo⟩)
     (try go_wp2_with fail)
     have szpo := hbpo.size
     (try simp at szpo)
     clear hHeld
     refine hK.out _ _ ?_ (fun hHeld => ?_)
     ·(try dsimp only); exact hd_10_2_5 hS0 (belA)
     clear hK K
     try simp only [Act.put, tA, tZ, tS]
     refine wpAnyH_ready (rs := [5, 11]) (by kernel_rfl) (by simp) ?_
     refine AllReadyH.cons (by simp only [gA, gZ, gS]; rfl) (fun K hK => ?_) ?_
     ·go_simp
      (go_at_call 8; refine (toItmT _ _ _ _ _ _).mono ?_; rintro e' pi ⟨rfl, hbpi⟩)
      (try go_wp2_with fail)
      have szpi := hbpi.size
      (try simp at szpi)
      clear hHeld
      refine hK.out _ _ ?_ (fun hHeld => ?_)
      ·(try dsimp only); exact hd_10_2_5 hS0 (belA)
      clear hK K
      try simp only [Act.put, tA, tZ, tS]
      refine wpAnyH_ready (rs := [6, 11]) (by kernel_rfl) (by simp) ?_
      refine AllReadyH.cons (by simp only [gA, gZ, gS]; rfl) (fun K hK => ?_) ?_
      ·go_simp
       (go_at_call 5; refine (spectake_eq s t k z q l e b v r m bo len0 len0 z0 x1 x2 x3 x4 x5 _ (hOo.below (belA)) hl0 hN).mono ?_; rintro e' pn ⟨a, c, pa, pc, la, lc, rfl, hO, hP, hL, hbpn⟩)
       (try go_wp2_with fail)
       have szpn := hbpn.size
       (try simp at szpn)
       clear hHeld
       refine hK.out _ _ ?_ (fun hHeld => ?_)
       ·(try dsimp only); exact hd_10_2_5 hS0 (belA)
       clear hK K
       try simp only [Act.put, tA, tZ, tS]
       refine kV 7 ?_
       refine kV 8 ?_
       refine kV 9 ?_
       refine kV 10 ?_
       refine rD 11 (fun K hK => ?_)
       go_simp
       clear hHeld
       refine hK.out _ _ ?_ (fun hHeld => ?_)
       ·(try dsimp only); exact hd_10_2_5 hS0 (belA)
       clear hK K
       try simp only [Act.put, tA, tZ, tS]
       refine rD 12 (fun K hK => ?_)
       go_simp
       clear hHeld
       refine hK.out _ _ ?_ (fun hHeld => ?_)
       ·(try dsimp only); exact hd_10_2_5 hS0 (belA)
       clear hK K
       try simp only [Act.put, tA, tZ, tS]
       refine kV 13 ?_
       refine kV 14 ?_
       refine wpAnyH_done (by kernel_rfl) ?_ _
       go_wp2
       go_meet
       exact boxLate3 hO hP hL (sB) (belA)
      refine AllReadyH.cons (by simp only [gA, gZ, gS]; rfl) (fun K hK => ?_) AllReadyH.nil
      go_simp
      clear hHeld
      refine hK.out _ _ ?_ (fun hHeld => ?_)
      ·(try dsimp only); exact hd_10_2_5 hS0 (belA)
      clear hK K
      try simp only [Act.put, tA, tZ, tS]
      refine rD 6 (fun K hK => ?_)
      go_simp
      (go_at_call 5; refine (spectake_eq s t k z q l e b v r m bo len0 len0 z0 x1 x2 x3 x4 x5 _ (hOo.below (belA)) hl0 hN).mono ?_; rintro e' pn ⟨a, c, pa, pc, la, lc, rfl, hO, hP, hL, hbpn⟩)
      (try go_wp2_with fail)
      have szpn := hbpn.size
      (try simp at szpn)
      have zb : pn.heap[pi.heap.size]? = some (.cells #[.int .i64 0, .slice none 0 0] 32 (0, 0)) := (hbpn.block (pi.heap.size) (sB)).trans (by first | exact zb | exact World.alloc_heap_new _ _)
      clear hHeld
      refine hK.out _ _ ?_ (fun hHeld => ?_)
      ·(try dsimp only); exact hd_10_2_5 hS0 (belA)
      clear hK K
      try simp only [Act.put, tA, tZ, tS]
      refine kV 7 ?_
      refine kV 8 ?_
      refine kV 9 ?_
      refine kV 10 ?_
      have zc0 := Joins.cell_of_block zb 0
      have zf0 := cF zb 0
      have zc1 := Joins.cell_of_block zb 1
      have zf1 := cF zb 1
      (try simp only [gA, gZ, gS] at zc0 zc1)
      refine rD 12 (fun K hK => ?_)
      go_simp
      clear hHeld
      refine hK.out _ _ ?_ (fun hHeld => ?_)
      ·(try dsimp only); exact hd_10_2_5 hS0 (belA)
      clear hK K
      try simp only [Act.put, tA, tZ, tS]
      refine kV 13 ?_
      refine kV 14 ?_
      refine wpAnyH_done (by kernel_rfl) ?_ _
      go_wp2
      go_meet
      exact boxEarly3 zb hO hP hL (sB) (sB) (belA)
     refine AllReadyH.cons (by simp only [gA, gZ, gS]; rfl) (fun K hK => ?_) AllReadyH.nil
     go_simp
     clear hHeld
     refine hK.out _ _ ?_ (fun hHeld => ?_)
     ·(try dsimp only); exact hd_10_2_5 hS0 (belA)
     clear hK K
     try simp only [Act.put, tA, tZ, tS]
     refine rD 5 (fun K hK => ?_)
     go_simp
     (go_at_call 8; refine (toItmT _ _ _ _ _ _).mono ?_; rintro e' pi ⟨rfl, hbpi⟩)
     (try go_wp2_with fail)
     have szpi := hbpi.size
     (try simp at szpi)
     have zb : pi.heap[po.heap.size]? = some (.cells #[.int .i64 0, .slice none 0 0] 32 (0, 0)) := (hbpi.block (po.heap.size) (sB)).trans (by first | exact zb | exact World.alloc_heap_new _ _)
     clear hHeld
     refine hK.out _ _ ?_ (fun hHeld => ?_)
     ·(try dsimp only); exact hd_10_2_5 hS0 (belA)
     clear hK K
     try simp only [Act.put, tA, tZ, tS]
     refine rD 6 (fun K hK => ?_)
     go_simp
     (go_at_call 5; refine (spectake_eq s t k z q l e b v r m bo len0 len0 z0 x1 x2 x3 x4 x5 _ (hOo.below (belA)) hl0 hN).mono ?_; rintro e' pn ⟨a, c, pa, pc, la, lc, rfl, hO, hP, hL, hbpn⟩)
     (try go_wp2_with fail)
     have szpn := hbpn.size
     (try simp at szpn)
     have zb : pn.heap[po.heap.size]? = some (.cells #[.int .i64 0, .slice none 0 0] 32 (0, 0)) := (hbpn.block (po.heap.size) (sB)).trans (by first | exact zb | exact World.alloc_heap_new _ _)
     clear hHeld
     refine hK.out _ _ ?_ (fun hHeld => ?_)
     ·(try dsimp only); exact hd_10_2_5 hS0 (belA)
     clear hK K
     try simp only [Act.put, tA, tZ, tS]
     refine kV 7 ?_
     refine kV 8 ?_
     refine kV 9 ?_
     refine kV 10 ?_
     have zc0 := Joins.cell_of_block zb 0
     have zf0 := cF zb 0
     have zc1 := Joins.cell_of_block zb 1
     have zf1 := cF zb 1
     (try simp only [gA, gZ, gS] at zc0 zc1)
     refine rD 12 (fun K hK => ?_)
     go_simp
     clear hHeld
     refine hK.out _ _ ?_ (fun hHeld => ?_)
     ·(try dsimp only); exact hd_10_2_5 hS0 (belA)
     clear hK K
     try simp only [Act.put, tA, tZ, tS]
     refine kV 13 ?_
     refine kV 14 ?_
     refine wpAnyH_done (by kernel_rfl) ?_ _
     go_wp2
     go_meet
     exact boxEarly3 zb hO hP hL (sB) (sB) (belA)
    refine AllReadyH.cons (by simp only [gA, gZ, gS]; rfl) (fun K hK => ?_) AllReadyH.nil
    go_simp
    clear hHeld
    refine hK.out _ _ ?_ (fun hHeld => ?_)
    ·(try dsimp only); exact hd_10_2_5 hS0 (belA)
    clear hK K
    try simp only [Act.put, tA, tZ, tS]
    refine rD 3 (fun K hK => ?_)
    go_simp
    (go_at_call 7; refine (toSt_any m a0 len0 cap0 z0 _ (HO.below (belA)) hl0).mono ?_; rintro e' po ⟨bo, rfl, hOo, _, _, hbpo⟩)
    (try go_wp2_with fail)
    have szpo := hbpo.size
    (try simp at szpo)
    have zb : po.heap[pj.heap.size]? = some (.cells #[.int .i64 0, .slice none 0 0] 32 (0, 0)) := (hbpo.block (pj.heap.size) (sB)).trans (by first | exact zb | exact World.alloc_heap_new _ _)
    clear hHeld
    refine hK.out _ _ ?_ (fun hHeld => ?_)
    ·(try dsimp only); exact hd_10_2_5 hS0 (belA)
    clear hK K
    try simp only [Act.put, tA, tZ, tS]
    refine rD 5 (fun K hK => ?_)
    go_simp
    (go_at_call 8; refine (toItmT _ _ _ _ _ _).mono ?_; rintro e' pi ⟨rfl, hbpi⟩)
    (try go_wp2_with fail)
    have szpi := hbpi.size
    (try simp at szpi)
    have zb : pi.heap[pj.heap.size]? = some (.cells #[.int .i64 0, .slice none 0 0] 32 (0, 0)) := (hbpi.block (pj.heap.size) (sB)).trans (by first | exact zb | exact World.alloc_heap_new _ _)
    clear hHeld
    refine hK.out _ _ ?_ (fun hHeld => ?_)
    ·(try dsimp only); exact hd_10_2_5 hS0 (belA)
    clear hK K
    try simp only [Act.put, tA, tZ, tS]
    refine rD 6 (fun K hK => ?_)
    go_simp
    (go_at_call 5; refine (spectake_eq s t k z q l e b v r m bo len0 len0 z0 x1 x2 x3 x4 x5 _ (hOo.below (belA)) hl0 hN).mono ?_; rintro e' pn ⟨a, c, pa, pc, la, lc, rfl, hO, hP, hL, hbpn⟩)
    (try go_wp2_with fail)
    have szpn := hbpn.size
    (try simp at szpn)
    have zb : pn.heap[pj.heap.size]? = some (.cells #[.int .i64 0, .slice none 0 0] 32 (0, 0)) := (hbpn.block (pj.heap.size) (sB)).trans (by first | exact zb | exact World.alloc_heap_new _ _)
    clear hHeld
    refine hK.out _ _ ?_ (fun hHeld => ?_)
    ·(try dsimp only); exact hd_10_2_5 hS0 (belA)
    clear hK K
    try simp only [Act.put, tA, tZ, tS]
    refine kV 7 ?_
    refine kV 8 ?_
    refine kV 9 ?_
    refine kV 10 ?_
    have zc0 := Joins.cell_of_block zb 0
    have zf0 := cF zb 0
    have zc1 := Joins.cell_of_block zb 1
    have zf1 := cF zb 1
    (try simp only [gA, gZ, gS] at zc0 zc1)
    refine rD 12 (fun K hK => ?_)
    go_simp
    clear hHeld
    refine hK.out _ _ ?_ (fun hHeld => ?_)
    ·(try dsimp only); exact hd_10_2_5 hS0 (belA)
    clear hK K
    try simp only [Act.put, tA, tZ, tS]
    refine kV 13 ?_
    refine kV 14 ?_
    refine wpAnyH_done (by kernel_rfl) ?_ _
    go_wp2
    go_meet
    exact boxEarly3 zb hO hP hL (sB) (sB) (belA)
   refine AllReadyH.cons (by simp only [gA, gZ, gS]; rfl) (fun K hK => ?_) AllReadyH.nil
   go_simp
   clear hHeld
   refine hK.out _ _ ?_ (fun hHeld => ?_)
   ·(try dsimp only); exact hd_10_2_5 hS0 (belA)
   clear hK K
   try simp only [Act.put, tA, tZ, tS]
   refine rD 1 (fun K hK => ?_)
   go_simp
   (go_at_call 6; refine (toJob_any _ _ _ _ _ _ _ _ _ _ _).mono ?_; rintro e' pj ⟨rfl, hbpj⟩)
   (try go_wp2_with fail)
   have szpj := hbpj.size
   (try simp at szpj)
   have zb : pj.heap[w1.heap.size]? = some (.cells #[.int .i64 0, .slice none 0 0] 32 (0, 0)) := (hbpj.block (w1.heap.size) (sB)).trans (by first | exact zb | exact World.alloc_heap_new _ _)
   clear hHeld
   refine hK.out _ _ ?_ (fun hHeld => ?_)
   ·(try dsimp only); exact hd_10_2_5 hS0 (belA)
   clear hK K
   try simp only [Act.put, tA, tZ, tS]
   refine rD 3 (fun K hK => ?_)
   go_simp
   (go_at_call 7; refine (toSt_any m a0 len0 cap0 z0 _ (HO.below (belA)) hl0).mono ?_; rintro e' po ⟨bo, rfl, hOo, _, _, hbpo⟩)
   (try go_wp2_with fail)
   have szpo := hbpo.size
   (try simp at szpo)
   have zb : po.heap[w1.heap.size]? = some (.cells #[.int .i64 0, .slice none 0 0] 32 (0, 0)) := (hbpo.block (w1.heap.size) (sB)).trans (by first | exact zb | exact World.alloc_heap_new _ _)
   clear hHeld
   refine hK.out _ _ ?_ (fun hHeld => ?_)
   ·(try dsimp only); exact hd_10_2_5 hS0 (belA)
   clear hK K
   try simp only [Act.put, tA, tZ, tS]
   refine rD 5 (fun K hK => ?_)
   go_simp
   (go_at_call 8; refine (toItmT _ _ _ _ _ _).mono ?_; rintro e' pi ⟨rfl, hbpi⟩)
   (try go_wp2_with fail)
   have szpi := hbpi.size
   (try simp at szpi)
   have zb : pi.heap[w1.heap.size]? = some (.cells #[.int .i64 0, .slice none 0 0] 32 (0, 0)) := (hbpi.block (w1.heap.size) (sB)).trans (by first | exact zb | exact World.alloc_heap_new _ _)
   clear hHeld
   refine hK.out _ _ ?_ (fun hHeld => ?_)
   ·(try dsimp only); exact hd_10_2_5 hS0 (belA)
   clear hK K
   try simp only [Act.put, tA, tZ, tS]
   refine rD 6 (fun K hK => ?_)
   go_simp
   (go_at_call 5; refine (spectake_eq s t k z q l e b v r m bo len0 len0 z0 x1 x2 x3 x4 x5 _ (hOo.below (belA)) hl0 hN).mono ?_; rintro e' pn ⟨a, c, pa, pc, la, lc, rfl, hO, hP, hL, hbpn⟩)
   (try go_wp2_with fail)
   have szpn := hbpn.size
   (try simp at szpn)
   have zb : pn.heap[w1.heap.size]? = some (.cells #[.int .i64 0, .slice none 0 0] 32 (0, 0)) := (hbpn.block (w1.heap.size) (sB)).trans (by first | exact zb | exact World.alloc_heap_new _ _)
   clear hHeld
   refine hK.out _ _ ?_ (fun hHeld => ?_)
   ·(try dsimp only); exact hd_10_2_5 hS0 (belA)
   clear hK K
   try simp only [Act.put, tA, tZ, tS]
   refine kV 7 ?_
   refine kV 8 ?_
   refine kV 9 ?_
   refine kV 10 ?_
   have zc0 := Joins.cell_of_block zb 0
   have zf0 := cF zb 0
   have zc1 := Joins.cell_of_block zb 1
   have zf1 := cF zb 1
   (try simp only [gA, gZ, gS] at zc0 zc1)
   refine rD 12 (fun K hK => ?_)
   go_simp
   clear hHeld
   refine hK.out _ _ ?_ (fun hHeld => ?_)
   ·(try dsimp only); exact hd_10_2_5 hS0 (belA)
   clear hK K
   try simp only [Act.put, tA, tZ, tS]
   refine kV 13 ?_
   refine kV 14 ?_
   refine wpAnyH_done (by kernel_rfl) ?_ _
   go_wp2
   go_meet
   exact boxEarly3 zb hO hP hL (sB) (sB) (belA)
  case rest =>
   rename World => wa
   obtain ⟨Bw, aw, cw, paw, pcw, law, lcw, rfl, rfl, rfl, hrw, hBw, hbw⟩ := hcut
   have za := hbw.size
   have hSa := hd_10_2_5 hS0 hbw
   obtain ⟨⟨s0, s1, s2, s3, s4, s5, s6, s7, s8, s9, s10, s11, s12, s13, s14, s15, s16⟩, ya, yb, yc⟩ := hSa
   go_wp2_with fail
   refine (toSt_any m a0 len0 cap0 z0 _ (HO.below hbw) hl0).mono ?_
   rintro e' wb ⟨b1, rfl, H1b, R1b, ge1, hbb1⟩
   clear s0 s1 s2 s3 s4 s5 s6 s7 s8 s9 s10 s11 s12 s13 s14 s15 s16
   obtain ⟨wx, hwx⟩ : ∃ wx, wb.alloc (.cells #[.int .i64 m, .slice b1 len0 len0] 32) = wx := ⟨_, rfl⟩
   have hbX : Below wb.heap.size wb wx := by rw [← hwx]; exact bel_one _ _
   have zb1 := hbb1.size
   have zx : wb.heap.size < wx.heap.size := by rw [← hwx]; simp
   have hXb : wx.heap[wb.heap.size]? = some (.cells #[.int .i64 m, .slice b1 len0 len0] 32 (0, 0)) := by rw [← hwx]; exact World.alloc_heap_new wb _
   have hX0 : wx.cell? ⟨wb.heap.size, 0, none⟩ = some (.int .i64 m) := Joins.cell_of_block hXb 0
   have hX1 : wx.cell? ⟨wb.heap.size, 1, none⟩ = some (.slice b1 len0 len0) := Joins.cell_of_block hXb 1
   have hbax : Below wa.heap.size wa wx := bel_trans hbb1 hbX
   have hb1x : Below w1.heap.size w1 wx := bel_trans hbw hbax
   have H1 := H1b.below hbX
   have hS1 : ((wx.cell? ⟨w.heap.size, 0, none⟩ = some (.int .i64 s) ∧ wx.cell? ⟨w.heap.size, 1, none⟩ = some (.int .i64 t) ∧ wx.cell? ⟨w.heap.size, 2, none⟩ = some (.int .i64 k) ∧ wx.cell? ⟨w.heap.size, 3, none⟩ = some (.int .i64 z) ∧ wx.cell? ⟨w.heap.size, 4, none⟩ = some (.int .i64 q) ∧ wx.cell? ⟨w.heap.size, 5, none⟩ = some (.int .i64 l) ∧ wx.cell? ⟨w.heap.size, 6, none⟩ = some (.int .i64 e) ∧ wx.cell? ⟨w.heap.size, 7, none⟩ = some (.bool b) ∧ wx.cell? ⟨w.heap.size, 8, none⟩ = some (.int .i64 v) ∧ wx.cell? ⟨w.heap.size, 9, none⟩ = some (.int .i64 r) ∧ wx.cell? ⟨wb.heap.size, 0, none⟩ = some (.int .i64 m) ∧ wx.cell? ⟨wb.heap.size, 1, none⟩ = some (.slice b1 len0 len0) ∧ wx.cell? ⟨w.heap.size + 1 + 1, 0, none⟩ = some (.int .i64 x1) ∧ wx.cell? ⟨w.heap.size + 1 + 1, 1, none⟩ = some (.int .i64 x2) ∧ wx.cell? ⟨w.heap.size + 1 + 1, 2, none⟩ = some (.int .i64 x3) ∧ wx.cell? ⟨w.heap.size + 1 + 1, 3, none⟩ = some (.int .i64 x4) ∧ wx.cell? ⟨w.heap.size + 1 + 1, 4, none⟩ = some (.int .i64 x5)) ∧ w.heap.size < wx.heap.size ∧ wb.heap.size < wx.heap.size ∧ w.heap.size + 1 + 1 < wx.heap.size) := by
    obtain ⟨⟨s0, s1, s2, s3, s4, s5, s6, s7, s8, s9, s10, s11, s12, s13, s14, s15, s16⟩, yd, ye, yf⟩ := hd_10_2_5 hS0 hb1x
    exact ⟨⟨s0, s1, s2, s3, s4, s5, s6, s7, s8, s9, hX0, hX1, s12, s13, s14, s15, s16⟩, yd, by omega, yf⟩
   have lt1 : ∀ b9, rowOr b1 len0 = some b9 → wa.heap.size ≤ b9 ∧ b9 < wb.heap.size := fun b9 h9 => by
    by_cases hz : len0 = 0
    ·unfold rowOr at h9; rw [if_pos hz] at h9; cases h9
    ·obtain ⟨g9, ha9, hB9, _⟩ := R1b.resolve_left hz
     rw [ha9, rowOr_pos hz] at h9
     cases h9
     exact ⟨ge1 _ 0 (by omega) ha9, hB9.lt⟩
   go_wp2_with fail
   (try rw [hwx])
   clear hwx
   go_cut [12, 13, 14] (fun pv qv rv W => BoxT wx M R P L pv qv rv W)
   case first =>
    refine wp_region_held_drew (S := (fun W => ((W.cell? ⟨w.heap.size, 0, none⟩ = some (.int .i64 s) ∧ W.cell? ⟨w.heap.size, 1, none⟩ = some (.int .i64 t) ∧ W.cell? ⟨w.heap.size, 2, none⟩ = some (.int .i64 k) ∧ W.cell? ⟨w.heap.size, 3, none⟩ = some (.int .i64 z) ∧ W.cell? ⟨w.heap.size, 4, none⟩ = some (.int .i64 q) ∧ W.cell? ⟨w.heap.size, 5, none⟩ = some (.int .i64 l) ∧ W.cell? ⟨w.heap.size, 6, none⟩ = some (.int .i64 e) ∧ W.cell? ⟨w.heap.size, 7, none⟩ = some (.bool b) ∧ W.cell? ⟨w.heap.size, 8, none⟩ = some (.int .i64 v) ∧ W.cell? ⟨w.heap.size, 9, none⟩ = some (.int .i64 r) ∧ W.cell? ⟨wb.heap.size, 0, none⟩ = some (.int .i64 m) ∧ W.cell? ⟨wb.heap.size, 1, none⟩ = some (.slice b1 len0 len0) ∧ W.cell? ⟨w.heap.size + 1 + 1, 0, none⟩ = some (.int .i64 x1) ∧ W.cell? ⟨w.heap.size + 1 + 1, 1, none⟩ = some (.int .i64 x2) ∧ W.cell? ⟨w.heap.size + 1 + 1, 2, none⟩ = some (.int .i64 x3) ∧ W.cell? ⟨w.heap.size + 1 + 1, 3, none⟩ = some (.int .i64 x4) ∧ W.cell? ⟨w.heap.size + 1 + 1, 4, none⟩ = some (.int .i64 x5)) ∧ w.heap.size < W.heap.size ∧ wb.heap.size < W.heap.size ∧ w.heap.size + 1 + 1 < W.heap.size))) (by kernel_rfl) ?_ (fun hHeld => ?_)
    ·(try dsimp only); exact hd_10_2_5 hS1 (belA)
    refine kV 0 ?_
    refine kV 2 ?_
    refine kV 3 ?_
    refine wpAnyH_ready (rs := [1, 10]) (by kernel_rfl) (by simp) ?_
    refine AllReadyH.cons (by simp only [gA, gZ, gS]; rfl) (fun K hK => ?_) ?_
    ·go_simp
     (go_at_call 6; refine (toJob_any _ _ _ _ _ _ _ _ _ _ _).mono ?_; rintro e' qj ⟨rfl, hbqj⟩)
     (try go_wp2_with fail)
     have szqj := hbqj.size
     (try simp at szqj)
     clear hHeld
     refine hK.out _ _ ?_ (fun hHeld => ?_)
     ·(try dsimp only); exact hd_10_2_5 hS1 (belA)
     clear hK K
     try simp only [Act.put, tA, tZ, tS]
     refine wpAnyH_ready (rs := [4, 10]) (by kernel_rfl) (by simp) ?_
     refine AllReadyH.cons (by simp only [gA, gZ, gS]; rfl) (fun K hK => ?_) ?_
     ·go_simp
      (go_at_call 8; refine (toItmT _ _ _ _ _ _).mono ?_; rintro e' qi ⟨rfl, hbqi⟩)
      (try go_wp2_with fail)
      have szqi := hbqi.size
      (try simp at szqi)
      clear hHeld
      refine hK.out _ _ ?_ (fun hHeld => ?_)
      ·(try dsimp only); exact hd_10_2_5 hS1 (belA)
      clear hK K
      try simp only [Act.put, tA, tZ, tS]
      refine wpAnyH_ready (rs := [5, 10]) (by kernel_rfl) (by simp) ?_
      refine AllReadyH.cons (by simp only [gA, gZ, gS]; rfl) (fun K hK => ?_) ?_
      ·go_simp
       (go_at_call 9; refine (impltake_eq s t k z q l e b v r m b1 len0 len0 z0 x1 x2 x3 x4 x5 _ (H1.below (belA)) hl0 hN).mono ?_; rintro e' qn ⟨a, c, pa, pc, la, lc, rfl, hO, hP, hL, hbqn⟩)
       (try go_wp2_with fail)
       have szqn := hbqn.size
       (try simp at szqn)
       clear hHeld
       refine hK.out _ _ ?_ (fun hHeld => ?_)
       ·(try dsimp only); exact hd_10_2_5 hS1 (belA)
       clear hK K
       try simp only [Act.put, tA, tZ, tS]
       refine kV 6 ?_
       refine kV 7 ?_
       refine kV 8 ?_
       refine kV 9 ?_
       refine rD 10 (fun K hK => ?_)
       go_simp
       clear hHeld
       refine hK.out _ _ ?_ (fun hHeld => ?_)
       ·(try dsimp only); exact hd_10_2_5 hS1 (belA)
       clear hK K
       try simp only [Act.put, tA, tZ, tS]
       refine rD 11 (fun K hK => ?_)
       go_simp
       clear hHeld
       refine hK.out _ _ ?_ (fun hHeld => ?_)
       ·(try dsimp only); exact hd_10_2_5 hS1 (belA)
       clear hK K
       try simp only [Act.put, tA, tZ, tS]
       refine kV 12 ?_
       refine kV 13 ?_
       refine wpAnyH_done (by kernel_rfl) ?_ _
       go_wp2
       go_meet
       exact boxLate3 hO hP hL (sB) (belA)
      refine AllReadyH.cons (by simp only [gA, gZ, gS]; rfl) (fun K hK => ?_) AllReadyH.nil
      go_simp
      clear hHeld
      refine hK.out _ _ ?_ (fun hHeld => ?_)
      ·(try dsimp only); exact hd_10_2_5 hS1 (belA)
      clear hK K
      try simp only [Act.put, tA, tZ, tS]
      refine rD 5 (fun K hK => ?_)
      go_simp
      (go_at_call 9; refine (impltake_eq s t k z q l e b v r m b1 len0 len0 z0 x1 x2 x3 x4 x5 _ (H1.below (belA)) hl0 hN).mono ?_; rintro e' qn ⟨a, c, pa, pc, la, lc, rfl, hO, hP, hL, hbqn⟩)
      (try go_wp2_with fail)
      have szqn := hbqn.size
      (try simp at szqn)
      have zb : qn.heap[qi.heap.size]? = some (.cells #[.int .i64 0, .slice none 0 0] 32 (0, 0)) := (hbqn.block (qi.heap.size) (sB)).trans (by first | exact zb | exact World.alloc_heap_new _ _)
      clear hHeld
      refine hK.out _ _ ?_ (fun hHeld => ?_)
      ·(try dsimp only); exact hd_10_2_5 hS1 (belA)
      clear hK K
      try simp only [Act.put, tA, tZ, tS]
      refine kV 6 ?_
      refine kV 7 ?_
      refine kV 8 ?_
      refine kV 9 ?_
      have zc0 := Joins.cell_of_block zb 0
      have zf0 := cF zb 0
      have zc1 := Joins.cell_of_block zb 1
      have zf1 := cF zb 1
      (try simp only [gA, gZ, gS] at zc0 zc1)
      refine rD 11 (fun K hK => ?_)
      go_simp
      clear hHeld
      refine hK.out _ _ ?_ (fun hHeld => ?_)
      ·(try dsimp only); exact hd_10_2_5 hS1 (belA)
      clear hK K
      try simp only [Act.put, tA, tZ, tS]
      refine kV 12 ?_
      refine kV 13 ?_
      refine wpAnyH_done (by kernel_rfl) ?_ _
      go_wp2
      go_meet
      exact boxEarly3 zb hO hP hL (sB) (sB) (belA)
     refine AllReadyH.cons (by simp only [gA, gZ, gS]; rfl) (fun K hK => ?_) AllReadyH.nil
     go_simp
     clear hHeld
     refine hK.out _ _ ?_ (fun hHeld => ?_)
     ·(try dsimp only); exact hd_10_2_5 hS1 (belA)
     clear hK K
     try simp only [Act.put, tA, tZ, tS]
     refine rD 4 (fun K hK => ?_)
     go_simp
     (go_at_call 8; refine (toItmT _ _ _ _ _ _).mono ?_; rintro e' qi ⟨rfl, hbqi⟩)
     (try go_wp2_with fail)
     have szqi := hbqi.size
     (try simp at szqi)
     have zb : qi.heap[qj.heap.size]? = some (.cells #[.int .i64 0, .slice none 0 0] 32 (0, 0)) := (hbqi.block (qj.heap.size) (sB)).trans (by first | exact zb | exact World.alloc_heap_new _ _)
     clear hHeld
     refine hK.out _ _ ?_ (fun hHeld => ?_)
     ·(try dsimp only); exact hd_10_2_5 hS1 (belA)
     clear hK K
     try simp only [Act.put, tA, tZ, tS]
     refine rD 5 (fun K hK => ?_)
     go_simp
     (go_at_call 9; refine (impltake_eq s t k z q l e b v r m b1 len0 len0 z0 x1 x2 x3 x4 x5 _ (H1.below (belA)) hl0 hN).mono ?_; rintro e' qn ⟨a, c, pa, pc, la, lc, rfl, hO, hP, hL, hbqn⟩)
     (try go_wp2_with fail)
     have szqn := hbqn.size
     (try simp at szqn)
     have zb : qn.heap[qj.heap.size]? = some (.cells #[.int .i64 0, .slice none 0 0] 32 (0, 0)) := (hbqn.block (qj.heap.size) (sB)).trans (by first | exact zb | exact World.alloc_heap_new _ _)
     clear hHeld
     refine hK.out _ _ ?_ (fun hHeld => ?_)
     ·(try dsimp only); exact hd_10_2_5 hS1 (belA)
     clear hK K
     try simp only [Act.put, tA, tZ, tS]
     refine kV 6 ?_
     refine kV 7 ?_
     refine kV 8 ?_
     refine kV 9 ?_
     have zc0 := Joins.cell_of_block zb 0
     have zf0 := cF zb 0
     have zc1 := Joins.cell_of_block zb 1
     have zf1 := cF zb 1
     (try simp only [gA, gZ, gS] at zc0 zc1)
     refine rD 11 (fun K hK => ?_)
     go_simp
     clear hHeld
     refine hK.out _ _ ?_ (fun hHeld => ?_)
     ·(try dsimp only); exact hd_10_2_5 hS1 (belA)
     clear hK K
     try simp only [Act.put, tA, tZ, tS]
     refine kV 12 ?_
     refine kV 13 ?_
     refine wpAnyH_done (by kernel_rfl) ?_ _
     go_wp2
     go_meet
     exact boxEarly3 zb hO hP hL (sB) (sB) (belA)
    refine AllReadyH.cons (by simp only [gA, gZ, gS]; rfl) (fun K hK => ?_) AllReadyH.nil
    go_simp
    clear hHeld
    refine hK.out _ _ ?_ (fun hHeld => ?_)
    ·(try dsimp only); exact hd_10_2_5 hS1 (belA)
    clear hK K
    try simp only [Act.put, tA, tZ, tS]
    refine rD 1 (fun K hK => ?_)
    go_simp
    (go_at_call 6; refine (toJob_any _ _ _ _ _ _ _ _ _ _ _).mono ?_; rintro e' qj ⟨rfl, hbqj⟩)
    (try go_wp2_with fail)
    have szqj := hbqj.size
    (try simp at szqj)
    have zb : qj.heap[wx.heap.size]? = some (.cells #[.int .i64 0, .slice none 0 0] 32 (0, 0)) := (hbqj.block (wx.heap.size) (sB)).trans (by first | exact zb | exact World.alloc_heap_new _ _)
    clear hHeld
    refine hK.out _ _ ?_ (fun hHeld => ?_)
    ·(try dsimp only); exact hd_10_2_5 hS1 (belA)
    clear hK K
    try simp only [Act.put, tA, tZ, tS]
    refine rD 4 (fun K hK => ?_)
    go_simp
    (go_at_call 8; refine (toItmT _ _ _ _ _ _).mono ?_; rintro e' qi ⟨rfl, hbqi⟩)
    (try go_wp2_with fail)
    have szqi := hbqi.size
    (try simp at szqi)
    have zb : qi.heap[wx.heap.size]? = some (.cells #[.int .i64 0, .slice none 0 0] 32 (0, 0)) := (hbqi.block (wx.heap.size) (sB)).trans (by first | exact zb | exact World.alloc_heap_new _ _)
    clear hHeld
    refine hK.out _ _ ?_ (fun hHeld => ?_)
    ·(try dsimp only); exact hd_10_2_5 hS1 (belA)
    clear hK K
    try simp only [Act.put, tA, tZ, tS]
    refine rD 5 (fun K hK => ?_)
    go_simp
    (go_at_call 9; refine (impltake_eq s t k z q l e b v r m b1 len0 len0 z0 x1 x2 x3 x4 x5 _ (H1.below (belA)) hl0 hN).mono ?_; rintro e' qn ⟨a, c, pa, pc, la, lc, rfl, hO, hP, hL, hbqn⟩)
    (try go_wp2_with fail)
    have szqn := hbqn.size
    (try simp at szqn)
    have zb : qn.heap[wx.heap.size]? = some (.cells #[.int .i64 0, .slice none 0 0] 32 (0, 0)) := (hbqn.block (wx.heap.size) (sB)).trans (by first | exact zb | exact World.alloc_heap_new _ _)
    clear hHeld
    refine hK.out _ _ ?_ (fun hHeld => ?_)
    ·(try dsimp only); exact hd_10_2_5 hS1 (belA)
    clear hK K
    try simp only [Act.put, tA, tZ, tS]
    refine kV 6 ?_
    refine kV 7 ?_
    refine kV 8 ?_
    refine kV 9 ?_
    have zc0 := Joins.cell_of_block zb 0
    have zf0 := cF zb 0
    have zc1 := Joins.cell_of_block zb 1
    have zf1 := cF zb 1
    (try simp only [gA, gZ, gS] at zc0 zc1)
    refine rD 11 (fun K hK => ?_)
    go_simp
    clear hHeld
    refine hK.out _ _ ?_ (fun hHeld => ?_)
    ·(try dsimp only); exact hd_10_2_5 hS1 (belA)
    clear hK K
    try simp only [Act.put, tA, tZ, tS]
    refine kV 12 ?_
    refine kV 13 ?_
    refine wpAnyH_done (by kernel_rfl) ?_ _
    go_wp2
    go_meet
    exact boxEarly3 zb hO hP hL (sB) (sB) (belA)
   case rest =>
    rename World => wd
    obtain ⟨Bg, ag, cg, pag, pcg, lag, lcg, rfl, rfl, rfl, hrg, hBg, hbg⟩ := hcut
    have zd := hbg.size
    have hbad : Below wa.heap.size wa wd := bel_trans hbax hbg
    have hrw1 := hrw.below hbad
    have yg := hrg.lt
    have yw := hrw.lt
    obtain ⟨dg0, dg1⟩ := hrg.cells
    obtain ⟨dw0, dw1⟩ := hrw1.cells
    go_wp2_with fail
    refine (eqSt_any M ag aw R.length cg cw R _ (hrg.or hlR).1 (hrw1.or hlR).1).mono ?_
    rintro e' we1 ⟨rfl, hbwe1⟩
    have zwe1 := hbwe1.size
    go_wp2_with fail
    refine (eqPn_any pag paw P.length pcg pcw P _ ((hrg.below hbwe1).pn hlP).1 ((hrw1.below hbwe1).pn hlP).1).mono ?_
    rintro e' we2 ⟨rfl, hbwe2⟩
    have zwe2 := hbwe2.size
    go_wp2_with fail
    refine (eqLp_any lag law L.length lcg lcw L _ (((hrg.below hbwe1).below hbwe2).lp hlL).1 (((hrw1.below hbwe1).below hbwe2).lp hlL).1).mono ?_
    rintro e' we ⟨rfl, hbwe3⟩
    have hbwe : Below wd.heap.size wd we := bel_trans (bel_trans hbwe1 hbwe2) hbwe3
    have zwe := hbwe.size
    have hbae : Below wa.heap.size wa we := bel_trans hbad hbwe
    have hb1e : Below w1.heap.size w1 we := bel_trans hbw hbae
    have hbxe : Below wx.heap.size wx we := bel_trans hbg hbwe
    clear dg0 dg1 dw0 dw1
    have hS2 : ((we.cell? ⟨wb.heap.size, 0, none⟩ = some (.int .i64 m) ∧ we.cell? ⟨wb.heap.size, 1, none⟩ = some (.slice b1 len0 len0) ∧ we.cell? ⟨w.heap.size + 1, 0, none⟩ = some (.int .i64 m) ∧ we.cell? ⟨w.heap.size + 1, 1, none⟩ = some (.slice a0 len0 cap0)) ∧ wb.heap.size < we.heap.size ∧ w.heap.size + 1 < we.heap.size) := by
     obtain ⟨⟨s0, s1, s2, s3, s4, s5, s6, s7, s8, s9, s10, s11, s12, s13, s14, s15, s16⟩, yd, ye, yf⟩ := hd_10_2_5 hS0 hb1e
     exact ⟨⟨(hbxe.cell (p := ⟨wb.heap.size, 0, none⟩) (by show wb.heap.size < wx.heap.size; omega)).trans hX0, (hbxe.cell (p := ⟨wb.heap.size, 1, none⟩) (by show wb.heap.size < wx.heap.size; omega)).trans hX1, s10, s11⟩, by omega, ye⟩
    have H1e := H1.below hbxe
    go_wp2_with fail
    go_region_held3 (fun W => ((W.cell? ⟨wb.heap.size, 0, none⟩ = some (.int .i64 m) ∧ W.cell? ⟨wb.heap.size, 1, none⟩ = some (.slice b1 len0 len0) ∧ W.cell? ⟨w.heap.size + 1, 0, none⟩ = some (.int .i64 m) ∧ W.cell? ⟨w.heap.size + 1, 1, none⟩ = some (.slice a0 len0 cap0)) ∧ wb.heap.size < W.heap.size ∧ w.heap.size + 1 < W.heap.size)) ((first | ((repeat (first | (with_reducible assumption) | (with_reducible refine hd_2_2 ?_ (by with_reducible assumption)) | (with_reducible refine hd_2_2 ?_ (bel_drew (Below.refl _ _))) | (with_reducible exact hd_2_2_re (by with_reducible assumption) (sB) (sB)) | (with_reducible refine hd_2_2 ?_ (bel_one _ _)) | (with_reducible refine hd_2_2_set ?_ (sB) (sB) _))); done) | (refine ⟨⟨?_, ?_, ?_, ?_⟩, ?_, ?_⟩ <;> first | (go_keep; done) | (simp; done) | (simp; omega) | omega)))
     (first
     | (go_at_call 7; refine (toSt_any m a0 len0 cap0 z0 _ ((HO.below hb1e).below (belA)) hl0).mono ?_; rintro e' wf1 ⟨af, rfl, hOf, _, _, hbf1⟩; obtain ⟨hcf, hff, hsf⟩ := bcell hbf1)
     | (go_at_call 10; refine (eqSt_any m b1 af len0 len0 len0 z0 _ (H1e.below (belA)) (hOf.below (belA))).mono ?_; rintro e' wf ⟨rfl, hbf2⟩))
    have hbef : Below we.heap.size we wf := (belA)
    have zf := hbef.size
    (try clear hcf hff hsf)
    have hbxf : Below wx.heap.size wx wf := bel_trans hbxe hbef
    have hbdf : Below wd.heap.size wd wf := bel_trans hbwe hbef
    have hbaf : Below wa.heap.size wa wf := bel_trans hbad hbdf
    have hx0 : wf.cell? ⟨wb.heap.size, 0, none⟩ = some (.int .i64 m) := (hbxf.cell (p := ⟨wb.heap.size, 0, none⟩) (by show wb.heap.size < wx.heap.size; omega)).trans hX0
    have hx1 : wf.cell? ⟨wb.heap.size, 1, none⟩ = some (.slice b1 len0 len0) := (hbxf.cell (p := ⟨wb.heap.size, 1, none⟩) (by show wb.heap.size < wx.heap.size; omega)).trans hX1
    go_wp2_with fail
    refine (markStG_any 1 (by omega) (by omega) m b1 len0 len0 _ ((R1b.below hbX).below hbxf) hl0).mono ?_
    rintro e' wi ⟨rfl, _, hK1⟩
    have zi := hK1.size
    have hrgi := (hrg.below hbdf).grown hK1 (fun b9 h9 => by
     have h8 := lt1 b9 h9
     refine ⟨by omega, fun e9 => ?_, fun e9 => ?_, fun e9 => ?_⟩
     ·have := ownOr_geX hrg.2.1 b9 e9; omega
     ·have := ownOr_geX hrg.2.2.1 b9 e9; omega
     ·have := ownOr_geX hrg.2.2.2 b9 e9; omega)
    have hrwi := (hrw.below hbaf).grown hK1 (fun b9 h9 => by
     have h8 := lt1 b9 h9
     refine ⟨by omega, fun e9 => ?_, fun e9 => ?_, fun e9 => ?_⟩
     ·have := (World.ownsRow.lt hrw.2.1 b9 e9).2; omega
     ·have := (World.ownsRow.lt hrw.2.2.1 b9 e9).2; omega
     ·have := (World.ownsRow.lt hrw.2.2.2 b9 e9).2; omega)
    have hbai : Below wa.heap.size wa wi := hbaf.grown hK1 hbaf.size (fun b9 h9 => (lt1 b9 h9).1)
    clear hx0 hx1
    obtain ⟨eg0, eg1⟩ := hrgi.cells
    obtain ⟨ew0, ew1⟩ := hrwi.cells
    have hnk : ¬ (1 + 13 * (len0 : Int) < 0) := by omega
    have hnk' : decide (1 + 13 * (len0 : Int) < 0) = false := decide_eq_false hnk
    have yg2 : Bg < wi.heap.size := hrgi.lt
    have yw2 : Bw < wi.heap.size := hrwi.lt
    go_wp2_with fail
    refine (eqSt_any M ag aw R.length cg cw R _ (hrgi.or hlR).1 (hrwi.or hlR).1).mono ?_
    rintro e' wk1 ⟨rfl, hbwk1⟩
    have zwk1 := hbwk1.size
    go_wp2_with fail
    refine (eqPn_any pag paw P.length pcg pcw P _ ((hrgi.below hbwk1).pn hlP).1 ((hrwi.below hbwk1).pn hlP).1).mono ?_
    rintro e' wk2 ⟨rfl, hbwk2⟩
    have zwk2 := hbwk2.size
    go_wp2_with fail
    refine (eqLp_any lag law L.length lcg lcw L _ (((hrgi.below hbwk1).below hbwk2).lp hlL).1 (((hrwi.below hbwk1).below hbwk2).lp hlL).1).mono ?_
    rintro e' wk ⟨rfl, hbwk3⟩
    have hbwk : Below wi.heap.size wi wk := bel_trans (bel_trans hbwk1 hbwk2) hbwk3
    have zwk := hbwk.size
    have hbak : Below wa.heap.size wa wk := bel_trans hbai hbwk
    have hrgk := hrgi.below hbwk
    clear eg0 eg1 ew0 ew1
    have yg3 : Bg < wk.heap.size := hrgk.lt
    obtain ⟨fg0, fg1⟩ := hrgk.cells
    go_wp2_with fail
    refine (markStG_any 1 (by omega) (by omega) M ag R.length cg _ (hrgk.or hlR).2 hlR).mono ?_
    rintro e' wl ⟨rfl, hMo, hK2⟩
    have zl := hK2.size
    clear fg0 fg1
    have hPl := own_gPt hrgk.2.2.1 hK2 (fun b9 h9 => own_no_bothT hrgk.2.1 hrgk.2.2.1 (by decide) b9 (row_ownOr h9))
    have hLl := own_gPt hrgk.2.2.2 hK2 (fun b9 h9 => own_no_bothT hrgk.2.1 hrgk.2.2.2 (by decide) b9 (row_ownOr h9))
    have hgl : wl.heap[Bg]? = some (.cells #[.int .i64 M, .slice ag R.length cg] 32 (0, 0)) := (hK2.block Bg yg3 (fun e9 => own_ne_ty hrgk.2.1 hrgk.1 (by decide) (row_ownOr e9.symm))).trans hrgk.1
    have hbal : Below wa.heap.size wa wl := hbak.grown hK2 hbak.size (fun b9 h9 => by have := ownOr_geX hrgk.2.1 b9 (row_ownOr h9); have := hbax.size; omega)
    obtain ⟨ap9, cp9, ep9, _, hWp, _⟩ := holdPn hPl hlP
    simp at ep9
    obtain ⟨rfl, rfl⟩ := ep9
    go_wp2_with fail
    refine (markKPn_any (1 + 13 * (R.length : Int)) (by omega) (by omega) pag P.length pcg _ hWp hlP).mono ?_
    rintro e' wo1 ⟨rfl, hMp, hK3⟩
    have zo1 := hK3.size
    have hgo1 : wo1.heap[Bg]? = some (.cells #[.int .i64 M, .slice ag R.length cg] 32 (0, 0)) := (hK3.block Bg (by omega) (fun e9 => own_ne_ty hPl hgl (by decide) (row_ownPn e9.symm))).trans hgl
    have hMo1 : MarkedKOr wo1 ag R.length 1 := hMo.keep (fun g o hp ha => by
     subst ha
     have h7 : (Value.slice (some ⟨g, o, none⟩) R.length cg).ownBlock = some g := row_ownOr (rowOr_pos (by omega) g o)
     have h8 := (World.ownsRow.lt hrgk.2.1 g h7).2
     exact hK3.block g (by omega) (fun e9 => own_no_bothT hrgk.2.1 hrgk.2.2.1 (by decide) g h7 (row_ownPn e9.symm)))
    have hLo := own_gPt hLl hK3 (fun b9 h9 => own_no_bothT hPl hLl (by decide) b9 (row_ownPn h9))
    have hbao1 : Below wa.heap.size wa wo1 := hbal.grown hK3 hbal.size (fun b9 h9 => by have := ownOr_geX hPl b9 (row_ownPn h9); have := hbax.size; omega)
    obtain ⟨al9, cl9, el9, _, hWl, _⟩ := holdLp hLo hlL
    simp at el9
    obtain ⟨rfl, rfl⟩ := el9
    go_wp2_with fail
    refine (markKLp_any (1 + 13 * (R.length : Int) + 9 * (P.length : Int)) (by omega) (by omega) lag L.length lcg _ hWl hlL).mono ?_
    rintro e' wo ⟨rfl, hMl, hK4⟩
    have zo := hK4.size
    have hgo : wo.heap[Bg]? = some (.cells #[.int .i64 M, .slice ag R.length cg] 32 (0, 0)) := (hK4.block Bg (by omega) (fun e9 => own_ne_ty hLo hgo1 (by decide) (row_ownLp e9.symm))).trans hgo1
    have hMo2 : MarkedKOr wo ag R.length 1 := hMo1.keep (fun g o hp ha => by
     subst ha
     have h7 : (Value.slice (some ⟨g, o, none⟩) R.length cg).ownBlock = some g := row_ownOr (rowOr_pos (by omega) g o)
     have h8 := (World.ownsRow.lt hrgk.2.1 g h7).2
     exact hK4.block g (by omega) (fun e9 => own_no_bothT hrgk.2.1 hrgk.2.2.2 (by decide) g h7 (row_ownLp e9.symm)))
    have hMp1 : MarkedKPn wo pag P.length (1 + 13 * (R.length : Int)) := hMp.keep (fun g o hp ha => by
     subst ha
     have h7 : (Value.slice (some ⟨g, o, none⟩) P.length pcg).ownBlock = some g := row_ownPn (rowPn_pos (by omega) g o)
     have h8 := (World.ownsRow.lt hPl g h7).2
     exact hK4.block g (by omega) (fun e9 => own_no_bothT hPl hLl (by decide) g h7 (row_ownLp e9.symm)))
    have hbao : Below wa.heap.size wa wo := hbao1.grown hK4 hbao1.size (fun b9 h9 => by have := ownOr_geX hLo b9 (row_ownLp h9); have := hbax.size; omega)
    have gc0 : wo.cell? ⟨Bg, 0, none⟩ = some (.int .i64 M) := Joins.cell_of_block hgo 0
    have gc1 : wo.cell? ⟨Bg, 1, none⟩ = some (.slice ag R.length cg) := Joins.cell_of_block hgo 1
    go_wp2_with fail
    refine (heldStG_any 1 (by omega) (by omega) M ag R.length cg _ hMo2 hlR).mono ?_
    rintro e' wm ⟨rfl, hbm⟩
    have zm := hbm.size
    clear gc0 gc1
    have hnq : ¬ (1 + 13 * (R.length : Int) < 0) := by omega
    have hnq' : decide (1 + 13 * (R.length : Int) < 0) = false := decide_eq_false hnq
    have hMp2 := hMp1.below hbm
    have hMl2 := hMl.below hbm
    have hMo3 := hMo2.below hbm
    have hgm := (hbm.block Bg (Array.getElem?_eq_some_iff.1 hgo).1).trans hgo
    have hbam : Below wa.heap.size wa wm := bel_trans hbao hbm
    have hb1m : Below w1.heap.size w1 wm := bel_trans hbw hbam
    have hS5 := hd_10_2_5 hS0 hb1m
    have HO1 := HO
    replace HO := HO.below hb1m
    go_wp2_with fail
    refine (heldKPn_any (1 + 13 * (R.length : Int)) (by omega) (by omega) pag P.length pcg _ hMp2 hlP).mono ?_
    rintro e' wm2 ⟨rfl, hw⟩
    obtain rfl := hw.symm
    clear hw
    have hnr : ¬ (1 + 13 * (R.length : Int) + 9 * (P.length : Int) < 0) := by omega
    have hnr' : decide (1 + 13 * (R.length : Int) + 9 * (P.length : Int) < 0) = false := decide_eq_false hnr
    go_wp2_with fail
    refine (heldKLp_any (1 + 13 * (R.length : Int) + 9 * (P.length : Int)) (by omega) (by omega) lag L.length lcg _ hMl2 hlL).mono ?_
    rintro e' wm3 ⟨rfl, hw⟩
    obtain rfl := hw.symm
    clear hw
    have hnt : ¬ (1 + 13 * (R.length : Int) + 9 * (P.length : Int) + 7 * (L.length : Int) < 0) := by omega
    have hnt' : decide (1 + 13 * (R.length : Int) + 9 * (P.length : Int) + 7 * (L.length : Int) < 0) = false := decide_eq_false hnt
    go_wp2_with fail
    go_cut [18, 19, 20] (fun pv qv rv W => BoxT wm M R P L pv qv rv W)
    case first =>
     refine wp_region_held_drew (S := (fun W => ((W.cell? ⟨w.heap.size, 0, none⟩ = some (.int .i64 s) ∧ W.cell? ⟨w.heap.size, 1, none⟩ = some (.int .i64 t) ∧ W.cell? ⟨w.heap.size, 2, none⟩ = some (.int .i64 k) ∧ W.cell? ⟨w.heap.size, 3, none⟩ = some (.int .i64 z) ∧ W.cell? ⟨w.heap.size, 4, none⟩ = some (.int .i64 q) ∧ W.cell? ⟨w.heap.size, 5, none⟩ = some (.int .i64 l) ∧ W.cell? ⟨w.heap.size, 6, none⟩ = some (.int .i64 e) ∧ W.cell? ⟨w.heap.size, 7, none⟩ = some (.bool b) ∧ W.cell? ⟨w.heap.size, 8, none⟩ = some (.int .i64 v) ∧ W.cell? ⟨w.heap.size, 9, none⟩ = some (.int .i64 r) ∧ W.cell? ⟨w.heap.size + 1, 0, none⟩ = some (.int .i64 m) ∧ W.cell? ⟨w.heap.size + 1, 1, none⟩ = some (.slice a0 len0 cap0) ∧ W.cell? ⟨w.heap.size + 1 + 1, 0, none⟩ = some (.int .i64 x1) ∧ W.cell? ⟨w.heap.size + 1 + 1, 1, none⟩ = some (.int .i64 x2) ∧ W.cell? ⟨w.heap.size + 1 + 1, 2, none⟩ = some (.int .i64 x3) ∧ W.cell? ⟨w.heap.size + 1 + 1, 3, none⟩ = some (.int .i64 x4) ∧ W.cell? ⟨w.heap.size + 1 + 1, 4, none⟩ = some (.int .i64 x5)) ∧ w.heap.size < W.heap.size ∧ w.heap.size + 1 < W.heap.size ∧ w.heap.size + 1 + 1 < W.heap.size))) (by kernel_rfl) ?_ (fun hHeld => ?_)
     ·(try dsimp only); exact hd_10_2_5 hS5 (belA)
     refine kV 0 ?_
     refine kV 2 ?_
     refine kV 4 ?_
     refine wpAnyH_ready (rs := [1, 11]) (by kernel_rfl) (by simp) ?_
     refine AllReadyH.cons (by simp only [gA, gZ, gS]; rfl) (fun K hK => ?_) ?_
     ·go_simp
      (go_at_call 6; refine (toJob_any _ _ _ _ _ _ _ _ _ _ _).mono ?_; rintro e' rj ⟨rfl, hbrj⟩)
      (try go_wp2_with fail)
      have szrj := hbrj.size
      (try simp at szrj)
      clear hHeld
      refine hK.out _ _ ?_ (fun hHeld => ?_)
      ·(try dsimp only); exact hd_10_2_5 hS5 (belA)
      clear hK K
      try simp only [Act.put, tA, tZ, tS]
      refine wpAnyH_ready (rs := [3, 11]) (by kernel_rfl) (by simp) ?_
      refine AllReadyH.cons (by simp only [gA, gZ, gS]; rfl) (fun K hK => ?_) ?_
      ·go_simp
       (go_at_call 7; refine (toSt_any m a0 len0 cap0 z0 _ (HO.below (belA)) hl0).mono ?_; rintro e' ro ⟨bo, rfl, hOo, _, _, hbro⟩)
       (try go_wp2_with fail)
       have szro := hbro.size
       (try simp at szro)
       clear hHeld
       refine hK.out _ _ ?_ (fun hHeld => ?_)
       ·(try dsimp only); exact hd_10_2_5 hS5 (belA)
       clear hK K
       try simp only [Act.put, tA, tZ, tS]
       refine wpAnyH_ready (rs := [5, 11]) (by kernel_rfl) (by simp) ?_
       refine AllReadyH.cons (by simp only [gA, gZ, gS]; rfl) (fun K hK => ?_) ?_
       ·go_simp
        (go_at_call 8; refine (toItmT _ _ _ _ _ _).mono ?_; rintro e' ri ⟨rfl, hbri⟩)
        (try go_wp2_with fail)
        have szri := hbri.size
        (try simp at szri)
        clear hHeld
        refine hK.out _ _ ?_ (fun hHeld => ?_)
        ·(try dsimp only); exact hd_10_2_5 hS5 (belA)
        clear hK K
        try simp only [Act.put, tA, tZ, tS]
        refine wpAnyH_ready (rs := [6, 11]) (by kernel_rfl) (by simp) ?_
        refine AllReadyH.cons (by simp only [gA, gZ, gS]; rfl) (fun K hK => ?_) ?_
        ·go_simp
         (go_at_call 9; refine (impltake_eq s t k z q l e b v r m bo len0 len0 z0 x1 x2 x3 x4 x5 _ (hOo.below (belA)) hl0 hN).mono ?_; rintro e' rn ⟨a, c, pa, pc, la, lc, rfl, hO, hP, hL, hbrn⟩)
         (try go_wp2_with fail)
         have szrn := hbrn.size
         (try simp at szrn)
         clear hHeld
         refine hK.out _ _ ?_ (fun hHeld => ?_)
         ·(try dsimp only); exact hd_10_2_5 hS5 (belA)
         clear hK K
         try simp only [Act.put, tA, tZ, tS]
         refine kV 7 ?_
         refine kV 8 ?_
         refine kV 9 ?_
         refine kV 10 ?_
         refine rD 11 (fun K hK => ?_)
         go_simp
         clear hHeld
         refine hK.out _ _ ?_ (fun hHeld => ?_)
         ·(try dsimp only); exact hd_10_2_5 hS5 (belA)
         clear hK K
         try simp only [Act.put, tA, tZ, tS]
         refine rD 12 (fun K hK => ?_)
         go_simp
         clear hHeld
         refine hK.out _ _ ?_ (fun hHeld => ?_)
         ·(try dsimp only); exact hd_10_2_5 hS5 (belA)
         clear hK K
         try simp only [Act.put, tA, tZ, tS]
         refine kV 13 ?_
         refine kV 14 ?_
         refine wpAnyH_done (by kernel_rfl) ?_ _
         go_wp2
         go_meet
         exact boxLate3 hO hP hL (sB) (belA)
        refine AllReadyH.cons (by simp only [gA, gZ, gS]; rfl) (fun K hK => ?_) AllReadyH.nil
        go_simp
        clear hHeld
        refine hK.out _ _ ?_ (fun hHeld => ?_)
        ·(try dsimp only); exact hd_10_2_5 hS5 (belA)
        clear hK K
        try simp only [Act.put, tA, tZ, tS]
        refine rD 6 (fun K hK => ?_)
        go_simp
        (go_at_call 9; refine (impltake_eq s t k z q l e b v r m bo len0 len0 z0 x1 x2 x3 x4 x5 _ (hOo.below (belA)) hl0 hN).mono ?_; rintro e' rn ⟨a, c, pa, pc, la, lc, rfl, hO, hP, hL, hbrn⟩)
        (try go_wp2_with fail)
        have szrn := hbrn.size
        (try simp at szrn)
        have zb : rn.heap[ri.heap.size]? = some (.cells #[.int .i64 0, .slice none 0 0] 32 (0, 0)) := (hbrn.block (ri.heap.size) (sB)).trans (by first | exact zb | exact World.alloc_heap_new _ _)
        clear hHeld
        refine hK.out _ _ ?_ (fun hHeld => ?_)
        ·(try dsimp only); exact hd_10_2_5 hS5 (belA)
        clear hK K
        try simp only [Act.put, tA, tZ, tS]
        refine kV 7 ?_
        refine kV 8 ?_
        refine kV 9 ?_
        refine kV 10 ?_
        have zc0 := Joins.cell_of_block zb 0
        have zf0 := cF zb 0
        have zc1 := Joins.cell_of_block zb 1
        have zf1 := cF zb 1
        (try simp only [gA, gZ, gS] at zc0 zc1)
        refine rD 12 (fun K hK => ?_)
        go_simp
        clear hHeld
        refine hK.out _ _ ?_ (fun hHeld => ?_)
        ·(try dsimp only); exact hd_10_2_5 hS5 (belA)
        clear hK K
        try simp only [Act.put, tA, tZ, tS]
        refine kV 13 ?_
        refine kV 14 ?_
        refine wpAnyH_done (by kernel_rfl) ?_ _
        go_wp2
        go_meet
        exact boxEarly3 zb hO hP hL (sB) (sB) (belA)
       refine AllReadyH.cons (by simp only [gA, gZ, gS]; rfl) (fun K hK => ?_) AllReadyH.nil
       go_simp
       clear hHeld
       refine hK.out _ _ ?_ (fun hHeld => ?_)
       ·(try dsimp only); exact hd_10_2_5 hS5 (belA)
       clear hK K
       try simp only [Act.put, tA, tZ, tS]
       refine rD 5 (fun K hK => ?_)
       go_simp
       (go_at_call 8; refine (toItmT _ _ _ _ _ _).mono ?_; rintro e' ri ⟨rfl, hbri⟩)
       (try go_wp2_with fail)
       have szri := hbri.size
       (try simp at szri)
       have zb : ri.heap[ro.heap.size]? = some (.cells #[.int .i64 0, .slice none 0 0] 32 (0, 0)) := (hbri.block (ro.heap.size) (sB)).trans (by first | exact zb | exact World.alloc_heap_new _ _)
       clear hHeld
       refine hK.out _ _ ?_ (fun hHeld => ?_)
       ·(try dsimp only); exact hd_10_2_5 hS5 (belA)
       clear hK K
       try simp only [Act.put, tA, tZ, tS]
       refine rD 6 (fun K hK => ?_)
       go_simp
       (go_at_call 9; refine (impltake_eq s t k z q l e b v r m bo len0 len0 z0 x1 x2 x3 x4 x5 _ (hOo.below (belA)) hl0 hN).mono ?_; rintro e' rn ⟨a, c, pa, pc, la, lc, rfl, hO, hP, hL, hbrn⟩)
       (try go_wp2_with fail)
       have szrn := hbrn.size
       (try simp at szrn)
       have zb : rn.heap[ro.heap.size]? = some (.cells #[.int .i64 0, .slice none 0 0] 32 (0, 0)) := (hbrn.block (ro.heap.size) (sB)).trans (by first | exact zb | exact World.alloc_heap_new _ _)
       clear hHeld
       refine hK.out _ _ ?_ (fun hHeld => ?_)
       ·(try dsimp only); exact hd_10_2_5 hS5 (belA)
       clear hK K
       try simp only [Act.put, tA, tZ, tS]
       refine kV 7 ?_
       refine kV 8 ?_
       refine kV 9 ?_
       refine kV 10 ?_
       have zc0 := Joins.cell_of_block zb 0
       have zf0 := cF zb 0
       have zc1 := Joins.cell_of_block zb 1
       have zf1 := cF zb 1
       (try simp only [gA, gZ, gS] at zc0 zc1)
       refine rD 12 (fun K hK => ?_)
       go_simp
       clear hHeld
       refine hK.out _ _ ?_ (fun hHeld => ?_)
       ·(try dsimp only); exact hd_10_2_5 hS5 (belA)
       clear hK K
       try simp only [Act.put, tA, tZ, tS]
       refine kV 13 ?_
       refine kV 14 ?_
       refine wpAnyH_done (by kernel_rfl) ?_ _
       go_wp2
       go_meet
       exact boxEarly3 zb hO hP hL (sB) (sB) (belA)
      refine AllReadyH.cons (by simp only [gA, gZ, gS]; rfl) (fun K hK => ?_) AllReadyH.nil
      go_simp
      clear hHeld
      refine hK.out _ _ ?_ (fun hHeld => ?_)
      ·(try dsimp only); exact hd_10_2_5 hS5 (belA)
      clear hK K
      try simp only [Act.put, tA, tZ, tS]
      refine rD 3 (fun K hK => ?_)
      go_simp
      (go_at_call 7; refine (toSt_any m a0 len0 cap0 z0 _ (HO.below (belA)) hl0).mono ?_; rintro e' ro ⟨bo, rfl, hOo, _, _, hbro⟩)
      (try go_wp2_with fail)
      have szro := hbro.size
      (try simp at szro)
      have zb : ro.heap[rj.heap.size]? = some (.cells #[.int .i64 0, .slice none 0 0] 32 (0, 0)) := (hbro.block (rj.heap.size) (sB)).trans (by first | exact zb | exact World.alloc_heap_new _ _)
      clear hHeld
      refine hK.out _ _ ?_ (fun hHeld => ?_)
      ·(try dsimp only); exact hd_10_2_5 hS5 (belA)
      clear hK K
      try simp only [Act.put, tA, tZ, tS]
      refine rD 5 (fun K hK => ?_)
      go_simp
      (go_at_call 8; refine (toItmT _ _ _ _ _ _).mono ?_; rintro e' ri ⟨rfl, hbri⟩)
      (try go_wp2_with fail)
      have szri := hbri.size
      (try simp at szri)
      have zb : ri.heap[rj.heap.size]? = some (.cells #[.int .i64 0, .slice none 0 0] 32 (0, 0)) := (hbri.block (rj.heap.size) (sB)).trans (by first | exact zb | exact World.alloc_heap_new _ _)
      clear hHeld
      refine hK.out _ _ ?_ (fun hHeld => ?_)
      ·(try dsimp only); exact hd_10_2_5 hS5 (belA)
      clear hK K
      try simp only [Act.put, tA, tZ, tS]
      refine rD 6 (fun K hK => ?_)
      go_simp
      (go_at_call 9; refine (impltake_eq s t k z q l e b v r m bo len0 len0 z0 x1 x2 x3 x4 x5 _ (hOo.below (belA)) hl0 hN).mono ?_; rintro e' rn ⟨a, c, pa, pc, la, lc, rfl, hO, hP, hL, hbrn⟩)
      (try go_wp2_with fail)
      have szrn := hbrn.size
      (try simp at szrn)
      have zb : rn.heap[rj.heap.size]? = some (.cells #[.int .i64 0, .slice none 0 0] 32 (0, 0)) := (hbrn.block (rj.heap.size) (sB)).trans (by first | exact zb | exact World.alloc_heap_new _ _)
      clear hHeld
      refine hK.out _ _ ?_ (fun hHeld => ?_)
      ·(try dsimp only); exact hd_10_2_5 hS5 (belA)
      clear hK K
      try simp only [Act.put, tA, tZ, tS]
      refine kV 7 ?_
      refine kV 8 ?_
      refine kV 9 ?_
      refine kV 10 ?_
      have zc0 := Joins.cell_of_block zb 0
      have zf0 := cF zb 0
      have zc1 := Joins.cell_of_block zb 1
      have zf1 := cF zb 1
      (try simp only [gA, gZ, gS] at zc0 zc1)
      refine rD 12 (fun K hK => ?_)
      go_simp
      clear hHeld
      refine hK.out _ _ ?_ (fun hHeld => ?_)
      ·(try dsimp only); exact hd_10_2_5 hS5 (belA)
      clear hK K
      try simp only [Act.put, tA, tZ, tS]
      refine kV 13 ?_
      refine kV 14 ?_
      refine wpAnyH_done (by kernel_rfl) ?_ _
      go_wp2
      go_meet
      exact boxEarly3 zb hO hP hL (sB) (sB) (belA)
     refine AllReadyH.cons (by simp only [gA, gZ, gS]; rfl) (fun K hK => ?_) AllReadyH.nil
     go_simp
     clear hHeld
     refine hK.out _ _ ?_ (fun hHeld => ?_)
     ·(try dsimp only); exact hd_10_2_5 hS5 (belA)
     clear hK K
     try simp only [Act.put, tA, tZ, tS]
     refine rD 1 (fun K hK => ?_)
     go_simp
     (go_at_call 6; refine (toJob_any _ _ _ _ _ _ _ _ _ _ _).mono ?_; rintro e' rj ⟨rfl, hbrj⟩)
     (try go_wp2_with fail)
     have szrj := hbrj.size
     (try simp at szrj)
     have zb : rj.heap[wm.heap.size]? = some (.cells #[.int .i64 0, .slice none 0 0] 32 (0, 0)) := (hbrj.block (wm.heap.size) (sB)).trans (by first | exact zb | exact World.alloc_heap_new _ _)
     clear hHeld
     refine hK.out _ _ ?_ (fun hHeld => ?_)
     ·(try dsimp only); exact hd_10_2_5 hS5 (belA)
     clear hK K
     try simp only [Act.put, tA, tZ, tS]
     refine rD 3 (fun K hK => ?_)
     go_simp
     (go_at_call 7; refine (toSt_any m a0 len0 cap0 z0 _ (HO.below (belA)) hl0).mono ?_; rintro e' ro ⟨bo, rfl, hOo, _, _, hbro⟩)
     (try go_wp2_with fail)
     have szro := hbro.size
     (try simp at szro)
     have zb : ro.heap[wm.heap.size]? = some (.cells #[.int .i64 0, .slice none 0 0] 32 (0, 0)) := (hbro.block (wm.heap.size) (sB)).trans (by first | exact zb | exact World.alloc_heap_new _ _)
     clear hHeld
     refine hK.out _ _ ?_ (fun hHeld => ?_)
     ·(try dsimp only); exact hd_10_2_5 hS5 (belA)
     clear hK K
     try simp only [Act.put, tA, tZ, tS]
     refine rD 5 (fun K hK => ?_)
     go_simp
     (go_at_call 8; refine (toItmT _ _ _ _ _ _).mono ?_; rintro e' ri ⟨rfl, hbri⟩)
     (try go_wp2_with fail)
     have szri := hbri.size
     (try simp at szri)
     have zb : ri.heap[wm.heap.size]? = some (.cells #[.int .i64 0, .slice none 0 0] 32 (0, 0)) := (hbri.block (wm.heap.size) (sB)).trans (by first | exact zb | exact World.alloc_heap_new _ _)
     clear hHeld
     refine hK.out _ _ ?_ (fun hHeld => ?_)
     ·(try dsimp only); exact hd_10_2_5 hS5 (belA)
     clear hK K
     try simp only [Act.put, tA, tZ, tS]
     refine rD 6 (fun K hK => ?_)
     go_simp
     (go_at_call 9; refine (impltake_eq s t k z q l e b v r m bo len0 len0 z0 x1 x2 x3 x4 x5 _ (hOo.below (belA)) hl0 hN).mono ?_; rintro e' rn ⟨a, c, pa, pc, la, lc, rfl, hO, hP, hL, hbrn⟩)
     (try go_wp2_with fail)
     have szrn := hbrn.size
     (try simp at szrn)
     have zb : rn.heap[wm.heap.size]? = some (.cells #[.int .i64 0, .slice none 0 0] 32 (0, 0)) := (hbrn.block (wm.heap.size) (sB)).trans (by first | exact zb | exact World.alloc_heap_new _ _)
     clear hHeld
     refine hK.out _ _ ?_ (fun hHeld => ?_)
     ·(try dsimp only); exact hd_10_2_5 hS5 (belA)
     clear hK K
     try simp only [Act.put, tA, tZ, tS]
     refine kV 7 ?_
     refine kV 8 ?_
     refine kV 9 ?_
     refine kV 10 ?_
     have zc0 := Joins.cell_of_block zb 0
     have zf0 := cF zb 0
     have zc1 := Joins.cell_of_block zb 1
     have zf1 := cF zb 1
     (try simp only [gA, gZ, gS] at zc0 zc1)
     refine rD 12 (fun K hK => ?_)
     go_simp
     clear hHeld
     refine hK.out _ _ ?_ (fun hHeld => ?_)
     ·(try dsimp only); exact hd_10_2_5 hS5 (belA)
     clear hK K
     try simp only [Act.put, tA, tZ, tS]
     refine kV 13 ?_
     refine kV 14 ?_
     refine wpAnyH_done (by kernel_rfl) ?_ _
     go_wp2
     go_meet
     exact boxEarly3 zb hO hP hL (sB) (sB) (belA)
    case rest =>
     rename World => wq
     obtain ⟨Bh, ah, ch, pah, pch, lah, lch, rfl, rfl, rfl, hrh, hBh, hbh⟩ := hcut
     have zq := hbh.size
     have hbaq : Below wa.heap.size wa wq := bel_trans hbam hbh
     have hbmF : Below w.heap.size w wq := bel_trans hbF1 (bel_trans hb1m hbh)
     have hrwq : Res wq w1.heap.size Bw aw cw paw pcw law lcw M R P L := by exact hrw.below hbaq
     have hgq := (hbh.block Bg (Array.getElem?_eq_some_iff.1 hgm).1).trans hgm
     have yh := hrh.lt
     have ywq := hrwq.lt
     obtain ⟨kh0, kh1⟩ := hrh.cells
     obtain ⟨kw0, kw1⟩ := hrwq.cells
     go_wp2_with fail
     refine (eqSt_any M ah aw R.length ch cw R _ (hrh.or hlR).1 (hrwq.or hlR).1).mono ?_
     rintro e' ws1 ⟨rfl, hbws1⟩
     have zws1 := hbws1.size
     go_wp2_with fail
     refine (eqPn_any pah paw P.length pch pcw P _ ((hrh.below hbws1).pn hlP).1 ((hrwq.below hbws1).pn hlP).1).mono ?_
     rintro e' ws2 ⟨rfl, hbws2⟩
     have zws2 := hbws2.size
     go_wp2_with fail
     refine (eqLp_any lah law L.length lch lcw L _ (((hrh.below hbws1).below hbws2).lp hlL).1 (((hrwq.below hbws1).below hbws2).lp hlL).1).mono ?_
     rintro e' ws ⟨rfl, hbws3⟩
     have hbws : Below wq.heap.size wq ws := bel_trans (bel_trans hbws1 hbws2) hbws3
     have zws := hbws.size
     have hgs := (hbws.block Bg (Array.getElem?_eq_some_iff.1 hgq).1).trans hgq
     have lc0 : ws.cell? ⟨Bg, 0, none⟩ = some (.int .i64 M) := Joins.cell_of_block hgs 0
     have lc1 : ws.cell? ⟨Bg, 1, none⟩ = some (.slice ag R.length cg) := Joins.cell_of_block hgs 1
     clear kh0 kh1 kw0 kw1
     have hbms := bel_trans hbh hbws
     go_wp2_with fail
     refine (heldStG_any 1 (by omega) (by omega) M ag R.length cg _ (hMo3.below hbms) hlR).mono ?_
     rintro e' wt ⟨rfl, hbt⟩
     clear lc0 lc1
     go_wp2_with fail
     refine (heldKPn_any (1 + 13 * (R.length : Int)) (by omega) (by omega) pag P.length pcg _ ((hMp2.below hbms).below hbt) hlP).mono ?_
     rintro e' wt2 ⟨rfl, hw⟩
     obtain rfl := hw.symm
     clear hw
     go_wp2_with fail
     refine (heldKLp_any (1 + 13 * (R.length : Int) + 9 * (P.length : Int)) (by omega) (by omega) lag L.length lcg _ ((hMl2.below hbms).below hbt) hlL).mono ?_
     rintro e' wt3 ⟨rfl, hw⟩
     obtain rfl := hw.symm
     clear hw
     have hbF : Below w.heap.size w wt := bel_trans hbmF (bel_trans hbws hbt)
     go_wp2
     go_ret
     exact ⟨rfl, hbF⟩
end Go.Proofs.YtflignpbboiahaaGreat
