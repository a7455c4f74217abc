/- Proved here: what the law on TskNew keeps of tasks in boxes. -/
import Derived.Test.YtppdfmclhklkhaaTskZ
namespace Go.Proofs.Ytppdfmclhklkhaa
open Go.ChangeShapes Go.WideShapes Go.ChangeAt Go.RowKit
set_option linter.unusedVariables false

theorem cells7_set {W : World} {B : Nat} {v0 v1 v2 v3 v4 v5 v6 u0 u1 u2 u3 u4 u5 u6 : Value} (h0 : W.cell? ⟨B, 0, none⟩ = some u0) (h1 : W.cell? ⟨B, 1, none⟩ = some u1) (h2 : W.cell? ⟨B, 2, none⟩ = some u2) (h3 : W.cell? ⟨B, 3, none⟩ = some u3) (h4 : W.cell? ⟨B, 4, none⟩ = some u4) (h5 : W.cell? ⟨B, 5, none⟩ = some u5) (h6 : W.cell? ⟨B, 6, none⟩ = some u6) :
    (((((((W.setCell ⟨B, 0, none⟩ v0).setCell ⟨B, 1, none⟩ v1).setCell ⟨B, 2, none⟩ v2).setCell ⟨B, 3, none⟩ v3).setCell ⟨B, 4, none⟩ v4).setCell ⟨B, 5, none⟩ v5).setCell ⟨B, 6, none⟩ v6).cell? ⟨B, 0, none⟩ = some v0 ∧ (((((((W.setCell ⟨B, 0, none⟩ v0).setCell ⟨B, 1, none⟩ v1).setCell ⟨B, 2, none⟩ v2).setCell ⟨B, 3, none⟩ v3).setCell ⟨B, 4, none⟩ v4).setCell ⟨B, 5, none⟩ v5).setCell ⟨B, 6, none⟩ v6).cell? ⟨B, 1, none⟩ = some v1 ∧ (((((((W.setCell ⟨B, 0, none⟩ v0).setCell ⟨B, 1, none⟩ v1).setCell ⟨B, 2, none⟩ v2).setCell ⟨B, 3, none⟩ v3).setCell ⟨B, 4, none⟩ v4).setCell ⟨B, 5, none⟩ v5).setCell ⟨B, 6, none⟩ v6).cell? ⟨B, 2, none⟩ = some v2 ∧ (((((((W.setCell ⟨B, 0, none⟩ v0).setCell ⟨B, 1, none⟩ v1).setCell ⟨B, 2, none⟩ v2).setCell ⟨B, 3, none⟩ v3).setCell ⟨B, 4, none⟩ v4).setCell ⟨B, 5, none⟩ v5).setCell ⟨B, 6, none⟩ v6).cell? ⟨B, 3, none⟩ = some v3 ∧ (((((((W.setCell ⟨B, 0, none⟩ v0).setCell ⟨B, 1, none⟩ v1).setCell ⟨B, 2, none⟩ v2).setCell ⟨B, 3, none⟩ v3).setCell ⟨B, 4, none⟩ v4).setCell ⟨B, 5, none⟩ v5).setCell ⟨B, 6, none⟩ v6).cell? ⟨B, 4, none⟩ = some v4 ∧ (((((((W.setCell ⟨B, 0, none⟩ v0).setCell ⟨B, 1, none⟩ v1).setCell ⟨B, 2, none⟩ v2).setCell ⟨B, 3, none⟩ v3).setCell ⟨B, 4, none⟩ v4).setCell ⟨B, 5, none⟩ v5).setCell ⟨B, 6, none⟩ v6).cell? ⟨B, 5, none⟩ = some v5 ∧ (((((((W.setCell ⟨B, 0, none⟩ v0).setCell ⟨B, 1, none⟩ v1).setCell ⟨B, 2, none⟩ v2).setCell ⟨B, 3, none⟩ v3).setCell ⟨B, 4, none⟩ v4).setCell ⟨B, 5, none⟩ v5).setCell ⟨B, 6, none⟩ v6).cell? ⟨B, 6, none⟩ = some v6 := by
  have o : ∀ (X : World) (i j : Nat) (v : Value), i ≠ j → (X.setCell ⟨B, i, none⟩ v).cell? ⟨B, j, none⟩ = X.cell? ⟨B, j, none⟩ := fun X i j v h => World.cell?_setCell_other _ _ _ _ (by intro e; injection e with e1 e2; exact h e2)
  have s : ∀ (X : World) (i : Nat) (v u : Value), X.cell? ⟨B, i, none⟩ = some u → (X.setCell ⟨B, i, none⟩ v).cell? ⟨B, i, none⟩ = some v := fun X i v u h => World.cell?_setCell_same' _ _ _ (by rw [h]; rfl)
  refine ⟨?_, ?_, ?_, ?_, ?_, ?_, ?_⟩
  · rw [o _ _ _ _ (by decide), o _ _ _ _ (by decide), o _ _ _ _ (by decide), o _ _ _ _ (by decide), o _ _ _ _ (by decide), o _ _ _ _ (by decide)]; exact s _ _ _ u0 h0
  · rw [o _ _ _ _ (by decide), o _ _ _ _ (by decide), o _ _ _ _ (by decide), o _ _ _ _ (by decide), o _ _ _ _ (by decide)]; exact s _ _ _ u1 (by rw [o _ _ _ _ (by decide)]; exact h1)
  · rw [o _ _ _ _ (by decide), o _ _ _ _ (by decide), o _ _ _ _ (by decide), o _ _ _ _ (by decide)]; exact s _ _ _ u2 (by rw [o _ _ _ _ (by decide), o _ _ _ _ (by decide)]; exact h2)
  · rw [o _ _ _ _ (by decide), o _ _ _ _ (by decide), o _ _ _ _ (by decide)]; exact s _ _ _ u3 (by rw [o _ _ _ _ (by decide), o _ _ _ _ (by decide), o _ _ _ _ (by decide)]; exact h3)
  · rw [o _ _ _ _ (by decide), o _ _ _ _ (by decide)]; exact s _ _ _ u4 (by rw [o _ _ _ _ (by decide), o _ _ _ _ (by decide), o _ _ _ _ (by decide), o _ _ _ _ (by decide)]; exact h4)
  · rw [o _ _ _ _ (by decide)]; exact s _ _ _ u5 (by rw [o _ _ _ _ (by decide), o _ _ _ _ (by decide), o _ _ _ _ (by decide), o _ _ _ _ (by decide), o _ _ _ _ (by decide)]; exact h5)
  · exact s _ _ _ u6 (by rw [o _ _ _ _ (by decide), o _ _ _ _ (by decide), o _ _ _ _ (by decide), o _ _ _ _ (by decide), o _ _ _ _ (by decide), o _ _ _ _ (by decide)]; exact h6)
theorem IwRs.keepS {T : Nat → Prop} {W W' : World} {a : Option Addr} {len : Nat} {xs : List IwR} (h : IwRs W a len xs) (k : Kept T W W') (hs : ∀ g o, 0 < len → a = some ⟨g, o, none⟩ → ¬ T g) : IwRs W' a len xs := by
  obtain ⟨h1, h2, h3⟩ := h
  refine ⟨h1, h2, ?_⟩
  rcases h3 with h3 | ⟨g, o, ha, hr⟩
  · exact Or.inl h3
  · refine Or.inr ⟨g, o, ha, fun i x hx => ?_⟩
    have hlt : i < xs.length := (List.getElem?_eq_some_iff.1 hx).1
    have hgb := k.blk g (hr i x hx).lt (hs g o (by omega) ha)
    obtain ⟨c0, c1, c2, c3, c4⟩ := hr i x hx
    exact ⟨(World.cell?_of_block (w := W) (a := ⟨g, _, none⟩) hgb).trans c0, (World.cell?_of_block (w := W) (a := ⟨g, _, none⟩) hgb).trans c1, (World.cell?_of_block (w := W) (a := ⟨g, _, none⟩) hgb).trans c2, (World.cell?_of_block (w := W) (a := ⟨g, _, none⟩) hgb).trans c3, (World.cell?_of_block (w := W) (a := ⟨g, _, none⟩) hgb).trans c4⟩
theorem OrRs.keepS {T : Nat → Prop} {W W' : World} {a : Option Addr} {len : Nat} {xs : List OrR} (h : OrRs W a len xs) (k : Kept T W W') (hs : ∀ g o, 0 < len → a = some ⟨g, o, none⟩ → ¬ T g) : OrRs W' a len xs := by
  obtain ⟨h1, h2, h3⟩ := h
  refine ⟨h1, h2, ?_⟩
  rcases h3 with h3 | ⟨g, o, ha, hr⟩
  · exact Or.inl h3
  · refine Or.inr ⟨g, o, ha, fun i x hx => ?_⟩
    have hlt : i < xs.length := (List.getElem?_eq_some_iff.1 hx).1
    have hgb := k.blk g (hr i x hx).lt (hs g o (by omega) ha)
    obtain ⟨c0, c1, c2, c3, c4, c5, c6, c7, c8, c9, c10, c11, c12⟩ := hr i x hx
    exact ⟨(World.cell?_of_block (w := W) (a := ⟨g, _, none⟩) hgb).trans c0, (World.cell?_of_block (w := W) (a := ⟨g, _, none⟩) hgb).trans c1, (World.cell?_of_block (w := W) (a := ⟨g, _, none⟩) hgb).trans c2, (World.cell?_of_block (w := W) (a := ⟨g, _, none⟩) hgb).trans c3, (World.cell?_of_block (w := W) (a := ⟨g, _, none⟩) hgb).trans c4, (World.cell?_of_block (w := W) (a := ⟨g, _, none⟩) hgb).trans c5, (World.cell?_of_block (w := W) (a := ⟨g, _, none⟩) hgb).trans c6, (World.cell?_of_block (w := W) (a := ⟨g, _, none⟩) hgb).trans c7, (World.cell?_of_block (w := W) (a := ⟨g, _, none⟩) hgb).trans c8, (World.cell?_of_block (w := W) (a := ⟨g, _, none⟩) hgb).trans c9, (World.cell?_of_block (w := W) (a := ⟨g, _, none⟩) hgb).trans c10, (World.cell?_of_block (w := W) (a := ⟨g, _, none⟩) hgb).trans c11, (World.cell?_of_block (w := W) (a := ⟨g, _, none⟩) hgb).trans c12⟩
theorem TkIs.keepLow {T : Nat → Prop} {W W' : World} {B : Nat} {ia oa : Option Addr} {il ol : Nat} {d : TkD} (h : TkIs W B ia il oa ol none 0 none 0 d) (k : Kept T W W') (hs : ∀ b, T b → b < B) : TkIs W' B ia il oa ol none 0 none 0 d := by
  obtain ⟨h1, h2, h3, h4⟩ := h
  refine ⟨?_, ⟨h2.1.keepS k (fun g o hp ha hT => by have h8 := h2.2 g o hp ha; have h9 := hs g hT; omega), h2.2⟩, ⟨⟨h3.1.1, h3.1.2.1, Or.inl rfl⟩, h3.2⟩, ⟨⟨h4.1.1, h4.1.2.1, Or.inl rfl⟩, h4.2⟩⟩
  obtain ⟨q1, q2, q3⟩ := h1
  refine ⟨q1, q2, ?_⟩
  rcases q3 with q3 | ⟨g, o, ha, hB, hr⟩
  · exact Or.inl q3
  · refine Or.inr ⟨g, o, ha, hB, fun i x hx => ?_⟩
    have t := hr i x hx
    have hgb := k.blk g t.lt (fun hT => by have := hs g hT; omega)
    obtain ⟨qa, ql, qc, c0, c1, c2, hq, hge⟩ := t
    exact ⟨qa, ql, qc, (World.cell?_of_block (w := W) (a := ⟨g, _, none⟩) hgb).trans c0, (World.cell?_of_block (w := W) (a := ⟨g, _, none⟩) hgb).trans c1, (World.cell?_of_block (w := W) (a := ⟨g, _, none⟩) hgb).trans c2, hq.keepS k (fun g' o' hp ha' hT => by have h8 := hge g' o' hp ha'; have h9 := hs g' hT; omega), hge⟩
theorem tkS_ge {W : World} {B : Nat} {ia oa : Option Addr} {il ol ic oc : Nat} {d : TkD} (h : TkIs W B ia il oa ol none 0 none 0 d) (hw : WrTk W ia il ic (qvs d.ins) oa ol oc none 0 0 none 0 0) : ∀ b, TkS ia il (qvs d.ins) oa ol none 0 none 0 b → B ≤ b := by
  intro b hb
  rcases hb with (hb | ⟨i, q, hx, hq⟩) | hb | hb | hb
  · by_cases h0 : il = 0
    · unfold rowTi at hb; rw [if_pos h0] at hb; cases hb
    · obtain ⟨g, o, ha, hB, _⟩ := h.ins.2.2.resolve_left h0
      rw [ha, rowTi_pos h0] at hb
      cases hb
      exact hB
  · rw [(qvs_get hx).1] at hq
    unfold QV.blk at hq
    rw [rowIw_zero] at hq
    cases hq
  · by_cases h0 : ol = 0
    · rw [h0, rowOr_zero] at hb; cases hb
    · obtain ⟨g, o, ha, _⟩ := h.rows.1.2.2.resolve_left h0
      rw [ha, rowOr_pos h0] at hb
      cases hb
      exact h.rows.2 _ o (by omega) ha
  · rw [rowPn_none] at hb; cases hb
  · rw [rowLp_none] at hb; cases hb
theorem WrTk.keepLow {T : Nat → Prop} {W W' : World} {B : Nat} {ia oa : Option Addr} {il ol ic oc : Nat} {d : TkD} (h : TkIs W B ia il oa ol none 0 none 0 d) (hw : WrTk W ia il ic (qvs d.ins) oa ol oc none 0 0 none 0 0) (k : Kept T W W') (hs : ∀ b, T b → b < B) : WrTk W' ia il ic (qvs d.ins) oa ol oc none 0 0 none 0 0 := by
  have hge := tkS_ge h hw
  have hlt := hw.ti.lts
  obtain ⟨h1, h2, h3, h4, h5, s1, s2, s3⟩ := hw
  refine ⟨⟨h1.len, h1.lim, ?_, h1.apart⟩, h2.keepB k (fun b hb hT => by have h8 := hge b (Or.inr (Or.inl hb)); have h9 := hs b hT; omega), Or.inl rfl, Or.inl rfl, h5, s1, s2, s3⟩
  rcases h1.mem with h0 | ⟨g, ha, hB, hc, hR⟩
  · exact Or.inl h0
  · by_cases h0 : il = 0
    · exact Or.inl h0
    · have hgb := k.blk g hB.lt (fun hT => by have h8 := hge g (Or.inl (Or.inl (by rw [ha]; exact rowTi_pos h0 g 0))); have h9 := hs g hT; omega)
      obtain ⟨cur, e1, e2⟩ := hB
      refine Or.inr ⟨g, ha, ⟨cur, hgb.trans e1, e2⟩, hc, fun i q hx => ?_⟩
      obtain ⟨r0, r1, r2⟩ := hR i q hx
      refine ⟨(World.cell?_of_block (w := W) (a := ⟨g, _, none⟩) hgb).trans r0, ?_, r2⟩
      rw [(qvs_get hx).1]
      exact Or.inl rfl
/-- What is left of a region that makes a new task and lays it in a box. -/
def BoxP (W0 : World) (D : TkD) (om : Int) (pv : Value) (W : World) : Prop := ∃ (Bx Bt il ol : Nat) (ia : Option Addr) (ic : Nat) (oa : Option Addr) (oc : Nat), pv = .pointer (some ⟨Bx, 0, none⟩) ∧ (il = D.ins.length ∧ ol = D.rows.length) ∧ (W.cell? ⟨Bx, 0, none⟩ = some (.slice ia il ic) ∧ W.cell? ⟨Bx, 1, none⟩ = some (.int .i64 om) ∧ W.cell? ⟨Bx, 2, none⟩ = some (.slice oa ol oc) ∧ W.cell? ⟨Bx, 3, none⟩ = some (.int .i64 0) ∧ W.cell? ⟨Bx, 4, none⟩ = some (.int .i64 0) ∧ W.cell? ⟨Bx, 5, none⟩ = some (.slice none 0 0) ∧ W.cell? ⟨Bx, 6, none⟩ = some (.slice none 0 0)) ∧ TkIs W Bt ia il oa ol none 0 none 0 D ∧ WrTk W ia il ic (qvs D.ins) oa ol oc none 0 0 none 0 0 ∧ (W0.heap.size ≤ Bt ∧ W0.heap.size ≤ Bx ∧ Bx < W.heap.size ∧ ¬ TkS ia il (qvs D.ins) oa ol none 0 none 0 Bx) ∧ Below W0.heap.size W0 W
theorem tkS_lt {W : World} {ia oa : Option Addr} {il ol ic oc : Nat} {qs : List QV} (hw : WrTk W ia il ic qs oa ol oc none 0 0 none 0 0) : ∀ b, TkS ia il qs oa ol none 0 none 0 b → b < W.heap.size := by
  intro b hb
  rcases hb with hb | hb | hb | hb
  · exact hw.ti.lts b hb
  · rcases hw.ro with h | ⟨g, ha, hB, _⟩
    · rw [h, rowOr_zero] at hb; cases hb
    · by_cases h0 : ol = 0
      · rw [h0, rowOr_zero] at hb; cases hb
      · rw [ha, rowOr_pos h0] at hb; cases hb; exact hB.lt
  · rw [rowPn_none] at hb; cases hb
  · rw [rowLp_none] at hb; cases hb
/-- The box was made behind the task. -/
theorem boxLate {W0 wn : World} {D : TkD} {om : Int} {Bt il ol ic oc ty : Nat} {ia oa : Option Addr} (hle : il = D.ins.length ∧ ol = D.rows.length) (hT : TkIs wn Bt ia il oa ol none 0 none 0 D) (hW : WrTk wn ia il ic (qvs D.ins) oa ol oc none 0 0 none 0 0) (hB : W0.heap.size ≤ Bt) (hb : Below W0.heap.size W0 wn) : BoxP W0 D om (.pointer (some ⟨wn.heap.size, 0, none⟩)) (wn.alloc (.cells #[.slice ia il ic, .int .i64 om, .slice oa ol oc, .int .i64 0, .int .i64 0, .slice none 0 0, .slice none 0 0] ty)) :=
  ⟨wn.heap.size, Bt, il, ol, ia, ic, oa, oc, rfl, hle, ⟨by simp [go_sem], by simp [go_sem], by simp [go_sem], by simp [go_sem], by simp [go_sem], by simp [go_sem], by simp [go_sem]⟩, hT.below (bel_one _ _), hW.below (bel_one _ _), ⟨hB, hb.size, by simp, fun hS => absurd (tkS_lt hW _ hS) (Nat.lt_irrefl _)⟩, bel_alloc hb _⟩
/-- The box was made ahead of the task. -/
theorem boxEarly {W0 wn : World} {D : TkD} {om : Int} {Bx Bt il ol ic oc : Nat} {ia oa : Option Addr} {u0 u1 u2 u3 u4 u5 u6 : Value} (hle : il = D.ins.length ∧ ol = D.rows.length) (hT : TkIs wn Bt ia il oa ol none 0 none 0 D) (hW : WrTk wn ia il ic (qvs D.ins) oa ol oc none 0 0 none 0 0) (hx : Bx < Bt) (h0 : W0.heap.size ≤ Bx) (hz : Bx < wn.heap.size) (hb : Below W0.heap.size W0 wn) (z0 : wn.cell? ⟨Bx, 0, none⟩ = some u0) (z1 : wn.cell? ⟨Bx, 1, none⟩ = some u1) (z2 : wn.cell? ⟨Bx, 2, none⟩ = some u2) (z3 : wn.cell? ⟨Bx, 3, none⟩ = some u3) (z4 : wn.cell? ⟨Bx, 4, none⟩ = some u4) (z5 : wn.cell? ⟨Bx, 5, none⟩ = some u5) (z6 : wn.cell? ⟨Bx, 6, none⟩ = some u6) : BoxP W0 D om (.pointer (some ⟨Bx, 0, none⟩)) (((((((wn.setCell ⟨Bx, 0, none⟩ (.slice ia il ic)).setCell ⟨Bx, 1, none⟩ (.int .i64 om)).setCell ⟨Bx, 2, none⟩ (.slice oa ol oc)).setCell ⟨Bx, 3, none⟩ (.int .i64 0)).setCell ⟨Bx, 4, none⟩ (.int .i64 0)).setCell ⟨Bx, 5, none⟩ (.slice none 0 0)).setCell ⟨Bx, 6, none⟩ (.slice none 0 0)) := by
  have hK : Kept (fun b => b = Bx) wn (((((((wn.setCell ⟨Bx, 0, none⟩ (.slice ia il ic)).setCell ⟨Bx, 1, none⟩ (.int .i64 om)).setCell ⟨Bx, 2, none⟩ (.slice oa ol oc)).setCell ⟨Bx, 3, none⟩ (.int .i64 0)).setCell ⟨Bx, 4, none⟩ (.int .i64 0)).setCell ⟨Bx, 5, none⟩ (.slice none 0 0)).setCell ⟨Bx, 6, none⟩ (.slice none 0 0)) := (((((((Kept.refl (fun b => b = Bx) wn).set rfl _).set rfl _).set rfl _).set rfl _).set rfl _).set rfl _).set rfl _
  have hnS : ¬ TkS ia il (qvs D.ins) oa ol none 0 none 0 Bx := fun hS => by have := tkS_ge hT hW _ hS; omega
  obtain ⟨r0, r1, r2, r3, r4, r5, r6⟩ := cells7_set (B := Bx) (v0 := .slice ia il ic) (v1 := .int .i64 om) (v2 := .slice oa ol oc) (v3 := .int .i64 0) (v4 := .int .i64 0) (v5 := .slice none 0 0) (v6 := .slice none 0 0) z0 z1 z2 z3 z4 z5 z6
  exact ⟨Bx, Bt, il, ol, ia, ic, oa, oc, rfl, hle, ⟨r0, r1, r2, r3, r4, r5, r6⟩, hT.keepLow hK (fun b hb => by omega), WrTk.keepLow hT hW hK (fun b hb => by omega), ⟨by omega, h0, Nat.lt_of_lt_of_le hz hK.size, hnS⟩, Kept.bel hb hb.size hK (fun b hb => by omega)⟩
end Go.Proofs.Ytppdfmclhklkhaa
