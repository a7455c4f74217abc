/- Proved here: a mark comes by an operator: what is over is told, in order; what is over for late records, too, is shut. -/
import Derived.Test.YtflignpbboiahaaOpDl
import Derived.DefersIn
namespace Go.Proofs.Ytflignpbboiahaa
open Go.ChangeShapes Go.WideShapes Go.ChangeAt Go.RowKit Go.Shelf Go.Maps
set_option linter.unusedVariables false

set_option linter.unusedSimpArgs false
theorem own_ne_map {W : World} {B size n mb nn : Nat} {e : TypeId} {v : Value} {ys : List Value} {f : P3 → Option Value} (h : W.ownsRow B e size v n ys) (hm : OwnsV W mb nn f) : v.ownBlock ≠ some mb := by
  rcases h.2 with ⟨rfl, _⟩ | ⟨g, cap, cur, rfl, _, hgb, _⟩
  · simp [Value.ownBlock]
  · intro e9
    simp [Value.ownBlock] at e9
    exact hm.ne_cells hgb e9
theorem gEs_rise {m : Int} {es : List Ent} (h : RiseE es) : RiseE (gEs m es) := by
  unfold RiseE gEs
  rw [List.pairwise_map]
  refine List.Pairwise.imp ?_ h
  intro a c hac
  have e1 : ∀ x : Ent, plO (if telB m x.2 = true then toldX x.2 else x.2) = plO x.2 := fun x => by split <;> rfl
  show ltPl (plO (if telB m a.2 = true then toldX a.2 else a.2)) (plO (if telB m c.2 = true then toldX c.2 else c.2))
  rw [e1, e1]
  exact hac
theorem gEs_mem {m : Int} {es : List Ent} {e : Ent} (h : e ∈ gEs m es) : ∃ x ∈ es, e.1 = x.1 ∧ plO e.2 = plO x.2 ∧ e.2.en = x.2.en := by
  unfold gEs at h
  obtain ⟨x, hx, rfl⟩ := List.mem_map.1 h
  refine ⟨x, hx, rfl, ?_, ?_⟩ <;> dsimp only <;> split <;> rfl
theorem RowsI.set {W : World} {B mb nn Bo o : Nat} {es : List Ent} {cs : Array Value} (h : RowsI W B mb nn es) (hO : W.heap[Bo]? = some (.cells cs 54 (0, 0))) (u : Value) : RowsI (W.setCell ⟨Bo, o, none⟩ u) B mb nn es := by
  refine ⟨OwnsOp.keep h.map (Below.heap_setCell _ _ _ _ (fun e => h.map.ne_cells hO e.symm)), fun e he => ?_, h.ge, h.nd⟩
  have b9 := h.box e he
  exact (Below.heap_setCell _ _ _ _ (fun e9 => by have b7 := b9; unfold BxO at b7; rw [show e.1 = Bo from e9, hO] at b7; simp at b7)).trans b9

set_option maxRecDepth 100000 in
set_option maxHeartbeats 4000000 in
theorem pass_any (Bo B nn : Nat) (s t k z q l e : Int) (b : Bool) (v r m : Int) (mb : Nat) (pv lv : Value) (ps : List PnR) (es : List Ent) (mark : Int) (w : World) (hO : w.heap[Bo]? = some (.cells #[.int .i64 s, .int .i64 t, .int .i64 k, .int .i64 z, .int .i64 q, .int .i64 l, .int .i64 e, .bool b, .int .i64 v, .int .i64 r, .int .i64 m, .map (some (mb)), pv, lv] 54 (0, 0))) (hBo : B ≤ Bo) (hBw : B ≤ w.heap.size) (hmb : B ≤ mb) (hR : RowsI w B mb nn es) (hP : OwnPn w B pv ps) (hl : 0 ≤ l ∧ l ≤ 20) (hrise : RiseE es) (hok : ∀ e ∈ es, ok3 (plO e.2)) (hen : ∀ e ∈ es, -1000 ≤ e.2.en ∧ e.2.en ≤ 1000) (htds : ∀ e ∈ es, 0 ≤ e.2.td ∧ e.2.td ≤ 100000) (hnn : nn ≤ 1000) (hps : ps.length ≤ 1000) (hesl : es.length ≤ nn) :
    Calls Try.prog 24 #[.pointer (some ⟨Bo, 0, none⟩), .int .i64 mark] w fun e' w' => e' = .returned (.tuple #[]) ∧ ∃ pv', w'.heap[Bo]? = some (.cells #[.int .i64 s, .int .i64 t, .int .i64 k, .int .i64 z, .int .i64 q, .int .i64 l, .int .i64 e, .bool b, .int .i64 v, .int .i64 r, .int .i64 (max m mark), .map (some (mb)), pv', lv] 54 (0, 0)) ∧ RowsI w' B mb nn (sEs l (max m mark) (gEs (max m mark) es)) ∧ OwnPn w' B pv' (ps ++ (es.filter (fun e => telB (max m mark) e.2)).map (fun e => panX b e.2)) ∧ Below B w w' := by
  have zO : Bo < w.heap.size := (Array.getElem?_eq_some_iff.1 hO).1
  have c10 : w.cell? ⟨Bo, 10, none⟩ = some (.int .i64 m) := Joins.cell_of_block hO 10
  have f10 : w.frozen? ⟨Bo, 10, none⟩ = false := by simp [World.frozen?, hO]
  have hcl : ∀ e ∈ es, True := fun _ _ => trivial
  refine (callsIn_wide (n := 26)).1 ?_
  refine callsIn_of_wp_defers Try.func24 rfl trivial ?_ rfl
  simp only [Try.ntmps24, List.size_toArray, List.length_cons, List.length_nil, Nat.reduceAdd, Nat.reduceSub, Array.replicate_succ, Array.replicate_zero, List.push_toArray, List.append_toArray, List.nil_append, List.cons_append]
  gi_wp2
  generalize max m mark = mm
  have bO1 : (w.setCell ⟨Bo, 10, none⟩ (.int .i64 mm)).heap[Bo]? = some (.cells #[.int .i64 s, .int .i64 t, .int .i64 k, .int .i64 z, .int .i64 q, .int .i64 l, .int .i64 e, .bool b, .int .i64 v, .int .i64 r, .int .i64 mm, .map (some (mb)), pv, lv] 54 (0, 0)) := Joins.block_setCell hO _
  have hR1 := hR.set (o := 10) hO (.int .i64 mm)
  have hP1 : OwnPn (w.setCell ⟨Bo, 10, none⟩ (.int .i64 mm)) B pv ps := own_setX hP (own_ne_ty hP hO (by decide))
  have hB1 : Below B w (w.setCell ⟨Bo, 10, none⟩ (.int .i64 mm)) := (Below.refl B w).setCell hBo _
  have hz1 : B ≤ (w.setCell ⟨Bo, 10, none⟩ (.int .i64 mm)).heap.size := by have := hB1.size; omega
  generalize w.setCell ⟨Bo, 10, none⟩ (.int .i64 mm) = w1 at bO1 hR1 hP1 hB1 hz1 ⊢
  refine leavesIn_cons (f := 41) (args := #[.pointer (some ⟨Bo, 0, none⟩)]) (by simp) (fun _ => by omega) (by simp [go_sem]) (fun _ _ => trivial) ?_
  refine (gather_any .returning Bo B mb nn s t k z q l e b v r mm pv lv ps es w1 bO1 hBo hz1 hR1 hP1 hrise hok htds hnn hps hesl).mono ?_
  rintro e9 u9 w2 ⟨rfl, rfl, pv2, bO2, hR2, hP2, hB2, hK2⟩
  refine leavesIn_cons (f := 40) (args := #[.pointer (some ⟨Bo, 0, none⟩)]) (by simp [settle]) (fun _ => by omega) (by simp [go_sem]) (fun _ _ => trivial) ?_
  refine (shut_any _ Bo B nn s t k z q l e b v r mm mb pv2 lv (gEs mm es) w2 bO2 hR2 hl (gEs_rise hrise) (fun e9 he9 => by
    obtain ⟨x, hx, _, _, h9⟩ := gEs_mem he9
    rw [h9]
    exact hen x hx)).mono ?_
  rintro e8 u8 w3 ⟨rfl, rfl, hR3, hg3⟩
  have bO3 := (hg3.block Bo (Array.getElem?_eq_some_iff.1 bO2).1 (fun e9 => hR2.map.ne_cells bO2 (Option.some.inj e9))).trans bO2
  have hb3 : Below B w w3 := (hB1.trans hB2).grown hg3 (by have := (hB1.trans hB2).size; omega) (fun k9 e9 => by cases e9; exact hmb)
  exact ⟨.tuple #[], results_none rfl _ _ _, rfl, pv2, bO3, hR3, own_gX hP2 hg3 (own_ne_map hP2 hR2.map), hb3⟩
end Go.Proofs.Ytflignpbboiahaa
