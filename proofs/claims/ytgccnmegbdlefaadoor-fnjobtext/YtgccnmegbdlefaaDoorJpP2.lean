/- Proved here: a job's lines are read, in the program. -/
import Derived.Test.YtgccnmegbdlefaaDoorJpP1
namespace Go.Proofs.YtgccnmegbdlefaaDoor
open Go.ChangeShapes Go.WideShapes Go.ChangeAt Go.RowKit
set_option linter.unusedVariables false
set_option linter.unusedSimpArgs false

theorem jobOf_any (b0 b1 b2 b3 b4 b5 b6 b7 b8 b9 : Int) (w : World) : Calls Tryd.prog 43 #[.agg #[.int .i64 b0, .int .i64 b1, .int .i64 b2, .int .i64 b3, .int .i64 b4, .int .i64 b5, .int .i64 b6, .int .i64 b7, .int .i64 b8, .int .i64 b9]] w fun e w' => e = .returned (.agg #[.int .i64 b0, .int .i64 b1, .int .i64 b2, .int .i64 b3, .int .i64 b4, .int .i64 b5, .int .i64 b6, .bool (b7 == 1), .int .i64 b8, .int .i64 b9]) ∧ Below w.heap.size w w' := by
  go_enter Tryd.func43, Tryd.ntmps43
  go_wp2
  refine bodyPost_ret (v := .agg #[.int .i64 b0, .int .i64 b1, .int .i64 b2, .int .i64 b3, .int .i64 b4, .int .i64 b5, .int .i64 b6, .bool (b7 == 1), .int .i64 b8, .int .i64 b9]) (by simp [results, Tryd.results43, go_sem]) rfl ⟨rfl, (by repeat (first | (with_reducible refine bel_set ?_ (by first | (simp; done) | (simp; omega)) _) | (with_reducible refine bel_alloc ?_ _) | (with_reducible exact Below.refl _ _) | (with_reducible assumption) | (with_reducible refine bel_drew ?_) | (with_reducible refine bel_drewN ?_ _) | (with_reducible refine bel_trans ?_ (by with_reducible assumption))))⟩
theorem blk_new (W : World) (o : Obj) : (W.alloc o).heap[W.heap.size]? = some o := by
  show (W.heap.push _)[W.heap.size]? = _
  simp
theorem take_set {ms : List Int} {i : Nat} {n : Int} (h : i < ms.length) : (ms.set i n).take (i + 1) = ms.take i ++ [n] := by
  rw [List.take_add_one, List.getElem?_set_self h, List.take_set_of_le (Nat.le_refl _)]; rfl
/-- How the reading of a job ends. -/
def RjP (L : List ByteArray) (w : World) (e : Ending) (w' : World) : Prop := ∃ (s t k z p l e2 : Int) (b : Bool) (v r c : Int), ((c = 0 ∧ e = .returned (.tuple #[.agg #[.int .i64 s, .int .i64 t, .int .i64 k, .int .i64 z, .int .i64 p, .int .i64 l, .int .i64 e2, .bool b, .int .i64 v, .int .i64 r], .nilIface])) ∨ (1 ≤ c ∧ e = .returned (.tuple #[.agg #[.int .i64 s, .int .i64 t, .int .i64 k, .int .i64 z, .int .i64 p, .int .i64 l, .int .i64 e2, .bool b, .int .i64 v, .int .i64 r], .iface 55 (.agg #[.int .i64 c])]))) ∧ JR L [s, t, k, z, p, l, e2, v, r] b c ∧ Below w.heap.size w w'
theorem rj_bad {L : List ByteArray} {i : Nat} {s : ByteArray} {ns : List Int} {w w' : World} {c : Int} (hc : c = ((i + 1 : Nat) : Int)) (hs : L[i]? = some s) (hG : GoodJ (L.take i) ns) (hn : ∀ n, ¬ LnR i s n) (hb : Below w.heap.size w w') : RjP L w (.returned (.tuple #[.agg #[.int .i64 0, .int .i64 0, .int .i64 0, .int .i64 0, .int .i64 0, .int .i64 0, .int .i64 0, .bool false, .int .i64 0, .int .i64 0], .iface 55 (.agg #[.int .i64 c])])) w' :=
  ⟨0, 0, 0, 0, 0, 0, 0, false, 0, 0, c, Or.inr ⟨by omega, rfl⟩, Or.inr (Or.inl ⟨rfl, rfl, i, s, ns, hs, hc, hG, hn⟩), hb⟩
theorem rj_end {L : List ByteArray} {ns : List Int} {w w' : World} {c : Int} (hc : c = ((L.length + 1 : Nat) : Int)) (hG : GoodJ L ns) (hn : ns.length < 10 ∨ ∃ s t k z p l e q v r : Int, ns = [s, t, k, z, p, l, e, q, v, r] ∧ okJob s t k z p l e v r = false) (hb : Below w.heap.size w w') : RjP L w (.returned (.tuple #[.agg #[.int .i64 0, .int .i64 0, .int .i64 0, .int .i64 0, .int .i64 0, .int .i64 0, .int .i64 0, .bool false, .int .i64 0, .int .i64 0], .iface 55 (.agg #[.int .i64 c])])) w' :=
  ⟨0, 0, 0, 0, 0, 0, 0, false, 0, 0, c, Or.inr ⟨by omega, rfl⟩, Or.inr (Or.inr ⟨rfl, rfl, hc, ns, hG, hn⟩), hb⟩
set_option maxRecDepth 20000 in
set_option maxHeartbeats 8000000 in
theorem readjob_any {tp1 tp2 : TypeId} {p1 p2 : Value} (a : Option Addr) (len cap : Nat) (L : List ByteArray) (w : World) (h : StRs w a len (stL L)) (hs : ∀ x ∈ L, x.size ≤ 1048576) (hl : len ≤ 1048576) (hE : EnvJ tp1 tp2 p1 p2 w) : Calls Tryd.prog 27 #[.slice a len cap] w fun e w' => RjP L w e w' := by
  have hLl : L.length = len := by have := h.1; rw [stL_len] at this; exact this
  have HS := hide hs
  clear hs
  go_enter Tryd.func27, Tryd.ntmps27
  go_wp2
  go_loopw [12] (fun i wr => ∃ (ix : Nat) (ms : List Int), ix ≤ len ∧ i = .int .i64 ix ∧ ms.length = 10 ∧ ix ≤ 10 ∧ Hid (wr.heap[w.heap.size + 1]? = some (.cells (ms.map (Value.int .i64)).toArray 45 (0, 0))) ∧ Hid (GoodJ (L.take ix) (ms.take ix)) ∧ Below (w.alloc (.cells #[.int .i64 0, .int .i64 0, .int .i64 0, .int .i64 0, .int .i64 0, .int .i64 0, .int .i64 0, .bool false, .int .i64 0, .int .i64 0] 24)).heap.size (w.alloc (.cells #[.int .i64 0, .int .i64 0, .int .i64 0, .int .i64 0, .int .i64 0, .int .i64 0, .int .i64 0, .bool false, .int .i64 0, .int .i64 0] 24)) wr) (fun i _ => len - (intOf i).toNat)
  case atStart => exact ⟨0, [0, 0, 0, 0, 0, 0, 0, 0, 0, 0], Nat.zero_le _, rfl, rfl, by omega, hide (by have h9 := blk_new (w.alloc (.cells #[.int .i64 0, .int .i64 0, .int .i64 0, .int .i64 0, .int .i64 0, .int .i64 0, .int .i64 0, .bool false, .int .i64 0, .int .i64 0] 24)) (.cells ([(0 : Int), 0, 0, 0, 0, 0, 0, 0, 0, 0].map (Value.int .i64)).toArray 45); rw [show (w.alloc (.cells #[.int .i64 0, .int .i64 0, .int .i64 0, .int .i64 0, .int .i64 0, .int .i64 0, .int .i64 0, .bool false, .int .i64 0, .int .i64 0] 24)).heap.size = w.heap.size + 1 by simp] at h9; exact h9), hide goodJ_nil, bel_one _ _⟩
  case round =>
    obtain ⟨ix, ms, hk, rfl, hml, hix, HB, HG, hbw⟩ := hrel
    have hws := hbw.size
    simp at hws
    have hbs := (Array.getElem?_eq_some_iff.1 (unhide HB)).1
    by_cases hlt : ix < len
    · obtain ⟨x0, hx0⟩ : ∃ x0, L[ix]? = some x0 := ⟨_, List.getElem?_eq_getElem (by omega)⟩
      obtain ⟨g, o, rfl⟩ : ∃ g o, a = some ⟨g, o, none⟩ := by
        obtain ⟨g, o, ha, _⟩ := h.2.2.resolve_left (by omega)
        exact ⟨g, o, ha⟩
      obtain ⟨d0, hg⟩ := st_at (h.below (bel_trans (bel_one w _) hbw)) hx0
      have hsz := unhide HS x0 (List.mem_of_getElem? hx0)
      have HL := hide hx0
      have HH := hide h
      clear hx0 h
      have hbZ := hbw
      by_cases h10 : ix = 10
      · have hq : ((ix : Int) == 10) = true := by simp; omega
        have H10 := hide h10
        clear h10
        have c0 : wr.cell? ⟨w.heap.size, 0, none⟩ = some (.int .i64 0) := (hbZ.cell (p := ⟨w.heap.size, 0, none⟩) (by simp)).trans (by simp [go_sem])
        have f0 : wr.frozen? ⟨w.heap.size, 0, none⟩ = false := (hbZ.frozen (p := ⟨w.heap.size, 0, none⟩) (by simp)).trans (by simp [go_sem])
        have c1 : wr.cell? ⟨w.heap.size, 1, none⟩ = some (.int .i64 0) := (hbZ.cell (p := ⟨w.heap.size, 1, none⟩) (by simp)).trans (by simp [go_sem])
        have f1 : wr.frozen? ⟨w.heap.size, 1, none⟩ = false := (hbZ.frozen (p := ⟨w.heap.size, 1, none⟩) (by simp)).trans (by simp [go_sem])
        have c2 : wr.cell? ⟨w.heap.size, 2, none⟩ = some (.int .i64 0) := (hbZ.cell (p := ⟨w.heap.size, 2, none⟩) (by simp)).trans (by simp [go_sem])
        have f2 : wr.frozen? ⟨w.heap.size, 2, none⟩ = false := (hbZ.frozen (p := ⟨w.heap.size, 2, none⟩) (by simp)).trans (by simp [go_sem])
        have c3 : wr.cell? ⟨w.heap.size, 3, none⟩ = some (.int .i64 0) := (hbZ.cell (p := ⟨w.heap.size, 3, none⟩) (by simp)).trans (by simp [go_sem])
        have f3 : wr.frozen? ⟨w.heap.size, 3, none⟩ = false := (hbZ.frozen (p := ⟨w.heap.size, 3, none⟩) (by simp)).trans (by simp [go_sem])
        have c4 : wr.cell? ⟨w.heap.size, 4, none⟩ = some (.int .i64 0) := (hbZ.cell (p := ⟨w.heap.size, 4, none⟩) (by simp)).trans (by simp [go_sem])
        have f4 : wr.frozen? ⟨w.heap.size, 4, none⟩ = false := (hbZ.frozen (p := ⟨w.heap.size, 4, none⟩) (by simp)).trans (by simp [go_sem])
        have c5 : wr.cell? ⟨w.heap.size, 5, none⟩ = some (.int .i64 0) := (hbZ.cell (p := ⟨w.heap.size, 5, none⟩) (by simp)).trans (by simp [go_sem])
        have f5 : wr.frozen? ⟨w.heap.size, 5, none⟩ = false := (hbZ.frozen (p := ⟨w.heap.size, 5, none⟩) (by simp)).trans (by simp [go_sem])
        have c6 : wr.cell? ⟨w.heap.size, 6, none⟩ = some (.int .i64 0) := (hbZ.cell (p := ⟨w.heap.size, 6, none⟩) (by simp)).trans (by simp [go_sem])
        have f6 : wr.frozen? ⟨w.heap.size, 6, none⟩ = false := (hbZ.frozen (p := ⟨w.heap.size, 6, none⟩) (by simp)).trans (by simp [go_sem])
        have c7 : wr.cell? ⟨w.heap.size, 7, none⟩ = some (.bool false) := (hbZ.cell (p := ⟨w.heap.size, 7, none⟩) (by simp)).trans (by simp [go_sem])
        have f7 : wr.frozen? ⟨w.heap.size, 7, none⟩ = false := (hbZ.frozen (p := ⟨w.heap.size, 7, none⟩) (by simp)).trans (by simp [go_sem])
        have c8 : wr.cell? ⟨w.heap.size, 8, none⟩ = some (.int .i64 0) := (hbZ.cell (p := ⟨w.heap.size, 8, none⟩) (by simp)).trans (by simp [go_sem])
        have f8 : wr.frozen? ⟨w.heap.size, 8, none⟩ = false := (hbZ.frozen (p := ⟨w.heap.size, 8, none⟩) (by simp)).trans (by simp [go_sem])
        have c9 : wr.cell? ⟨w.heap.size, 9, none⟩ = some (.int .i64 0) := (hbZ.cell (p := ⟨w.heap.size, 9, none⟩) (by simp)).trans (by simp [go_sem])
        have f9 : wr.frozen? ⟨w.heap.size, 9, none⟩ = false := (hbZ.frozen (p := ⟨w.heap.size, 9, none⟩) (by simp)).trans (by simp [go_sem])
        go_wp2
        refine bodyPost_ret (v := .tuple #[.agg #[.int .i64 0, .int .i64 0, .int .i64 0, .int .i64 0, .int .i64 0, .int .i64 0, .int .i64 0, .bool false, .int .i64 0, .int .i64 0], .iface 55 (.agg #[.int .i64 ((ix : Int) + 1)])]) (by simp (maxDischargeDepth := 9) [results, Tryd.results27, go_sem, *]) rfl ?_
        exact rj_bad (by omega) (unhide HL) (unhide HG) (fun n hn => by obtain ⟨y, e, _⟩ := hn; rw [unhide H10] at e; simp [jNames] at e) (by repeat (first | (with_reducible refine bel_set ?_ (by first | (simp; done) | (simp; omega)) _) | (with_reducible exact bel_trans (bel_one _ _) hbZ)))
      · have hq : ((ix : Int) == 10) = false := by simp; omega
        have hltI : (ix : Int) < 10 := by omega
        have hltN : ix < 10 := by omega
        obtain ⟨x, hx, hxs⟩ := jNames_at (show ix < 10 by omega)
        have HX := hide hx
        have hEr := hE.bel (bel_trans (bel_one w _) hbw)
        have cg := hEr.wg.1 _ _ hx
        have sg := hEr.wg.2
        clear hx
        go_wp2_with fail
        refine (readjobline_any x0 _ (unhide HX) hEr hsz).mono ?_
        rintro e5 w5 ⟨n, b, rfl, hR, hb5⟩
        have HR := hide hR
        have z5 := hb5.size
        replace hbZ : Below (w.alloc (.cells #[.int .i64 0, .int .i64 0, .int .i64 0, .int .i64 0, .int .i64 0, .int .i64 0, .int .i64 0, .bool false, .int .i64 0, .int .i64 0] 24)).heap.size (w.alloc (.cells #[.int .i64 0, .int .i64 0, .int .i64 0, .int .i64 0, .int .i64 0, .int .i64 0, .int .i64 0, .bool false, .int .i64 0, .int .i64 0] 24)) w5 := bel_trans hbw hb5
        have HB5 : Hid (w5.heap[w.heap.size + 1]? = some (.cells (ms.map (Value.int .i64)).toArray 45 (0, 0))) := hide ((hb5.block _ hbs).trans (unhide HB))
        clear hR hEr cg sg d0 hg
        cases b with
        | false =>
          have c0 : w5.cell? ⟨w.heap.size, 0, none⟩ = some (.int .i64 0) := (hbZ.cell (p := ⟨w.heap.size, 0, none⟩) (by simp)).trans (by simp [go_sem])
          have f0 : w5.frozen? ⟨w.heap.size, 0, none⟩ = false := (hbZ.frozen (p := ⟨w.heap.size, 0, none⟩) (by simp)).trans (by simp [go_sem])
          have c1 : w5.cell? ⟨w.heap.size, 1, none⟩ = some (.int .i64 0) := (hbZ.cell (p := ⟨w.heap.size, 1, none⟩) (by simp)).trans (by simp [go_sem])
          have f1 : w5.frozen? ⟨w.heap.size, 1, none⟩ = false := (hbZ.frozen (p := ⟨w.heap.size, 1, none⟩) (by simp)).trans (by simp [go_sem])
          have c2 : w5.cell? ⟨w.heap.size, 2, none⟩ = some (.int .i64 0) := (hbZ.cell (p := ⟨w.heap.size, 2, none⟩) (by simp)).trans (by simp [go_sem])
          have f2 : w5.frozen? ⟨w.heap.size, 2, none⟩ = false := (hbZ.frozen (p := ⟨w.heap.size, 2, none⟩) (by simp)).trans (by simp [go_sem])
          have c3 : w5.cell? ⟨w.heap.size, 3, none⟩ = some (.int .i64 0) := (hbZ.cell (p := ⟨w.heap.size, 3, none⟩) (by simp)).trans (by simp [go_sem])
          have f3 : w5.frozen? ⟨w.heap.size, 3, none⟩ = false := (hbZ.frozen (p := ⟨w.heap.size, 3, none⟩) (by simp)).trans (by simp [go_sem])
          have c4 : w5.cell? ⟨w.heap.size, 4, none⟩ = some (.int .i64 0) := (hbZ.cell (p := ⟨w.heap.size, 4, none⟩) (by simp)).trans (by simp [go_sem])
          have f4 : w5.frozen? ⟨w.heap.size, 4, none⟩ = false := (hbZ.frozen (p := ⟨w.heap.size, 4, none⟩) (by simp)).trans (by simp [go_sem])
          have c5 : w5.cell? ⟨w.heap.size, 5, none⟩ = some (.int .i64 0) := (hbZ.cell (p := ⟨w.heap.size, 5, none⟩) (by simp)).trans (by simp [go_sem])
          have f5 : w5.frozen? ⟨w.heap.size, 5, none⟩ = false := (hbZ.frozen (p := ⟨w.heap.size, 5, none⟩) (by simp)).trans (by simp [go_sem])
          have c6 : w5.cell? ⟨w.heap.size, 6, none⟩ = some (.int .i64 0) := (hbZ.cell (p := ⟨w.heap.size, 6, none⟩) (by simp)).trans (by simp [go_sem])
          have f6 : w5.frozen? ⟨w.heap.size, 6, none⟩ = false := (hbZ.frozen (p := ⟨w.heap.size, 6, none⟩) (by simp)).trans (by simp [go_sem])
          have c7 : w5.cell? ⟨w.heap.size, 7, none⟩ = some (.bool false) := (hbZ.cell (p := ⟨w.heap.size, 7, none⟩) (by simp)).trans (by simp [go_sem])
          have f7 : w5.frozen? ⟨w.heap.size, 7, none⟩ = false := (hbZ.frozen (p := ⟨w.heap.size, 7, none⟩) (by simp)).trans (by simp [go_sem])
          have c8 : w5.cell? ⟨w.heap.size, 8, none⟩ = some (.int .i64 0) := (hbZ.cell (p := ⟨w.heap.size, 8, none⟩) (by simp)).trans (by simp [go_sem])
          have f8 : w5.frozen? ⟨w.heap.size, 8, none⟩ = false := (hbZ.frozen (p := ⟨w.heap.size, 8, none⟩) (by simp)).trans (by simp [go_sem])
          have c9 : w5.cell? ⟨w.heap.size, 9, none⟩ = some (.int .i64 0) := (hbZ.cell (p := ⟨w.heap.size, 9, none⟩) (by simp)).trans (by simp [go_sem])
          have f9 : w5.frozen? ⟨w.heap.size, 9, none⟩ = false := (hbZ.frozen (p := ⟨w.heap.size, 9, none⟩) (by simp)).trans (by simp [go_sem])
          go_wp2
          refine bodyPost_ret (v := .tuple #[.agg #[.int .i64 0, .int .i64 0, .int .i64 0, .int .i64 0, .int .i64 0, .int .i64 0, .int .i64 0, .bool false, .int .i64 0, .int .i64 0], .iface 55 (.agg #[.int .i64 ((ix : Int) + 1)])]) (by simp (maxDischargeDepth := 9) [results, Tryd.results27, go_sem, *]) rfl ?_
          exact rj_bad (by omega) (unhide HL) (unhide HG) (by rcases unhide HR with ⟨h, _⟩ | ⟨_, h⟩; cases h; exact h) (by repeat (first | (with_reducible refine bel_set ?_ (by first | (simp; done) | (simp; omega)) _) | (with_reducible exact bel_trans (bel_one _ _) hbZ)))
        | true =>
          have hLn : Hid (LnR ix x0 n) := hide (by rcases unhide HR with ⟨_, h⟩ | ⟨h, _⟩; exact h; cases h)
          have hcell := Joins.cell_of_block (unhide HB5) ix
          rw [List.getElem?_toArray, List.getElem?_map, List.getElem?_eq_getElem (show ix < ms.length by omega)] at hcell
          simp only [Option.map_some] at hcell
          have hfz := Joins.unfrozen_of_block (unhide HB5) ix
          have hbs5 := (Array.getElem?_eq_some_iff.1 (unhide HB5)).1
          go_wp2
          go_roundw
          case rel =>
            refine ⟨ix + 1, ms.set ix n, by omega, by go_num, by rw [List.length_set]; exact hml, by omega, hide ?_, hide ?_, hbZ.setCell (by simp) _⟩
            · rw [Joins.block_setCell (unhide HB5) _, List.setIfInBounds_toArray, List.map_set]
            · rw [take_set (by omega)]; exact (unhide HG).snoc (unhide HL) (unhide hLn)
          case measure => simp [intOf]; omega
    · obtain rfl : ix = len := by omega
      have HGL : Hid (GoodJ L (ms.take ix)) := hide (by have h9 := unhide HG; rwa [List.take_of_length_le (l := L) (by omega)] at h9)
      have hbZ := hbw
      obtain ⟨b0, b1, b2, b3, b4, b5, b6, b7, b8, b9, rfl⟩ := ten hml
      have hBk := unhide HB
      simp only [List.map_cons, List.map_nil] at hBk
      have m0 : wr.cell? ⟨w.heap.size + 1, 0, none⟩ = some (.int .i64 b0) := Joins.cell_of_block hBk 0
      have m1 : wr.cell? ⟨w.heap.size + 1, 1, none⟩ = some (.int .i64 b1) := Joins.cell_of_block hBk 1
      have m2 : wr.cell? ⟨w.heap.size + 1, 2, none⟩ = some (.int .i64 b2) := Joins.cell_of_block hBk 2
      have m3 : wr.cell? ⟨w.heap.size + 1, 3, none⟩ = some (.int .i64 b3) := Joins.cell_of_block hBk 3
      have m4 : wr.cell? ⟨w.heap.size + 1, 4, none⟩ = some (.int .i64 b4) := Joins.cell_of_block hBk 4
      have m5 : wr.cell? ⟨w.heap.size + 1, 5, none⟩ = some (.int .i64 b5) := Joins.cell_of_block hBk 5
      have m6 : wr.cell? ⟨w.heap.size + 1, 6, none⟩ = some (.int .i64 b6) := Joins.cell_of_block hBk 6
      have m7 : wr.cell? ⟨w.heap.size + 1, 7, none⟩ = some (.int .i64 b7) := Joins.cell_of_block hBk 7
      have m8 : wr.cell? ⟨w.heap.size + 1, 8, none⟩ = some (.int .i64 b8) := Joins.cell_of_block hBk 8
      have m9 : wr.cell? ⟨w.heap.size + 1, 9, none⟩ = some (.int .i64 b9) := Joins.cell_of_block hBk 9
      have hbs2 : w.heap.size + 1 < wr.heap.size := hbs
      clear hBk
      go_wp2_with fail
      refine (jobOf_any b0 b1 b2 b3 b4 b5 b6 b7 b8 b9 _).mono ?_
      rintro e6 w6 ⟨rfl, hb6⟩
      have z6 := hb6.size
      replace hbZ : Below (w.alloc (.cells #[.int .i64 0, .int .i64 0, .int .i64 0, .int .i64 0, .int .i64 0, .int .i64 0, .int .i64 0, .bool false, .int .i64 0, .int .i64 0] 24)).heap.size (w.alloc (.cells #[.int .i64 0, .int .i64 0, .int .i64 0, .int .i64 0, .int .i64 0, .int .i64 0, .int .i64 0, .bool false, .int .i64 0, .int .i64 0] 24)) w6 := bel_trans hbw hb6
      have hzZ := hbZ.size
      simp at hzZ
      clear m0 m1 m2 m3 m4 m5 m6 m7 m8 m9
      by_cases h10 : ix < 10
      · have hm1 : decide ((ix : Int) < 10) = true := by simp; omega
        have hl6 : w.heap.size < w6.heap.size := by omega
        have hl7 : ¬ w.heap.size = w6.heap.size := by omega
        have c0 : w6.cell? ⟨w.heap.size, 0, none⟩ = some (.int .i64 0) := (hbZ.cell (p := ⟨w.heap.size, 0, none⟩) (by simp)).trans (by simp [go_sem])
        have f0 : w6.frozen? ⟨w.heap.size, 0, none⟩ = false := (hbZ.frozen (p := ⟨w.heap.size, 0, none⟩) (by simp)).trans (by simp [go_sem])
        have c1 : w6.cell? ⟨w.heap.size, 1, none⟩ = some (.int .i64 0) := (hbZ.cell (p := ⟨w.heap.size, 1, none⟩) (by simp)).trans (by simp [go_sem])
        have f1 : w6.frozen? ⟨w.heap.size, 1, none⟩ = false := (hbZ.frozen (p := ⟨w.heap.size, 1, none⟩) (by simp)).trans (by simp [go_sem])
        have c2 : w6.cell? ⟨w.heap.size, 2, none⟩ = some (.int .i64 0) := (hbZ.cell (p := ⟨w.heap.size, 2, none⟩) (by simp)).trans (by simp [go_sem])
        have f2 : w6.frozen? ⟨w.heap.size, 2, none⟩ = false := (hbZ.frozen (p := ⟨w.heap.size, 2, none⟩) (by simp)).trans (by simp [go_sem])
        have c3 : w6.cell? ⟨w.heap.size, 3, none⟩ = some (.int .i64 0) := (hbZ.cell (p := ⟨w.heap.size, 3, none⟩) (by simp)).trans (by simp [go_sem])
        have f3 : w6.frozen? ⟨w.heap.size, 3, none⟩ = false := (hbZ.frozen (p := ⟨w.heap.size, 3, none⟩) (by simp)).trans (by simp [go_sem])
        have c4 : w6.cell? ⟨w.heap.size, 4, none⟩ = some (.int .i64 0) := (hbZ.cell (p := ⟨w.heap.size, 4, none⟩) (by simp)).trans (by simp [go_sem])
        have f4 : w6.frozen? ⟨w.heap.size, 4, none⟩ = false := (hbZ.frozen (p := ⟨w.heap.size, 4, none⟩) (by simp)).trans (by simp [go_sem])
        have c5 : w6.cell? ⟨w.heap.size, 5, none⟩ = some (.int .i64 0) := (hbZ.cell (p := ⟨w.heap.size, 5, none⟩) (by simp)).trans (by simp [go_sem])
        have f5 : w6.frozen? ⟨w.heap.size, 5, none⟩ = false := (hbZ.frozen (p := ⟨w.heap.size, 5, none⟩) (by simp)).trans (by simp [go_sem])
        have c6 : w6.cell? ⟨w.heap.size, 6, none⟩ = some (.int .i64 0) := (hbZ.cell (p := ⟨w.heap.size, 6, none⟩) (by simp)).trans (by simp [go_sem])
        have f6 : w6.frozen? ⟨w.heap.size, 6, none⟩ = false := (hbZ.frozen (p := ⟨w.heap.size, 6, none⟩) (by simp)).trans (by simp [go_sem])
        have c7 : w6.cell? ⟨w.heap.size, 7, none⟩ = some (.bool false) := (hbZ.cell (p := ⟨w.heap.size, 7, none⟩) (by simp)).trans (by simp [go_sem])
        have f7 : w6.frozen? ⟨w.heap.size, 7, none⟩ = false := (hbZ.frozen (p := ⟨w.heap.size, 7, none⟩) (by simp)).trans (by simp [go_sem])
        have c8 : w6.cell? ⟨w.heap.size, 8, none⟩ = some (.int .i64 0) := (hbZ.cell (p := ⟨w.heap.size, 8, none⟩) (by simp)).trans (by simp [go_sem])
        have f8 : w6.frozen? ⟨w.heap.size, 8, none⟩ = false := (hbZ.frozen (p := ⟨w.heap.size, 8, none⟩) (by simp)).trans (by simp [go_sem])
        have c9 : w6.cell? ⟨w.heap.size, 9, none⟩ = some (.int .i64 0) := (hbZ.cell (p := ⟨w.heap.size, 9, none⟩) (by simp)).trans (by simp [go_sem])
        have f9 : w6.frozen? ⟨w.heap.size, 9, none⟩ = false := (hbZ.frozen (p := ⟨w.heap.size, 9, none⟩) (by simp)).trans (by simp [go_sem])
        go_wp2
        refine bodyPost_ret (v := .tuple #[.agg #[.int .i64 0, .int .i64 0, .int .i64 0, .int .i64 0, .int .i64 0, .int .i64 0, .int .i64 0, .bool false, .int .i64 0, .int .i64 0], .iface 55 (.agg #[.int .i64 ((ix : Int) + 1)])]) (by simp (maxDischargeDepth := 9) [results, Tryd.results27, go_sem, *]) rfl ?_
        exact rj_end (by omega) (unhide HGL) (Or.inl (by rw [List.length_take]; omega)) (by repeat (first | (with_reducible refine bel_alloc ?_ _) | (with_reducible refine bel_set ?_ (by first | (with_reducible refine bel_alloc ?_ _) | (simp; done) | (simp; omega)) _) | (with_reducible exact bel_trans (bel_one _ _) hbZ)))
      · obtain rfl : ix = 10 := by omega
        have HG10 : Hid (GoodJ L [b0, b1, b2, b3, b4, b5, b6, b7, b8, b9]) := hide (by have h9 := unhide HGL; simpa using h9)
        cases ho : okJob b0 b1 b2 b3 b4 b5 b6 b8 b9
        all_goals
          go_wp2_with fail
          refine (impljobok_any b0 b1 b2 b3 b4 b5 b6 (b7 == 1) b8 b9 _).mono ?_
          rw [ho]
          rintro e8 w8 ⟨rfl, hb8⟩
          have hb7 : Below (w6.alloc (.cells #[.int .i64 b0, .int .i64 b1, .int .i64 b2, .int .i64 b3, .int .i64 b4, .int .i64 b5, .int .i64 b6, .bool (b7 == 1), .int .i64 b8, .int .i64 b9] 24)).heap.size (w6.alloc (.cells #[.int .i64 b0, .int .i64 b1, .int .i64 b2, .int .i64 b3, .int .i64 b4, .int .i64 b5, .int .i64 b6, .bool (b7 == 1), .int .i64 b8, .int .i64 b9] 24)) w8 := hb8
          have hbY : Below (w.alloc (.cells #[.int .i64 0, .int .i64 0, .int .i64 0, .int .i64 0, .int .i64 0, .int .i64 0, .int .i64 0, .bool false, .int .i64 0, .int .i64 0] 24)).heap.size (w.alloc (.cells #[.int .i64 0, .int .i64 0, .int .i64 0, .int .i64 0, .int .i64 0, .int .i64 0, .int .i64 0, .bool false, .int .i64 0, .int .i64 0] 24)) w8 := bel_trans (bel_alloc hbZ _) hb7
          have e0 : w8.cell? ⟨w6.heap.size, 0, none⟩ = some (.int .i64 b0) := (hb7.cell (p := ⟨w6.heap.size, 0, none⟩) (by simp)).trans (by simp [go_sem])
          have e1 : w8.cell? ⟨w6.heap.size, 1, none⟩ = some (.int .i64 b1) := (hb7.cell (p := ⟨w6.heap.size, 1, none⟩) (by simp)).trans (by simp [go_sem])
          have e2 : w8.cell? ⟨w6.heap.size, 2, none⟩ = some (.int .i64 b2) := (hb7.cell (p := ⟨w6.heap.size, 2, none⟩) (by simp)).trans (by simp [go_sem])
          have e3 : w8.cell? ⟨w6.heap.size, 3, none⟩ = some (.int .i64 b3) := (hb7.cell (p := ⟨w6.heap.size, 3, none⟩) (by simp)).trans (by simp [go_sem])
          have e4 : w8.cell? ⟨w6.heap.size, 4, none⟩ = some (.int .i64 b4) := (hb7.cell (p := ⟨w6.heap.size, 4, none⟩) (by simp)).trans (by simp [go_sem])
          have e5 : w8.cell? ⟨w6.heap.size, 5, none⟩ = some (.int .i64 b5) := (hb7.cell (p := ⟨w6.heap.size, 5, none⟩) (by simp)).trans (by simp [go_sem])
          have e6 : w8.cell? ⟨w6.heap.size, 6, none⟩ = some (.int .i64 b6) := (hb7.cell (p := ⟨w6.heap.size, 6, none⟩) (by simp)).trans (by simp [go_sem])
          have e7 : w8.cell? ⟨w6.heap.size, 7, none⟩ = some (.bool (b7 == 1)) := (hb7.cell (p := ⟨w6.heap.size, 7, none⟩) (by simp)).trans (by simp [go_sem])
          have e8 : w8.cell? ⟨w6.heap.size, 8, none⟩ = some (.int .i64 b8) := (hb7.cell (p := ⟨w6.heap.size, 8, none⟩) (by simp)).trans (by simp [go_sem])
          have e9 : w8.cell? ⟨w6.heap.size, 9, none⟩ = some (.int .i64 b9) := (hb7.cell (p := ⟨w6.heap.size, 9, none⟩) (by simp)).trans (by simp [go_sem])
          have c0 : w8.cell? ⟨w.heap.size, 0, none⟩ = some (.int .i64 0) := (hbY.cell (p := ⟨w.heap.size, 0, none⟩) (by simp)).trans (by simp [go_sem])
          have f0 : w8.frozen? ⟨w.heap.size, 0, none⟩ = false := (hbY.frozen (p := ⟨w.heap.size, 0, none⟩) (by simp)).trans (by simp [go_sem])
          have c1 : w8.cell? ⟨w.heap.size, 1, none⟩ = some (.int .i64 0) := (hbY.cell (p := ⟨w.heap.size, 1, none⟩) (by simp)).trans (by simp [go_sem])
          have f1 : w8.frozen? ⟨w.heap.size, 1, none⟩ = false := (hbY.frozen (p := ⟨w.heap.size, 1, none⟩) (by simp)).trans (by simp [go_sem])
          have c2 : w8.cell? ⟨w.heap.size, 2, none⟩ = some (.int .i64 0) := (hbY.cell (p := ⟨w.heap.size, 2, none⟩) (by simp)).trans (by simp [go_sem])
          have f2 : w8.frozen? ⟨w.heap.size, 2, none⟩ = false := (hbY.frozen (p := ⟨w.heap.size, 2, none⟩) (by simp)).trans (by simp [go_sem])
          have c3 : w8.cell? ⟨w.heap.size, 3, none⟩ = some (.int .i64 0) := (hbY.cell (p := ⟨w.heap.size, 3, none⟩) (by simp)).trans (by simp [go_sem])
          have f3 : w8.frozen? ⟨w.heap.size, 3, none⟩ = false := (hbY.frozen (p := ⟨w.heap.size, 3, none⟩) (by simp)).trans (by simp [go_sem])
          have c4 : w8.cell? ⟨w.heap.size, 4, none⟩ = some (.int .i64 0) := (hbY.cell (p := ⟨w.heap.size, 4, none⟩) (by simp)).trans (by simp [go_sem])
          have f4 : w8.frozen? ⟨w.heap.size, 4, none⟩ = false := (hbY.frozen (p := ⟨w.heap.size, 4, none⟩) (by simp)).trans (by simp [go_sem])
          have c5 : w8.cell? ⟨w.heap.size, 5, none⟩ = some (.int .i64 0) := (hbY.cell (p := ⟨w.heap.size, 5, none⟩) (by simp)).trans (by simp [go_sem])
          have f5 : w8.frozen? ⟨w.heap.size, 5, none⟩ = false := (hbY.frozen (p := ⟨w.heap.size, 5, none⟩) (by simp)).trans (by simp [go_sem])
          have c6 : w8.cell? ⟨w.heap.size, 6, none⟩ = some (.int .i64 0) := (hbY.cell (p := ⟨w.heap.size, 6, none⟩) (by simp)).trans (by simp [go_sem])
          have f6 : w8.frozen? ⟨w.heap.size, 6, none⟩ = false := (hbY.frozen (p := ⟨w.heap.size, 6, none⟩) (by simp)).trans (by simp [go_sem])
          have c7 : w8.cell? ⟨w.heap.size, 7, none⟩ = some (.bool false) := (hbY.cell (p := ⟨w.heap.size, 7, none⟩) (by simp)).trans (by simp [go_sem])
          have f7 : w8.frozen? ⟨w.heap.size, 7, none⟩ = false := (hbY.frozen (p := ⟨w.heap.size, 7, none⟩) (by simp)).trans (by simp [go_sem])
          have c8 : w8.cell? ⟨w.heap.size, 8, none⟩ = some (.int .i64 0) := (hbY.cell (p := ⟨w.heap.size, 8, none⟩) (by simp)).trans (by simp [go_sem])
          have f8 : w8.frozen? ⟨w.heap.size, 8, none⟩ = false := (hbY.frozen (p := ⟨w.heap.size, 8, none⟩) (by simp)).trans (by simp [go_sem])
          have c9 : w8.cell? ⟨w.heap.size, 9, none⟩ = some (.int .i64 0) := (hbY.cell (p := ⟨w.heap.size, 9, none⟩) (by simp)).trans (by simp [go_sem])
          have f9 : w8.frozen? ⟨w.heap.size, 9, none⟩ = false := (hbY.frozen (p := ⟨w.heap.size, 9, none⟩) (by simp)).trans (by simp [go_sem])
          clear hbZ hb7 hb8
          have hbZ := hbY
          go_wp2
        · refine bodyPost_ret (v := .tuple #[.agg #[.int .i64 0, .int .i64 0, .int .i64 0, .int .i64 0, .int .i64 0, .int .i64 0, .int .i64 0, .bool false, .int .i64 0, .int .i64 0], .iface 55 (.agg #[.int .i64 11])]) (by simp (maxDischargeDepth := 9) [results, Tryd.results27, go_sem, *]) rfl ?_
          exact rj_end (by omega) (unhide HG10) (Or.inr ⟨_, _, _, _, _, _, _, _, _, _, rfl, ho⟩) (by repeat (first | (with_reducible refine bel_set ?_ (by first | (simp; done) | (simp; omega)) _) | (with_reducible exact bel_trans (bel_one _ _) hbZ)))
        · refine bodyPost_ret (v := .tuple #[.agg #[.int .i64 b0, .int .i64 b1, .int .i64 b2, .int .i64 b3, .int .i64 b4, .int .i64 b5, .int .i64 b6, .bool (b7 == 1), .int .i64 b8, .int .i64 b9], .nilIface]) (by simp (maxDischargeDepth := 9) [results, Tryd.results27, go_sem, *]) rfl ?_
          exact ⟨_, _, _, _, _, _, _, _, _, _, 0, Or.inl ⟨rfl, rfl⟩, Or.inl ⟨rfl, _, _, _, _, _, _, _, _, _, _, unhide HG10, ho, rfl, (by first | rfl | simp)⟩, (by repeat (first | (with_reducible refine bel_set ?_ (by first | (simp; done) | (simp; omega)) _) | (with_reducible exact bel_trans (bel_one _ _) hbZ)))⟩
end Go.Proofs.YtgccnmegbdlefaaDoor
