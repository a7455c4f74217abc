/- Laid together: what the claim needs of the texts that were built one by one. -/
import Derived.Test.YtblmhpngaccllaaPkTabOfM
import Derived.Test.YtblmhpngaccllaaPkBoth2
import Derived.Test.YtblmhpngaccllaaPkPan
import Derived.Test.YtblmhpngaccllaaPkRwaPan
import Derived.BigQuiet
import Derived.Test.YtblmhpngaccllaaPkBase
namespace Go.Proofs.Ytblmhpngaccllaa
open Go.ChangeShapes Go.WideShapes Go.ChangeAt Go.RowKit Go.Maps
set_option linter.unusedVariables false

theorem OwnsV.store {w : World} {b n : Nat} {m : P3 → Option Value} (h : OwnsV w b n m) (hn : n < maxLen) (q : P3) (hq : ok3 q) (val : Value) :
    ∃ w', (Instr.mapUpdate 48 (.map (some b)) (.agg #[.int .i64 q.1, .int .i64 q.2.1, .int .i64 q.2.2]) val).run Try.prog w = .ok () w' ∧ OwnsV w' b (n + 1) (fun x => if x = q then some val else m x) ∧ w.grownBy w' (some b) :=
  OwnsOp.store h key3 Try.underlying48 hn some3 inj3 q hq val (ps := []) rfl

theorem OwnsV.drop {w : World} {b n : Nat} {m : P3 → Option Value} (h : OwnsV w b n m) (q : P3) (hq : ok3 q) (ty : TypeId) :
    ∃ w', (Builtin.delete_ #[48, 50] ty #[.map (some b), .agg #[.int .i64 q.1, .int .i64 q.2.1, .int .i64 q.2.2]]).run Try.prog w = .ok (.tuple #[]) w' ∧ OwnsV w' b n (fun x => if x = q then none else m x) ∧ w.grownBy w' (some b) :=
  OwnsOp.drop h key3 Try.underlying48 some3 inj3 q hq ty

theorem OwnsV.more {w : World} {b n n2 : Nat} {m : P3 → Option Value} (h : OwnsV w b n m) (hn : n ≤ n2) : OwnsV w b n2 m := OwnsOp.more h hn

theorem OwnsV.bel {w w' : World} {b n : Nat} {m : P3 → Option Value} (h : OwnsV w b n m) (hb : Below w.heap.size w w') : OwnsV w' b n m := OwnsOp.below h hb

theorem step_gone {pc : Bool} {f : P3 → Option Ag4} {p : PnR} (h : p.kd = 3) : (fun x => if x = plP p then none else (f x).map agV) = fun x => (stepF pc f p x).map agV := by
  funext x
  unfold stepF
  by_cases e : x = plP p
  · simp [e, h]
  · simp [e]

theorem step_set {f : P3 → Option Ag4} {p : PnR} (h : ¬ p.kd = 3) : (fun x => if x = plP p then some (.agg #[.int .i64 p.n, .int .i64 p.su, .int .i64 p.le, .int .i64 p.mo]) else (f x).map agV) = fun x => (stepF false f p x).map agV := by
  funext x
  unfold stepF
  by_cases e : x = plP p
  · simp [e, h, agV]
  · simp [e]

theorem step_both {f : P3 → Option Ag4} {p : PnR} {a b c d : Int} (h : ¬ p.kd = 3) (hb : bothF ((f (plP p)).getD ag0) p.n p.su p.le p.mo = (a, b, c, d)) : (fun x => if x = plP p then some (.agg #[.int .i64 a, .int .i64 b, .int .i64 c, .int .i64 d]) else (f x).map agV) = fun x => (stepF true f p x).map agV := by
  funext x
  unfold stepF
  by_cases e : x = plP p
  · simp [e, h, hb, agV]
  · simp [e]

theorem implboth_at {n s l m n' s' l' m' x y u v : Int} (w : World) (h : Hid (bothF (n, s, l, m) n' s' l' m' = (x, y, u, v))) : Calls Try.prog 11 #[.agg #[.int .i64 n, .int .i64 s, .int .i64 l, .int .i64 m], .agg #[.int .i64 n', .int .i64 s', .int .i64 l', .int .i64 m']] w fun e w' => e = .returned (.agg #[.int .i64 x, .int .i64 y, .int .i64 u, .int .i64 v]) ∧ Below w.heap.size w w' := by
  have h9 := implboth_any n s l m n' s' l' m' w
  have h8 := unhide h
  simp only [bothF, Prod.mk.injEq] at h8
  obtain ⟨rfl, rfl, rfl, rfl⟩ := h8
  exact h9

theorem val_get {m : Option Ag4} {a b c d : Int} (h : m.getD ag0 = (a, b, c, d)) : (m.map agV).getD (agV ag0) = .agg #[.int .i64 a, .int .i64 b, .int .i64 c, .int .i64 d] := by
  cases m with
  | none => simp only [Option.getD_none] at h; unfold ag0 at h; cases h; rfl
  | some x => simp at h; simp [h, agV]

set_option linter.unusedSimpArgs false in
set_option maxRecDepth 20000 in
set_option maxHeartbeats 4000000 in
theorem impltabof_o (pc : Bool) (a : Option Addr) (len cap : Nat) (ps : List PnR) (w : World) (h : PnRs w a len ps) (hl : len ≤ 1048576) (hok : ∀ p ∈ ps, ok3 (plP p)) : Calls Try.prog 5 #[.slice a len cap, .bool pc] w fun e w' => ∃ v, e = .returned v ∧ OwnTb w' w.heap.size v (tabOfL pc ps) ∧ Below w.heap.size w w' := by
  have hm := h.2.1
  unfold maxLen at hm
  have hpl := h.1
  have hmk : (Instr.makeMap 48 none).run Try.prog w = .ok (.map (some w.heap.size)) (w.alloc (.map #[] 0)) := rfl
  have HO0 : Hid (OwnsV (w.alloc (.map #[] 0)) w.heap.size 0 (fun q => (mapF pc (ps.take 0) q).map agV)) := hide (OwnsOp.made w Try.prog 50 rdV v3 ok3 DataW.held)
  go_enter Try.func5, Try.ntmps5
  go_wp2
  clear hmk
  go_loopw [12] (fun iv wr => ∃ i : Nat, i ≤ len ∧ iv = .int .i64 i ∧ Hid (OwnsV wr w.heap.size i (fun q => (mapF pc (ps.take i) q).map agV)) ∧ Below w.heap.size w wr) (fun iv _ => len - (intOf iv).toNat)
  case atStart => exact ⟨0, Nat.zero_le _, rfl, HO0, bel_one _ _⟩
  case round =>
    clear HO0
    obtain ⟨i, hil, rfl, HO, hbw⟩ := hrel
    have hmb := (unhide HO).lt
    by_cases hlt : i < len
    · obtain ⟨_, _, hy⟩ := h
      obtain ⟨g, o, rfl, hr⟩ := hy.resolve_left (by omega)
      obtain ⟨p, hpk⟩ : ∃ p, ps[i]? = some p := ⟨_, List.getElem?_eq_getElem (by omega)⟩
      have hpo : ok3 (plP p) := hok p (List.mem_of_getElem? hpk)
      have HS := hide (mapF_snoc (pc := pc) hpk)
      obtain ⟨c0, c1, c2, c3, c4, c5, c6, c7, c8⟩ := (hr i _ hpk).below hbw (hr.lt (by omega))
      clear hr hy hpk hok
      obtain ⟨ky, st, en, no, kd, n, su, le, mo⟩ := p
      dsimp only at c0 c1 c2 c3 c4 c5 c6 c7 c8
      go_wp2_with fail
      refine (panplace_any ky st en no kd n su le mo _).mono ?_
      rintro e' wq ⟨rfl, hbq⟩
      obtain ⟨d0, d1, d2⟩ := bcell hbq
      have hzq : wr.heap.size < wq.heap.size := by have := hbq.size; simp at this; omega
      have hbw2 : Below w.heap.size w wq := bel_trans (bel_alloc hbw _) hbq
      have HO2 := hide ((unhide HO).bel (bel_trans (bel_one _ _) hbq))
      clear HO hbq
      by_cases hk : kd = 3
      · have hk' : (kd == 3) = true := by simp [hk]
        have HOb := (unhide HO2).bel (bel_one wq (.cells #[.int .i64 ky, .int .i64 st, .int .i64 en] 50))
        obtain ⟨w2, hdel, hO3, hg3⟩ := HOb.drop (ky, st, en) hpo 0
        go_wp2
        refine ⟨⟨i + 1, by omega, by go_num, hide ?_, Below.grown (bel_alloc hbw2 _) hg3 (by have := hbw2.size; simp; omega) (fun k hk => by cases hk; exact Nat.le_refl _)⟩, by simp [intOf]; omega⟩
        rw [unhide HS, ← step_gone (p := ⟨ky, st, en, no, kd, n, su, le, mo⟩) hk]
        exact hO3.more (by omega)
      · have hk' : (kd == 3) = false := by simp [hk]
        cases pc
        · have HOb := (unhide HO2).bel (bel_one wq (.cells #[.int .i64 ky, .int .i64 st, .int .i64 en] 50))
          obtain ⟨w2, hst, hO3, hg3⟩ := HOb.store (by unfold maxLen; omega) (ky, st, en) hpo (.agg #[.int .i64 n, .int .i64 su, .int .i64 le, .int .i64 mo])
          have HO3 := hide hO3
          have HG3 := hide hg3
          clear hO3 hg3 HOb HO2
          go_wp2
          refine ⟨⟨i + 1, by omega, by go_num, hide ?_, Below.grown (bel_alloc hbw2 _) (unhide HG3) (by have := hbw2.size; simp; omega) (fun k hk => by cases hk; exact Nat.le_refl _)⟩, by simp [intOf]; omega⟩
          rw [unhide HS, ← step_set (p := ⟨ky, st, en, no, kd, n, su, le, mo⟩) hk]
          exact unhide HO3
        · obtain ⟨xa, xb, xc, xd, hx⟩ : ∃ xa xb xc xd, (mapF true (ps.take i) (ky, st, en)).getD ag0 = (xa, xb, xc, xd) := ⟨_, _, _, _, rfl⟩
          obtain ⟨ya, yb, yc, yd, hy9⟩ : ∃ ya yb yc yd, bothF (xa, xb, xc, xd) n su le mo = (ya, yb, yc, yd) := ⟨_, _, _, _, rfl⟩
          have HB : Hid (bothF ((mapF true (ps.take i) (plP ⟨ky, st, en, no, kd, n, su, le, mo⟩)).getD ag0) n su le mo = (ya, yb, yc, yd)) := hide (by rw [← hy9, ← hx]; rfl)
          have HOb := (unhide HO2).bel (bel_drew (bel_one wq (.cells #[.int .i64 ky, .int .i64 st, .int .i64 en] 50)))
          have hlk := HOb.look (zeroAg _) (ky, st, en) hpo
          dsimp only at hlk
          rw [val_get hx] at hlk
          have HOh := hide HOb
          have Hy := hide hy9
          clear hx hy9 HOb HO2
          go_wp2_with fail
          go_region_with (go_at_call 11; refine (implboth_at _ Hy).mono ?_; rintro e' wb ⟨rfl, hbb⟩; obtain ⟨b0, b1, b2⟩ := bcell hbb; obtain ⟨w2, hst, hO3, hg3⟩ := ((unhide HOh).bel hbb).store (by unfold maxLen; omega) (ky, st, en) hpo (.agg #[.int .i64 ya, .int .i64 yb, .int .i64 yc, .int .i64 yd]); have HO3 := hide hO3; have HG3 := hide hg3; have hzb := hbb.size; clear hO3 hg3)
          all_goals
            go_wp2
            refine ⟨⟨i + 1, by omega, by go_num, hide ?_, Below.grown (bel_trans (bel_drew (bel_alloc hbw2 _)) hbb) (unhide HG3) (by have := hbw2.size; simp at hzb; omega) (fun k hk => by cases hk; exact Nat.le_refl _)⟩, by simp [intOf]; omega⟩
            rw [unhide HS, ← step_both (p := ⟨ky, st, en, no, kd, n, su, le, mo⟩) hk (unhide HB)]
            exact unhide HO3
    · obtain rfl : len = i := by omega
      have HOf : Hid (OwnsV wr w.heap.size len (fun q => (mapF pc ps q).map agV)) := hide (by have h9 := unhide HO; rw [List.take_of_length_le (by omega)] at h9; exact h9)
      clear HO
      go_wp2_with fail
      refine (rowsof_any w.heap.size len (mapF pc ps) _ (by omega) (unhide HOf)).mono ?_
      rintro e' w2 ⟨v', ys, rfl, hI, hyl, hOT, hb2⟩
      rw [rows_eq hI hok] at hOT
      go_wp2
      go_ret
      exact ⟨_, rfl, World.ownsRow.mono hOT hbw.size, bel_trans hbw hb2⟩
end Go.Proofs.Ytblmhpngaccllaa
