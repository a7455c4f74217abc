/- Laid together: what the claim needs of the texts that were built one by one. -/
import Derived.Test.YtblmhpngaccllaaPkPutS
import Derived.Test.YtblmhpngaccllaaPkTabFnd
import Derived.Test.YtblmhpngaccllaaPkTabOutS
import Derived.Test.YtblmhpngaccllaaPkBase
import Derived.Test.YtblmhpngaccllaaPkRwPan
namespace Go.Proofs.Ytblmhpngaccllaa
open Go.ChangeShapes Go.WideShapes Go.ChangeAt Go.RowKit
set_option linter.unusedVariables false

/-- What is known of a window, if a row was found. -/
def aggF : Option TbR → Int × Int × Int × Int
  | some x => (x.n, x.su, x.le, x.mo)
  | none => (0, 0, 0, 0)

/-- What is known of both. -/
def bothF (f : Int × Int × Int × Int) (n s l m : Int) : Int × Int × Int × Int := (bo f.1 n f.1 n (wrap64 (f.1 + n)), bo f.1 n f.2.1 s (wrap64 (f.2.1 + s)), bo f.1 n f.2.2.1 l (loI f.2.2.1 l), bo f.1 n f.2.2.2 m (hiI f.2.2.2 m))

def tabAgg (pc : Bool) (rows : List TbR) (p : PnR) : Int × Int × Int × Int := if pc then bothF (aggF (findT p.ky p.st p.en rows)) p.n p.su p.le p.mo else (p.n, p.su, p.le, p.mo)

def tabRow (p : PnR) (g : Int × Int × Int × Int) : TbR := ⟨p.ky, p.st, p.en, g.1, g.2.1, g.2.2.1, g.2.2.2⟩

def tabStep (pc : Bool) (rows : List TbR) (p : PnR) : List TbR := if p.kd = 3 then kpTb p.ky p.st p.en rows else insR (tabRow p (tabAgg pc rows p)) (kpTb p.ky p.st p.en rows)

def tabOfL (pc : Bool) (ps : List PnR) : List TbR := ps.foldl (tabStep pc) []

theorem tabOfL_snoc {pc : Bool} {ps : List PnR} {k : Nat} {p : PnR} (h : ps[k]? = some p) : tabOfL pc (ps.take (k + 1)) = tabStep pc (tabOfL pc (ps.take k)) p := by
  unfold tabOfL
  rw [List.take_add_one, h, List.foldl_append]
  rfl

theorem tabStep_len (pc : Bool) (rows : List TbR) (p : PnR) : (tabStep pc rows p).length ≤ rows.length + 1 := by
  unfold tabStep
  split
  · exact Nat.le_trans (kpTb_le _ _ _ _) (Nat.le_succ _)
  · rw [insR_len]; exact Nat.succ_le_succ (kpTb_le _ _ _ _)

theorem tabOfL_len (pc : Bool) (ps : List PnR) : (tabOfL pc ps).length ≤ ps.length := by
  have : ∀ (l : List PnR) (rows : List TbR), (l.foldl (tabStep pc) rows).length ≤ rows.length + l.length := by
    intro l
    induction l with
    | nil => intro rows; simp
    | cons p l ih =>
      intro rows
      have h1 := ih (tabStep pc rows p)
      have h2 := tabStep_len pc rows p
      simp only [List.foldl_cons, List.length_cons]
      omega
  simpa [tabOfL] using this ps []

theorem tabOfL_le (pc : Bool) (ps : List PnR) (k : Nat) : (tabOfL pc (ps.take k)).length ≤ ps.length := Nat.le_trans (tabOfL_len pc _) (by rw [List.length_take]; omega)

theorem foundV_is (o : Option TbR) {n s l m : Int} (h : aggF o = (n, s, l, m)) : ∃ b, foundV o = .tuple #[.agg #[.int .i64 n, .int .i64 s, .int .i64 l, .int .i64 m], .bool b] := by
  cases o with
  | none => cases h; exact ⟨false, rfl⟩
  | some x => cases h; exact ⟨true, rfl⟩

theorem specfind_at (a : Option Addr) (len cap : Nat) (xs : List TbR) (ky st en : Int) (w : World) {n s l m : Int} {b : Bool} (h : TbRs w a len xs) (hV : Hid (foundV (findT ky st en xs) = .tuple #[.agg #[.int .i64 n, .int .i64 s, .int .i64 l, .int .i64 m], .bool b])) : Calls Try.prog 19 #[.slice a len cap, .int .i64 ky, .agg #[.int .i64 st, .int .i64 en]] w fun e w' => e = .returned (.tuple #[.agg #[.int .i64 n, .int .i64 s, .int .i64 l, .int .i64 m], .bool b]) ∧ Below w.heap.size w w' := by
  rw [← unhide hV]; exact specfind_any a len cap xs ky st en w h

theorem specboth_at {n s l m n' s' l' m' x y u v : Int} (w : World) (h : Hid (bothF (n, s, l, m) n' s' l' m' = (x, y, u, v))) : Calls Try.prog 20 #[.agg #[.int .i64 n, .int .i64 s, .int .i64 l, .int .i64 m], .agg #[.int .i64 n', .int .i64 s', .int .i64 l', .int .i64 m']] w fun e w' => e = .returned (.agg #[.int .i64 x, .int .i64 y, .int .i64 u, .int .i64 v]) ∧ Below w.heap.size w w' := by
  have h9 := unhide h
  simp only [bothF, Prod.mk.injEq] at h9
  obtain ⟨rfl, rfl, rfl, rfl⟩ := h9
  exact specboth_any n s l m n' s' l' m' w

set_option linter.unusedSimpArgs false in
set_option maxRecDepth 20000 in
set_option maxHeartbeats 4000000 in
theorem spectabof_any (pc : Bool) (a : Option Addr) (len cap : Nat) (ps : List PnR) (w : World) (h : PnRs w a len ps) (hl : len ≤ 1048576) : Calls Try.prog 7 #[.slice a len cap, .bool pc] w fun e w' => ∃ v, e = .returned v ∧ OwnTb w' w.heap.size v (tabOfL pc ps) ∧ Below w.heap.size w w' := by
  have hxl := h.1
  go_enter Try.func7, Try.ntmps7
  go_wp2
  go_loopw [5, 6] (fun v iv wr => ∃ k : Nat, k ≤ len ∧ iv = .int .i64 k ∧ OwnTb wr w.heap.size v (tabOfL pc (ps.take k)) ∧ Below w.heap.size w wr) (fun _ iv _ => len - (intOf iv).toNat)
  case atStart => exact ⟨0, Nat.zero_le _, rfl, World.ownsRow_lit (base := w.heap.size) (size := 7) w #[] 0 (Nat.le_refl _) (by decide) (by simp), bel_one _ _⟩
  case round =>
    obtain ⟨k, hk, rfl, hO, hbw⟩ := hrel
    have zr := hbw.size
    have hpl := tabOfL_le pc ps k
    by_cases hlt : (k : Int) < (len : Int)
    · obtain ⟨p, hp⟩ : ∃ p, ps[k]? = some p := ⟨_, List.getElem?_eq_getElem (by omega)⟩
      have hnx := tabOfL_snoc (pc := pc) hp
      obtain ⟨_, _, h3⟩ := h
      obtain ⟨g, o, rfl, hat⟩ := h3.resolve_left (by omega)
      have hg : g < w.heap.size := hat.lt (by omega)
      obtain ⟨c0, c1, c2, c3, c4, c5, c6, c7, c8⟩ := (hat k p hp).below hbw hg
      clear h3 hat hp
      obtain ⟨L, hL⟩ : ∃ L, tabOfL pc (ps.take k) = L := ⟨_, rfl⟩
      rw [hL] at hO hnx hpl
      clear hL
      obtain ⟨al, cl, rfl, HT, _, _⟩ := holdTb hO (by omega)
      have HTh := hide HT
      clear hO HT
      obtain ⟨ky, st, en, no, kd, n, su, le, mo⟩ := p
      (try dsimp only at c0 c1 c2 c3 c4 c5 c6 c7 c8)
      have hbP : Below wr.heap.size wr (wr.alloc (.cells #[.int .i64 ky, .int .i64 st, .int .i64 en, .int .i64 no, .int .i64 kd, .int .i64 n, .int .i64 su, .int .i64 le, .int .i64 mo] 35)) := bel_one _ _
      by_cases hkd : kd = 3
      · subst hkd
        have hs : tabOfL pc (ps.take (k + 1)) = kpTb ky st en L := by rw [hnx]; simp [tabStep]
        have Hs := hide hs
        clear hs hnx
        go_wp2_with fail
        refine (specTabOut_any al L.length cl L ky st en _ ((unhide HTh).below hbP) (by omega)).mono ?_
        rintro e' w2 ⟨v2, rfl, hO2, hb2⟩
        have hO2' : OwnTb w2 w.heap.size v2 (tabOfL pc (ps.take (k + 1))) := by rw [unhide Hs]; exact World.ownsRow.mono hO2 (by simp; omega)
        clear hO2 c0 c1 c2 c3 c4 c5 c6 c7 c8
        go_wp2
        go_roundw
        case rel => exact ⟨k + 1, by omega, by go_num, hO2', hbw.trans ((bel_trans hbP hb2).mono zr)⟩
        case measure => simp [intOf]; omega
      · have hkd' : (kd == 3) = false := by simp [hkd]
        cases pc with
        | false =>
          have hs : tabOfL false (ps.take (k + 1)) = insR ⟨ky, st, en, n, su, le, mo⟩ (kpTb ky st en L) := by rw [hnx]; simp [tabStep, hkd, tabAgg, tabRow]
          have Hs := hide hs
          clear hs hnx hkd
          have hbQ : Below wr.heap.size wr ((wr.alloc (.cells #[.int .i64 ky, .int .i64 st, .int .i64 en, .int .i64 no, .int .i64 kd, .int .i64 n, .int .i64 su, .int .i64 le, .int .i64 mo] 35)).alloc (.cells #[.int .i64 n, .int .i64 su, .int .i64 le, .int .i64 mo] 33)) := bel_alloc hbP _
          go_wp2_with fail
          refine (specput_any ⟨ky, st, en, n, su, le, mo⟩ al L.length cl L _ ((unhide HTh).below hbQ) (by omega)).mono ?_
          rintro e' w2 ⟨v2, rfl, hO2, hb2⟩
          have hO2' : OwnTb w2 w.heap.size v2 (tabOfL false (ps.take (k + 1))) := by rw [unhide Hs]; exact World.ownsRow.mono hO2 (by simp; omega)
          clear hO2 c0 c1 c2 c3 c4 c5 c6 c7 c8
          go_wp2
          go_roundw
          case rel => exact ⟨k + 1, by omega, by go_num, hO2', hbw.trans ((bel_trans hbQ hb2).mono zr)⟩
          case measure => simp [intOf]; omega
        | true =>
          obtain ⟨fn, fs, fl, fm, hf⟩ : ∃ fn fs fl fm, aggF (findT ky st en L) = (fn, fs, fl, fm) := ⟨_, _, _, _, rfl⟩
          obtain ⟨fb, hV⟩ := foundV_is _ hf
          obtain ⟨bn, bs, bl, bm, hB⟩ : ∃ bn bs bl bm, bothF (fn, fs, fl, fm) n su le mo = (bn, bs, bl, bm) := ⟨_, _, _, _, rfl⟩
          have hs : tabOfL true (ps.take (k + 1)) = insR ⟨ky, st, en, bn, bs, bl, bm⟩ (kpTb ky st en L) := by rw [hnx]; simp [tabStep, hkd, tabAgg, tabRow, hf, hB]
          have Hs := hide hs
          have HV := hide hV
          have HB := hide hB
          clear hs hnx hkd hf hV hB
          have hbQ : Below wr.heap.size wr ((wr.alloc (.cells #[.int .i64 ky, .int .i64 st, .int .i64 en, .int .i64 no, .int .i64 kd, .int .i64 n, .int .i64 su, .int .i64 le, .int .i64 mo] 35)).alloc (.cells #[.int .i64 n, .int .i64 su, .int .i64 le, .int .i64 mo] 33)) := bel_alloc hbP _
          go_wp2_with fail
          refine (specfind_at al L.length cl L ky st en _ ((unhide HTh).below hbQ) HV).mono ?_
          rintro e' w2 ⟨rfl, hb2⟩
          have z2 : wr.heap.size + 1 < w2.heap.size := by have h9 := hb2.size; simp at h9; omega
          have p0 : w2.cell? ⟨wr.heap.size, 0, none⟩ = some (.int .i64 ky) := (hb2.cell (p := ⟨wr.heap.size, 0, none⟩) (by simp; omega)).trans (by simp [go_sem])
          have p1 : w2.cell? ⟨wr.heap.size, 1, none⟩ = some (.int .i64 st) := (hb2.cell (p := ⟨wr.heap.size, 1, none⟩) (by simp; omega)).trans (by simp [go_sem])
          have p2 : w2.cell? ⟨wr.heap.size, 2, none⟩ = some (.int .i64 en) := (hb2.cell (p := ⟨wr.heap.size, 2, none⟩) (by simp; omega)).trans (by simp [go_sem])
          have q0 : w2.cell? ⟨wr.heap.size + 1, 0, none⟩ = some (.int .i64 n) := (hb2.cell (p := ⟨wr.heap.size + 1, 0, none⟩) (by simp)).trans (by simp [go_sem])
          have q1 : w2.cell? ⟨wr.heap.size + 1, 1, none⟩ = some (.int .i64 su) := (hb2.cell (p := ⟨wr.heap.size + 1, 1, none⟩) (by simp)).trans (by simp [go_sem])
          have q2 : w2.cell? ⟨wr.heap.size + 1, 2, none⟩ = some (.int .i64 le) := (hb2.cell (p := ⟨wr.heap.size + 1, 2, none⟩) (by simp)).trans (by simp [go_sem])
          have q3 : w2.cell? ⟨wr.heap.size + 1, 3, none⟩ = some (.int .i64 mo) := (hb2.cell (p := ⟨wr.heap.size + 1, 3, none⟩) (by simp)).trans (by simp [go_sem])
          have hf0 : ∀ i, w2.frozen? ⟨wr.heap.size + 1, i, none⟩ = false := fun i => (hb2.frozen (p := ⟨wr.heap.size + 1, i, none⟩) (by simp)).trans (by simp [go_sem])
          have hbR : Below w2.heap.size w2 (w2.alloc (.cells #[.int .i64 fn, .int .i64 fs, .int .i64 fl, .int .i64 fm] 33)) := bel_one _ _
          go_wp2_with fail
          refine (specboth_at _ HB).mono ?_
          rintro e' w3 ⟨rfl, hb3⟩
          have hb23 : Below w2.heap.size w2 w3 := bel_trans hbR hb3
          have z3 : wr.heap.size + 1 < w3.heap.size := Nat.lt_of_lt_of_le z2 hb23.size
          replace p0 := (hb23.cell (p := ⟨wr.heap.size, 0, none⟩) (show wr.heap.size < w2.heap.size by omega)).trans p0
          replace p1 := (hb23.cell (p := ⟨wr.heap.size, 1, none⟩) (show wr.heap.size < w2.heap.size by omega)).trans p1
          replace p2 := (hb23.cell (p := ⟨wr.heap.size, 2, none⟩) (show wr.heap.size < w2.heap.size by omega)).trans p2
          replace q0 := (hb23.cell (p := ⟨wr.heap.size + 1, 0, none⟩) z2).trans q0
          replace q1 := (hb23.cell (p := ⟨wr.heap.size + 1, 1, none⟩) z2).trans q1
          replace q2 := (hb23.cell (p := ⟨wr.heap.size + 1, 2, none⟩) z2).trans q2
          replace q3 := (hb23.cell (p := ⟨wr.heap.size + 1, 3, none⟩) z2).trans q3
          have f0 : w3.frozen? ⟨wr.heap.size + 1, 0, none⟩ = false := (hb23.frozen (p := ⟨wr.heap.size + 1, 0, none⟩) z2).trans (hf0 0)
          have f1 : w3.frozen? ⟨wr.heap.size + 1, 1, none⟩ = false := (hb23.frozen (p := ⟨wr.heap.size + 1, 1, none⟩) z2).trans (hf0 1)
          have f2 : w3.frozen? ⟨wr.heap.size + 1, 2, none⟩ = false := (hb23.frozen (p := ⟨wr.heap.size + 1, 2, none⟩) z2).trans (hf0 2)
          have f3 : w3.frozen? ⟨wr.heap.size + 1, 3, none⟩ = false := (hb23.frozen (p := ⟨wr.heap.size + 1, 3, none⟩) z2).trans (hf0 3)
          clear hf0 c0 c1 c2 c3 c4 c5 c6 c7 c8
          have hb03 : Below wr.heap.size wr w3 := bel_trans hbQ (bel_trans hb2 hb23)
          have hb04 : Below wr.heap.size wr ((((w3.setCell ⟨wr.heap.size + 1, 0, none⟩ (.int .i64 bn)).setCell ⟨wr.heap.size + 1, 1, none⟩ (.int .i64 bs)).setCell ⟨wr.heap.size + 1, 2, none⟩ (.int .i64 bl)).setCell ⟨wr.heap.size + 1, 3, none⟩ (.int .i64 bm)) := bel_set (bel_set (bel_set (bel_set hb03 (by simp) _) (by simp) _) (by simp) _) (by simp) _
          go_wp2_with fail
          refine (specput_any ⟨ky, st, en, bn, bs, bl, bm⟩ al L.length cl L _ ((unhide HTh).below hb04) (by omega)).mono ?_
          rintro e' w4 ⟨v4, rfl, hO4, hb4⟩
          have hO4' : OwnTb w4 w.heap.size v4 (tabOfL true (ps.take (k + 1))) := by rw [unhide Hs]; exact World.ownsRow.mono hO4 (by simp; omega)
          clear hO4
          go_wp2
          go_roundw
          case rel => exact ⟨k + 1, by omega, by go_num, hO4', hbw.trans ((bel_trans hb04 hb4).mono zr)⟩
          case measure => simp [intOf]; omega
    · have hin : k = len := by omega
      rw [hin, ← hxl, List.take_length] at hO
      clear hin
      go_wp2
      go_ret
      exact ⟨_, rfl, hO, hbw⟩
end Go.Proofs.Ytblmhpngaccllaa
