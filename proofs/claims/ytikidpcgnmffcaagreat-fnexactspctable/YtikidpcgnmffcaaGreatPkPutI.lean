/- Laid together: what the claim needs of the texts that were built one by one. -/
import Derived.Test.YtikidpcgnmffcaaGreatPkInsG
import Derived.Test.YtikidpcgnmffcaaGreatPkTabOutI
import Derived.Test.YtikidpcgnmffcaaGreatPkBase
namespace Go.Proofs.YtikidpcgnmffcaaGreat
open Go.ChangeShapes Go.WideShapes Go.ChangeAt Go.RowKit
set_option linter.unusedVariables false

theorem new_at (w : World) (o : Obj) : (w.alloc o).heap[w.heap.size]? = some o := by
  show (w.heap.push _)[w.heap.size]? = _
  simp

theorem insR_some {r : TbR} {zs : List TbR} {k : Nat} (h : zs.findIdx? (aheadR r) = some k) : k < zs.length ∧ insR r zs = zs.take k ++ r :: zs.drop k := by
  induction zs generalizing k with
  | nil => simp at h
  | cons x xs ih =>
    rw [List.findIdx?_cons] at h
    cases ha : aheadR r x
    · simp [ha] at h
      obtain ⟨k', h', rfl⟩ := h
      obtain ⟨h1, h2⟩ := ih h'
      refine ⟨by simp; omega, ?_⟩
      simp [insR, ha, h2]
    · simp [ha] at h
      subst h
      simp [insR, ha]

theorem insR_none {r : TbR} {zs : List TbR} (h : zs.findIdx? (aheadR r) = none) : insR r zs = zs ++ [r] := by
  induction zs with
  | nil => rfl
  | cons x xs ih =>
    rw [List.findIdx?_cons] at h
    cases ha : aheadR r x
    · simp [ha] at h
      simp [insR, ha]
      exact ih (by rw [List.findIdx?_eq_none_iff]; simpa using h)
    · simp [ha] at h

theorem ins_any (r : TbR) (ys : List TbR) (i : Nat) (a : Option Addr) (cap B vb : Nat) (w : World) (hO : OwnTb w B (.slice a ys.length cap) ys) (hi : i ≤ ys.length) (hl : ys.length ≤ 1048576) (hB : B ≤ w.heap.size) (hvb : w.heap[vb]? = some (.cells #[.int .i64 r.ky, .int .i64 r.st, .int .i64 r.en, .int .i64 r.n, .int .i64 r.su, .int .i64 r.le, .int .i64 r.mo] 53 (0, 0))) (hne : ∀ q, (Value.slice a ys.length cap).ownBlock = some q → vb ≠ q) : Calls Tryz.prog 61 #[.slice a ys.length cap, .int .i64 i, .slice (some ⟨vb, 0, none⟩) 1 1] w fun e w' => ∃ v', e = .returned v' ∧ OwnTb w' B v' (ys.take i ++ r :: ys.drop i) ∧ Below B w w' := by
  have hvw : vb < w.heap.size := by rcases Array.getElem?_eq_some_iff.1 hvb with ⟨h, _⟩; exact h
  have hv : ∀ j u, r.cells[j]? = some u → w.cell? ((⟨vb, 0, none⟩ : Addr).add j) = some u := fun j u hj => by
    rw [Addr.add_lit, Nat.zero_add, Joins.cell_of_block hvb]
    exact (List.getElem?_toArray ..).trans hj
  by_cases hin : i = ys.length
  · subst hin
    rw [List.take_length, List.drop_length]
    have hnc : ys.length ≤ cap := by
      obtain ⟨_, ⟨e, h0⟩ | ⟨g, c, cur, e, _, _, h1, _⟩⟩ := hO
      · omega
      · injection e with _ _ e3
        omega
    exact ins_end r ys a cap B vb w hO hnc hl hB hv
  · obtain ⟨_, ⟨e, h0⟩ | ⟨g, c, cur, e, hBg, hblk, hnc, hcm, hsz, htk⟩⟩ := hO
    · omega
    · injection e with e1 _ e3
      subst e1 e3
      by_cases hr : ys.length + 1 ≤ cap
      · exact ins_room r ys i g cap B vb cur w (by omega) hr hcm hblk hsz htk hBg hl (hne g rfl) (by simp [World.shape?, hvb]) (by simp [World.frozen?, hvb]) (by simp [World.frozen?, hvb]) hv
      · exact ins_grow r ys i g cap B vb cur w (by omega) hnc (by omega) hblk htk hsz hB hl hvw hv

set_option maxRecDepth 20000 in
set_option maxHeartbeats 1000000 in
theorem implput_any (r : TbR) (a : Option Addr) (len cap : Nat) (xs : List TbR) (w : World) (h : TbRs w a len xs) (hl : len ≤ 1048576) : Calls Tryz.prog 47 #[.slice a len cap, .agg #[.int .i64 r.ky, .int .i64 r.st, .int .i64 r.en, .int .i64 r.n, .int .i64 r.su, .int .i64 r.le, .int .i64 r.mo]] w fun e w' => ∃ v, e = .returned v ∧ OwnTb w' w.heap.size v (insR r (kpTb r.ky r.st r.en xs)) ∧ Below w.heap.size w w' := by
  have hkl := Nat.le_trans (kpTb_le r.ky r.st r.en xs) (Nat.le_of_eq h.1)
  go_enter Tryz.func47, Tryz.ntmps47
  go_wp2_with fail
  refine (implTabOut_any a len cap xs r.ky r.st r.en _ (h.below (bel_one _ _)) (by omega)).mono ?_
  rintro e' wa ⟨va, rfl, hOa, hba⟩
  generalize hZ : kpTb r.ky r.st r.en xs = zs at hkl hOa
  have HZ := hide hZ
  clear hZ
  have hbA : Below w.heap.size w wa := bel_trans (bel_one _ _) hba
  have hOa' : OwnTb wa (w.heap.size + 1) va zs := by simpa using hOa
  obtain ⟨al, capl, rfl, HL0, _, gel⟩ := holdTb hOa' (by omega)
  have hb1 : Below (w.heap.size + 1) (w.alloc (.cells #[.int .i64 r.ky, .int .i64 r.st, .int .i64 r.en, .int .i64 r.n, .int .i64 r.su, .int .i64 r.le, .int .i64 r.mo] 53)) wa := by simpa using hba
  have hsa : w.heap.size + 1 ≤ wa.heap.size := by have := hb1.size; simpa using this
  have C0 : wa.cell? ⟨w.heap.size, 0, none⟩ = some (.int .i64 r.ky) := (hb1.cell (p := ⟨w.heap.size, 0, none⟩) (by simp)).trans (by simp [go_sem])
  have C1 : wa.cell? ⟨w.heap.size, 1, none⟩ = some (.int .i64 r.st) := (hb1.cell (p := ⟨w.heap.size, 1, none⟩) (by simp)).trans (by simp [go_sem])
  have C2 : wa.cell? ⟨w.heap.size, 2, none⟩ = some (.int .i64 r.en) := (hb1.cell (p := ⟨w.heap.size, 2, none⟩) (by simp)).trans (by simp [go_sem])
  have C3 : wa.cell? ⟨w.heap.size, 3, none⟩ = some (.int .i64 r.n) := (hb1.cell (p := ⟨w.heap.size, 3, none⟩) (by simp)).trans (by simp [go_sem])
  have C4 : wa.cell? ⟨w.heap.size, 4, none⟩ = some (.int .i64 r.su) := (hb1.cell (p := ⟨w.heap.size, 4, none⟩) (by simp)).trans (by simp [go_sem])
  have C5 : wa.cell? ⟨w.heap.size, 5, none⟩ = some (.int .i64 r.le) := (hb1.cell (p := ⟨w.heap.size, 5, none⟩) (by simp)).trans (by simp [go_sem])
  have C6 : wa.cell? ⟨w.heap.size, 6, none⟩ = some (.int .i64 r.mo) := (hb1.cell (p := ⟨w.heap.size, 6, none⟩) (by simp)).trans (by simp [go_sem])
  go_wp2_with fail
  refine (idx_any r al zs.length capl zs _ HL0 (by omega)).mono ?_
  rintro e wx ⟨rfl, hbx⟩
  have hbx1 : Below (w.heap.size + 1) (w.alloc (.cells #[.int .i64 r.ky, .int .i64 r.st, .int .i64 r.en, .int .i64 r.n, .int .i64 r.su, .int .i64 r.le, .int .i64 r.mo] 53)) wx := hb1.trans (hbx.mono hsa)
  have hsx : w.heap.size + 1 ≤ wx.heap.size := Nat.le_trans hsa hbx.size
  have D0 : wx.cell? ⟨w.heap.size, 0, none⟩ = some (.int .i64 r.ky) := (hbx1.cell (p := ⟨w.heap.size, 0, none⟩) (by simp)).trans (by simp [go_sem])
  have D1 : wx.cell? ⟨w.heap.size, 1, none⟩ = some (.int .i64 r.st) := (hbx1.cell (p := ⟨w.heap.size, 1, none⟩) (by simp)).trans (by simp [go_sem])
  have D2 : wx.cell? ⟨w.heap.size, 2, none⟩ = some (.int .i64 r.en) := (hbx1.cell (p := ⟨w.heap.size, 2, none⟩) (by simp)).trans (by simp [go_sem])
  have D3 : wx.cell? ⟨w.heap.size, 3, none⟩ = some (.int .i64 r.n) := (hbx1.cell (p := ⟨w.heap.size, 3, none⟩) (by simp)).trans (by simp [go_sem])
  have D4 : wx.cell? ⟨w.heap.size, 4, none⟩ = some (.int .i64 r.su) := (hbx1.cell (p := ⟨w.heap.size, 4, none⟩) (by simp)).trans (by simp [go_sem])
  have D5 : wx.cell? ⟨w.heap.size, 5, none⟩ = some (.int .i64 r.le) := (hbx1.cell (p := ⟨w.heap.size, 5, none⟩) (by simp)).trans (by simp [go_sem])
  have D6 : wx.cell? ⟨w.heap.size, 6, none⟩ = some (.int .i64 r.mo) := (hbx1.cell (p := ⟨w.heap.size, 6, none⟩) (by simp)).trans (by simp [go_sem])
  have HO := hide (ownBel hOa' hbx)
  have hneb : ∀ q, (Value.slice al zs.length capl).ownBlock = some q → wx.heap.size ≠ q := fun q hq => by have := own_lt (unhide HO) q hq; omega
  clear C0 C1 C2 C3 C4 C5 C6 hOa hOa' HL0 gel hba
  cases hf : zs.findIdx? (aheadR r) with
  | none =>
    have hx : idxR r zs = -1 := by unfold idxR; rw [hf]
    have HI := hide (insR_none hf)
    rw [hx]
    clear hf hx
    go_wp2_with fail
    refine (ins_any r zs zs.length al capl (w.heap.size + 1) wx.heap.size _ (World.ownsRow.alloc (unhide HO) _) (by omega) (by omega) (by simp; omega) (new_at wx _) hneb).mono ?_
    rintro e wv ⟨vv, rfl, hOv, hbv⟩
    go_wp2
    go_ret
    refine ⟨_, rfl, ?_, bel_trans (bel_one _ _) (show Below _ (w.alloc (.cells #[.int .i64 r.ky, .int .i64 r.st, .int .i64 r.en, .int .i64 r.n, .int .i64 r.su, .int .i64 r.le, .int .i64 r.mo] 53)) wv from by have h9 := (hbx1.alloc hsx _).trans hbv; simpa using h9)⟩
    rw [unhide HZ, unhide HI]
    have e1 : zs.take zs.length ++ r :: zs.drop zs.length = zs ++ [r] := by rw [List.take_length, List.drop_length]
    rw [← e1]
    exact World.ownsRow.mono hOv (by omega)
  | some k =>
    have hx : idxR r zs = (k : Int) := by unfold idxR; rw [hf]
    have hks := (insR_some hf).1
    have HI := hide (insR_some hf).2
    have hk0 : ¬ ((k : Int) < 0) := by omega
    rw [hx]
    clear hf hx
    go_wp2_with fail
    refine (ins_any r zs k al capl (w.heap.size + 1) wx.heap.size _ (World.ownsRow.alloc (unhide HO) _) (by omega) (by omega) (by simp; omega) (new_at wx _) hneb).mono ?_
    rintro e wv ⟨vv, rfl, hOv, hbv⟩
    go_wp2
    go_ret
    refine ⟨_, rfl, ?_, bel_trans (bel_one _ _) (show Below _ (w.alloc (.cells #[.int .i64 r.ky, .int .i64 r.st, .int .i64 r.en, .int .i64 r.n, .int .i64 r.su, .int .i64 r.le, .int .i64 r.mo] 53)) wv from by have h9 := (hbx1.alloc hsx _).trans hbv; simpa using h9)⟩
    rw [unhide HZ, unhide HI]
    exact World.ownsRow.mono hOv (by omega)
end Go.Proofs.YtikidpcgnmffcaaGreat
