/- Laid together: what the claim needs of the texts that were built one by one. -/
import Derived.Test.YtbjhpiannjepkaaGreatPsCkpF
import Derived.Test.YtbjhpiannjepkaaGreatPsCkpJ
import Derived.Test.YtbjhpiannjepkaaGreatPsBase
namespace Go.Proofs.YtbjhpiannjepkaaGreat
open Go.ChangeShapes Go.WideShapes Go.ChangeAt Go.RowKit Go.Deep
set_option linter.unusedVariables false

theorem CkM.is {W : World} {B : Nat} {a2 a3 a4 a6 a7 : Option Addr} {D : CkD} (h : CkM W B a2 a3 a4 a6 a7 D) : CkIs W B a2 D.src.length a3 D.tsk.length a4 D.sn.length a6 D.at_.length a7 D.ssn.length D := ⟨h.1, h.2.1, h.2.2.1, h.2.2.2.1, h.2.2.2.2⟩

theorem toCkA_any (x : CkD) (a2 : Option Addr) (l2 c2 : Nat) (a3 : Option Addr) (l3 c3 : Nat) (a4 : Option Addr) (l4 c4 : Nat) (a6 : Option Addr) (l6 c6 : Nat) (a7 : Option Addr) (l7 c7 : Nat) (w : World) (h : CkIs w 0 a2 l2 a3 l3 a4 l4 a6 l6 a7 l7 x) (hL : CkLim x) : Calls Tryz.prog 8 #[.agg #[.int .i64 x.n, .bool x.op, .slice a2 l2 c2, .slice a3 l3 c3, .slice a4 l4 c4, .int .i64 x.sfn, .slice a6 l6 c6, .slice a7 l7 c7]] w fun e w' => NewK w x e w' := by
  have q2 := h.src.1.1
  have q3 := h.tsk.1.1
  have q4 := h.sn.1
  have q6 := h.at_.1.1
  have q7 := h.ssn.1
  have hL' := hL
  obtain ⟨r2, r3, ⟨r4, m4⟩, r6, ⟨r7, m7⟩⟩ := hL'
  refine (toCkO_one x a2 l2 c2 a3 l3 c3 a4 l4 c4 a6 l6 c6 a7 l7 c7 w h.src h.tsk h.sn h.at_ h.ssn (by omega) (by omega) ⟨by omega, m4⟩ (by omega) ⟨by omega, m7⟩).mono ?_
  rintro e w' ⟨v2, v3, v4, v6, v7, l4', l7', rfl, hD, hb⟩
  exact hD.newk hL hb

def NewT (w : World) (D : CkD) (c : Bool) (e : Ending) (w' : World) : Prop := ∃ (a2 : Option Addr) (c2 : Nat) (a3 : Option Addr) (c3 : Nat) (a4 : Option Addr) (c4 : Nat) (a6 : Option Addr) (c6 : Nat) (a7 : Option Addr) (c7 : Nat) (v4 v7 : List SnV), e = .returned (.tuple #[.agg #[.int .i64 D.n, .bool D.op, .slice a2 D.src.length c2, .slice a3 D.tsk.length c3, .slice a4 D.sn.length c4, .int .i64 D.sfn, .slice a6 D.at_.length c6, .slice a7 D.ssn.length c7], .bool c]) ∧ CkM w' w.heap.size a2 a3 a4 a6 a7 D ∧ WrCk w' a2 D.src.length c2 a3 D.tsk.length c3 a4 D.sn.length c4 a6 D.at_.length c6 a7 D.ssn.length c7 v4 v7 ∧ (∀ b, CkS a2 D.src.length a3 D.tsk.length a4 D.sn.length a6 D.at_.length a7 D.ssn.length v4 v7 b → w.heap.size ≤ b) ∧ Below w.heap.size w w'

theorem newT_of {w : World} {D : CkD} {c : Bool} {e : Ending} {w' : World} (h : NewKB w (D, c) e w') : NewT w D c e w' := by
  obtain ⟨ev, rfl, a2, c2, a3, c3, a4, c4, a6, c6, a7, c7, v4, v7, he, h1, h2, h3, h4⟩ := h
  injection he with he
  subst he
  exact ⟨a2, c2, a3, c3, a4, c4, a6, c6, a7, c7, v4, v7, rfl, h1, h2, h3, h4⟩

theorem spec_eq (s t k z p l e : Int) (b : Bool) (v r : Int) (x : CkD) (a2 : Option Addr) (l2 c2 : Nat) (a3 : Option Addr) (l3 c3 : Nat) (a4 : Option Addr) (l4 c4 : Nat) (a6 : Option Addr) (l6 c6 : Nat) (a7 : Option Addr) (l7 c7 : Nat) (B : Nat) (w : World) {DD : CkD} {CC : Bool} (h : CkIs w B a2 l2 a3 l3 a4 l4 a6 l6 a7 l7 x) (hL : CkLim x) (hD : Hid (saveD (okCk s t k z p l e v r x) s t x = (DD, CC))) : Calls Tryz.prog 6 #[.agg #[.int .i64 s, .int .i64 t, .int .i64 k, .int .i64 z, .int .i64 p, .int .i64 l, .int .i64 e, .bool b, .int .i64 v, .int .i64 r], .agg #[.int .i64 x.n, .bool x.op, .slice a2 l2 c2, .slice a3 l3 c3, .slice a4 l4 c4, .int .i64 x.sfn, .slice a6 l6 c6, .slice a7 l7 c7]] w fun e' w' => NewT w DD CC e' w' := by
  refine (specsave_any s t k z p l e b v r x a2 l2 c2 a3 l3 c3 a4 l4 c4 a6 l6 c6 a7 l7 c7 B w h hL).mono fun e' w' h9 => ?_
  rw [unhide hD] at h9
  exact newT_of h9

theorem impl_eq (s t k z p l e : Int) (b : Bool) (v r : Int) (x : CkD) (a2 : Option Addr) (l2 c2 : Nat) (a3 : Option Addr) (l3 c3 : Nat) (a4 : Option Addr) (l4 c4 : Nat) (a6 : Option Addr) (l6 c6 : Nat) (a7 : Option Addr) (l7 c7 : Nat) (B : Nat) (w : World) {DD : CkD} {CC : Bool} (h : CkIs w B a2 l2 a3 l3 a4 l4 a6 l6 a7 l7 x) (hL : CkLim x) (hD : Hid (saveD (okCk s t k z p l e v r x) s t x = (DD, CC))) : Calls Tryz.prog 9 #[.agg #[.int .i64 s, .int .i64 t, .int .i64 k, .int .i64 z, .int .i64 p, .int .i64 l, .int .i64 e, .bool b, .int .i64 v, .int .i64 r], .agg #[.int .i64 x.n, .bool x.op, .slice a2 l2 c2, .slice a3 l3 c3, .slice a4 l4 c4, .int .i64 x.sfn, .slice a6 l6 c6, .slice a7 l7 c7]] w fun e' w' => NewT w DD CC e' w' := by
  refine (implsave_any s t k z p l e b v r x a2 l2 c2 a3 l3 c3 a4 l4 c4 a6 l6 c6 a7 l7 c7 B w h hL).mono fun e' w' h9 => ?_
  rw [unhide hD] at h9
  exact newT_of h9

set_option linter.unusedSimpArgs false in
set_option maxRecDepth 20000 in
set_option maxHeartbeats 16000000 in
theorem lawCkpSave (s t k z p l e : Int) (b : Bool) (v r : Int) (x : CkD) (a2 : Option Addr) (l2 c2 : Nat) (a3 : Option Addr) (l3 c3 : Nat) (a4 : Option Addr) (l4 c4 : Nat) (a6 : Option Addr) (l6 c6 : Nat) (a7 : Option Addr) (l7 c7 : Nat) (w : World) (h : CkIs w 0 a2 l2 a3 l3 a4 l4 a6 l6 a7 l7 x) : Calls Tryz.prog 3 #[.agg #[.int .i64 s, .int .i64 t, .int .i64 k, .int .i64 z, .int .i64 p, .int .i64 l, .int .i64 e, .bool b, .int .i64 v, .int .i64 r], .agg #[.int .i64 x.n, .bool x.op, .slice a2 l2 c2, .slice a3 l3 c3, .slice a4 l4 c4, .int .i64 x.sfn, .slice a6 l6 c6, .slice a7 l7 c7]] w fun e' w' => e' = .returned (.bool true) ∧ Below w.heap.size w w' := by
  obtain ⟨⟨DD, CC⟩, hDD⟩ : ∃ DC : CkD × Bool, saveD (okCk s t k z p l e v r x) s t x = DC := ⟨_, rfl⟩
  have HDD := hide hDD
  clear hDD
  have hbz : Below w.heap.size w ((w.alloc (.cells #[.int .i64 s, .int .i64 t, .int .i64 k, .int .i64 z, .int .i64 p, .int .i64 l, .int .i64 e, .bool b, .int .i64 v, .int .i64 r] 23)).alloc (.cells #[.int .i64 x.n, .bool x.op, .slice a2 l2 c2, .slice a3 l3 c3, .slice a4 l4 c4, .int .i64 x.sfn, .slice a6 l6 c6, .slice a7 l7 c7] 30)) := bel_alloc (bel_one _ _) _
  have h0 := h.below hbz
  have hJ0 : ((w.alloc (.cells #[.int .i64 s, .int .i64 t, .int .i64 k, .int .i64 z, .int .i64 p, .int .i64 l, .int .i64 e, .bool b, .int .i64 v, .int .i64 r] 23)).alloc (.cells #[.int .i64 x.n, .bool x.op, .slice a2 l2 c2, .slice a3 l3 c3, .slice a4 l4 c4, .int .i64 x.sfn, .slice a6 l6 c6, .slice a7 l7 c7] 30)).heap[w.heap.size]? = some (.cells #[.int .i64 s, .int .i64 t, .int .i64 k, .int .i64 z, .int .i64 p, .int .i64 l, .int .i64 e, .bool b, .int .i64 v, .int .i64 r] 23 (0, 0)) := ((bel_one _ _).block _ (by simp)).trans (blk_new rfl)
  have hX0 : ((w.alloc (.cells #[.int .i64 s, .int .i64 t, .int .i64 k, .int .i64 z, .int .i64 p, .int .i64 l, .int .i64 e, .bool b, .int .i64 v, .int .i64 r] 23)).alloc (.cells #[.int .i64 x.n, .bool x.op, .slice a2 l2 c2, .slice a3 l3 c3, .slice a4 l4 c4, .int .i64 x.sfn, .slice a6 l6 c6, .slice a7 l7 c7] 30)).heap[w.heap.size + 1]? = some (.cells #[.int .i64 x.n, .bool x.op, .slice a2 l2 c2, .slice a3 l3 c3, .slice a4 l4 c4, .int .i64 x.sfn, .slice a6 l6 c6, .slice a7 l7 c7] 30 (0, 0)) := blk_new (by simp)
  go_enter Tryz.func3, Tryz.ntmps3
  go_wp2_with fail
  refine (szCk_any x a2 l2 c2 a3 l3 c3 a4 l4 c4 a6 l6 c6 a7 l7 c7 _ h0).mono ?_
  rintro e' w1 ⟨⟨rr, rfl, hr⟩, hb1⟩
  have z1 : w.heap.size + 1 < w1.heap.size := by have h9 := hb1.size; simp at h9; omega
  have hbF1 : Below w.heap.size w w1 := bel_trans hbz hb1
  rcases hr with rfl | ⟨hr0, hr1, hok⟩
  · go_wp2
    go_ret
    exact ⟨rfl, hbF1⟩
  · have hneg : ¬ rr < 0 := by omega
    have hL : CkLim x := by
      obtain ⟨r2, r3, ⟨r4, m4⟩, r6, ⟨r7, m7⟩⟩ := hok
      have q2 := h.src.1.1
      have q3 := h.tsk.1.1
      have q4 := h.sn.1
      have q6 := h.at_.1.1
      have q7 := h.ssn.1
      exact ⟨by omega, by omega, ⟨by omega, m4⟩, by omega, ⟨by omega, m7⟩⟩
    have hJ1 := (hb1.block (w.heap.size) (by simp <;> omega)).trans hJ0
    have hX1 := (hb1.block (w.heap.size + 1) (by simp <;> omega)).trans hX0
    have h1 := h0.below hb1
    clear h h0 hbz hb1 hok hJ0 hX0
    go_wp2_with fail
    go_cut [6, 7] (fun pv bv W => ∃ (Bx : Nat) (a2 : Option Addr) (c2 : Nat) (a3 : Option Addr) (c3 : Nat) (a4 : Option Addr) (c4 : Nat) (a6 : Option Addr) (c6 : Nat) (a7 : Option Addr) (c7 : Nat) (v4 v7 : List SnV), pv = .pointer (some ⟨Bx, 0, none⟩) ∧ bv = .bool CC ∧ InBox w1 DD Bx a2 c2 a3 c3 a4 c4 a6 c6 a7 c7 v4 v7 W ∧ Below w1.heap.size w1 W)
    case first =>
      refine wp_region_P [] (fun W => W.heap[w.heap.size]? = some (.cells #[.int .i64 s, .int .i64 t, .int .i64 k, .int .i64 z, .int .i64 p, .int .i64 l, .int .i64 e, .bool b, .int .i64 v, .int .i64 r] 23 (0, 0)) ∧ W.heap[w.heap.size + 1]? = some (.cells #[.int .i64 x.n, .bool x.op, .slice a2 l2 c2, .slice a3 l3 c3, .slice a4 l4 c4, .int .i64 x.sfn, .slice a6 l6 c6, .slice a7 l7 c7] 30 (0, 0))) (by kernel_rfl) ?_ (fun hHeld => ?_)
      · (try dsimp only); exact ⟨hJ1, hX1⟩
      refine wpAnyP_take (i := 0) (v := ?_) (by simp only [gA, gZ, gS]; rfl) (by kernel_rfl) (by kernel_rfl) (by kernel_rfl) (by kernel_rfl) (by intro _ _ _ h; exact h) (Or.inl ⟨by rfl, ?_⟩) (by assumption) ?_
      rotate_left
      · (intro w9 hSw; (try dsimp only at hSw); obtain ⟨q1, q2⟩ := hSw; have cj0 : w9.cell? ⟨w.heap.size, 0, none⟩ = some (.int .i64 s) := (by simp [World.cell?, q1, go_sem]); have cj1 : w9.cell? ⟨w.heap.size, 1, none⟩ = some (.int .i64 t) := (by simp [World.cell?, q1, go_sem]); have cj2 : w9.cell? ⟨w.heap.size, 2, none⟩ = some (.int .i64 k) := (by simp [World.cell?, q1, go_sem]); have cj3 : w9.cell? ⟨w.heap.size, 3, none⟩ = some (.int .i64 z) := (by simp [World.cell?, q1, go_sem]); have cj4 : w9.cell? ⟨w.heap.size, 4, none⟩ = some (.int .i64 p) := (by simp [World.cell?, q1, go_sem]); have cj5 : w9.cell? ⟨w.heap.size, 5, none⟩ = some (.int .i64 l) := (by simp [World.cell?, q1, go_sem]); have cj6 : w9.cell? ⟨w.heap.size, 6, none⟩ = some (.int .i64 e) := (by simp [World.cell?, q1, go_sem]); have cj7 : w9.cell? ⟨w.heap.size, 7, none⟩ = some (.bool b) := (by simp [World.cell?, q1, go_sem]); have cj8 : w9.cell? ⟨w.heap.size, 8, none⟩ = some (.int .i64 v) := (by simp [World.cell?, q1, go_sem]); have cj9 : w9.cell? ⟨w.heap.size, 9, none⟩ = some (.int .i64 r) := (by simp [World.cell?, q1, go_sem]); go_simp <;> with_reducible rfl)
      try simp only [Act.put, tA, tZ, tS]
      refine wpAnyP_take (i := 2) (v := ?_) (by simp only [gA, gZ, gS]; rfl) (by kernel_rfl) (by kernel_rfl) (by kernel_rfl) (by kernel_rfl) (by intro _ _ _ h; exact h) (Or.inl ⟨by rfl, ?_⟩) (by assumption) ?_
      rotate_left
      · (intro w9 hSw; (try dsimp only at hSw); obtain ⟨q1, q2⟩ := hSw; have cx0 : w9.cell? ⟨w.heap.size + 1, 0, none⟩ = some (.int .i64 x.n) := (by simp [World.cell?, q2, go_sem]); have cx1 : w9.cell? ⟨w.heap.size + 1, 1, none⟩ = some (.bool x.op) := (by simp [World.cell?, q2, go_sem]); have cx2 : w9.cell? ⟨w.heap.size + 1, 2, none⟩ = some (.slice a2 l2 c2) := (by simp [World.cell?, q2, go_sem]); have cx3 : w9.cell? ⟨w.heap.size + 1, 3, none⟩ = some (.slice a3 l3 c3) := (by simp [World.cell?, q2, go_sem]); have cx4 : w9.cell? ⟨w.heap.size + 1, 4, none⟩ = some (.slice a4 l4 c4) := (by simp [World.cell?, q2, go_sem]); have cx5 : w9.cell? ⟨w.heap.size + 1, 5, none⟩ = some (.int .i64 x.sfn) := (by simp [World.cell?, q2, go_sem]); have cx6 : w9.cell? ⟨w.heap.size + 1, 6, none⟩ = some (.slice a6 l6 c6) := (by simp [World.cell?, q2, go_sem]); have cx7 : w9.cell? ⟨w.heap.size + 1, 7, none⟩ = some (.slice a7 l7 c7) := (by simp [World.cell?, q2, go_sem]); go_simp <;> with_reducible rfl)
      try simp only [Act.put, tA, tZ, tS]
      refine wpAnyP_ready (rs := [1, 8]) (by kernel_rfl) (by simp) ?_
      refine AllReadyP.cons (by simp only [gA, gZ, gS]; rfl) (fun K hK => ?_) ?_
      · go_simp
        (go_at_call 7; refine (toJob_any _ _ _ _ _ _ _ _ _ _ _).mono ?_; rintro e' p1 ⟨rfl, hbp1⟩)
        (try go_wp2_with fail)
        have szp1 : w1.drew.heap.size ≤ p1.heap.size := hbp1.size
        (try simp at szp1)
        have hB0p1 := (hbp1.block (w.heap.size) (sC)).trans hJ1
        have hB1p1 := (hbp1.block (w.heap.size + 1) (sC)).trans hX1
        refine hK.out _ _ ?_ (fun hHeld2 => ?_)
        · (try dsimp only); exact ⟨hB0p1, hB1p1⟩
        clear hK K hHeld
        have hHeld := hHeld2
        clear hHeld2
        try simp only [Act.put, tA, tZ, tS]
        refine wpAnyP_ready (rs := [3, 8]) (by kernel_rfl) (by simp) ?_
        refine AllReadyP.cons (by simp only [gA, gZ, gS]; rfl) (fun K hK => ?_) ?_
        · go_simp
          (go_at_call 8; refine ((toCkA_any x a2 l2 c2 a3 l3 c3 a4 l4 c4 a6 l6 c6 a7 l7 c7 _ (h1.below (belA)) hL)).mono ?_; rintro e' p2 ⟨a2y, c2y, a3y, c3y, a4y, c4y, a6y, c6y, a7y, c7y, v4y, v7y, rfl, hMy, hWy, hSy, hbp2⟩; clear hWy hSy)
          (try go_wp2_with fail)
          have szp2 : p1.heap.size ≤ p2.heap.size := hbp2.size
          (try simp at szp2)
          have hB0p2 := (hbp2.block (w.heap.size) (sC)).trans hB0p1
          have hB1p2 := (hbp2.block (w.heap.size + 1) (sC)).trans hB1p1
          refine hK.out _ _ ?_ (fun hHeld2 => ?_)
          · (try dsimp only); exact ⟨hB0p2, hB1p2⟩
          clear hK K hHeld
          have hHeld := hHeld2
          clear hHeld2
          try simp only [Act.put, tA, tZ, tS]
          refine wpAnyP_ready (rs := [4, 8]) (by kernel_rfl) (by simp) ?_
          refine AllReadyP.cons (by simp only [gA, gZ, gS]; rfl) (fun K hK => ?_) ?_
          · go_simp
            (go_at_call 6; refine (spec_eq s t k z p l e b v r x a2y x.src.length c2y a3y x.tsk.length c3y a4y x.sn.length c4y a6y x.at_.length c6y a7y x.ssn.length c7y _ _ (hMy.is.below (belA)) hL HDD).mono ?_; rintro e' p3 ⟨a2, c2, a3, c3, a4, c4, a6, c6, a7, c7, v4, v7, rfl, hM, hW, hS, hbp3⟩)
            (try go_wp2_with fail)
            have szp3 : p2.heap.size ≤ p3.heap.size := hbp3.size
            (try simp at szp3)
            have hB0p3 := (hbp3.block (w.heap.size) (sC)).trans hB0p2
            have hB1p3 := (hbp3.block (w.heap.size + 1) (sC)).trans hB1p2
            refine hK.out _ _ ?_ (fun hHeld2 => ?_)
            · (try dsimp only); exact ⟨hB0p3, hB1p3⟩
            clear hK K hHeld
            have hHeld := hHeld2
            clear hHeld2
            try simp only [Act.put, tA, tZ, tS]
            refine wpAnyP_take (i := 5) (v := ?_) (by simp only [gA, gZ, gS]; rfl) (by kernel_rfl) (by kernel_rfl) (by kernel_rfl) (by kernel_rfl) (by intro _ _ _ h; exact h) (Or.inl ⟨by rfl, ?_⟩) (by assumption) ?_
            rotate_left
            · (intro w9 hSw; go_simp <;> with_reducible rfl)
            try simp only [Act.put, tA, tZ, tS]
            refine wpAnyP_take (i := 6) (v := ?_) (by simp only [gA, gZ, gS]; rfl) (by kernel_rfl) (by kernel_rfl) (by kernel_rfl) (by kernel_rfl) (by intro _ _ _ h; exact h) (Or.inl ⟨by rfl, ?_⟩) (by assumption) ?_
            rotate_left
            · (intro w9 hSw; go_simp <;> with_reducible rfl)
            try simp only [Act.put, tA, tZ, tS]
            refine wpAnyP_take (i := 7) (v := ?_) (by simp only [gA, gZ, gS]; rfl) (by kernel_rfl) (by kernel_rfl) (by kernel_rfl) (by kernel_rfl) (by intro _ _ _ h; exact h) (Or.inl ⟨by rfl, ?_⟩) (by assumption) ?_
            rotate_left
            · (intro w9 hSw; go_simp <;> with_reducible rfl)
            try simp only [Act.put, tA, tZ, tS]
            refine wpAnyP_ready (rs := [8]) (by kernel_rfl) (by simp) ?_
            refine AllReadyP.cons (by simp only [gA, gZ, gS]; rfl) (fun K hK => ?_) AllReadyP.nil
            go_simp
            refine hK.out _ _ ?_ (fun hHeld2 => ?_)
            · (try dsimp only); exact ⟨(Below.heap_alloc _ _ _ (sC)).trans hB0p3, (Below.heap_alloc _ _ _ (sC)).trans hB1p3⟩
            clear hK K hHeld
            have hHeld := hHeld2
            clear hHeld2
            try simp only [Act.put, tA, tZ, tS]
            refine wpAnyP_ready (rs := [9]) (by kernel_rfl) (by simp) ?_
            refine AllReadyP.cons (by simp only [gA, gZ, gS]; rfl) (fun K hK => ?_) AllReadyP.nil
            go_simp
            refine hK.out _ _ ?_ (fun hHeld2 => ?_)
            · (try dsimp only); exact ⟨(Below.heap_alloc _ _ _ (sC)).trans hB0p3, (Below.heap_alloc _ _ _ (sC)).trans hB1p3⟩
            clear hK K hHeld
            have hHeld := hHeld2
            clear hHeld2
            try simp only [Act.put, tA, tZ, tS]
            refine wpAnyP_take (i := 10) (v := ?_) (by simp only [gA, gZ, gS]; rfl) (by kernel_rfl) (by kernel_rfl) (by kernel_rfl) (by kernel_rfl) (by intro _ _ _ h; exact h) (Or.inl ⟨by rfl, ?_⟩) (by assumption) ?_
            rotate_left
            · (intro w9 hSw; go_simp <;> with_reducible rfl)
            try simp only [Act.put, tA, tZ, tS]
            refine wpAnyP_done (by kernel_rfl) ?_ _
            go_wp2
            go_meet
            exact ⟨_, a2, c2, a3, c3, a4, c4, a6, c6, a7, c7, v4, v7, rfl, rfl, boxLateK hM hW hS (sC) (belA)⟩
          refine AllReadyP.cons (by simp only [gA, gZ, gS]; rfl) (fun K hK => ?_) AllReadyP.nil
          go_simp
          refine hK.out _ _ ?_ (fun hHeld2 => ?_)
          · (try dsimp only); exact ⟨(Below.heap_alloc _ _ _ (sC)).trans hB0p2, (Below.heap_alloc _ _ _ (sC)).trans hB1p2⟩
          clear hK K hHeld
          have hHeld := hHeld2
          clear hHeld2
          try simp only [Act.put, tA, tZ, tS]
          refine wpAnyP_ready (rs := [4]) (by kernel_rfl) (by simp) ?_
          refine AllReadyP.cons (by simp only [gA, gZ, gS]; rfl) (fun K hK => ?_) AllReadyP.nil
          go_simp
          (go_at_call 6; refine (spec_eq s t k z p l e b v r x a2y x.src.length c2y a3y x.tsk.length c3y a4y x.sn.length c4y a6y x.at_.length c6y a7y x.ssn.length c7y _ _ (hMy.is.below (belA)) hL HDD).mono ?_; rintro e' p3 ⟨a2, c2, a3, c3, a4, c4, a6, c6, a7, c7, v4, v7, rfl, hM, hW, hS, hbp3⟩)
          (try go_wp2_with fail)
          have szp3 : (p2.alloc (.cells #[.int .i64 0, .bool false, .slice none 0 0, .slice none 0 0, .slice none 0 0, .int .i64 0, .slice none 0 0, .slice none 0 0] 36)).heap.size ≤ p3.heap.size := hbp3.size
          (try simp at szp3)
          have hB0p3 := (hbp3.block (w.heap.size) (sC)).trans ((Below.heap_alloc _ _ _ (sC)).trans hB0p2)
          have hB1p3 := (hbp3.block (w.heap.size + 1) (sC)).trans ((Below.heap_alloc _ _ _ (sC)).trans hB1p2)
          have hZ : p3.heap[p2.heap.size]? = some (.cells #[.int .i64 0, .bool false, .slice none 0 0, .slice none 0 0, .slice none 0 0, .int .i64 0, .slice none 0 0, .slice none 0 0] 36 (0, 0)) := (hbp3.block (p2.heap.size) (sC)).trans (blk_new (by simp))
          refine hK.out _ _ ?_ (fun hHeld2 => ?_)
          · (try dsimp only); exact ⟨hB0p3, hB1p3⟩
          clear hK K hHeld
          have hHeld := hHeld2
          clear hHeld2
          try simp only [Act.put, tA, tZ, tS]
          refine wpAnyP_take (i := 5) (v := ?_) (by simp only [gA, gZ, gS]; rfl) (by kernel_rfl) (by kernel_rfl) (by kernel_rfl) (by kernel_rfl) (by intro _ _ _ h; exact h) (Or.inl ⟨by rfl, ?_⟩) (by assumption) ?_
          rotate_left
          · (intro w9 hSw; go_simp <;> with_reducible rfl)
          try simp only [Act.put, tA, tZ, tS]
          refine wpAnyP_take (i := 6) (v := ?_) (by simp only [gA, gZ, gS]; rfl) (by kernel_rfl) (by kernel_rfl) (by kernel_rfl) (by kernel_rfl) (by intro _ _ _ h; exact h) (Or.inl ⟨by rfl, ?_⟩) (by assumption) ?_
          rotate_left
          · (intro w9 hSw; go_simp <;> with_reducible rfl)
          try simp only [Act.put, tA, tZ, tS]
          refine wpAnyP_take (i := 7) (v := ?_) (by simp only [gA, gZ, gS]; rfl) (by kernel_rfl) (by kernel_rfl) (by kernel_rfl) (by kernel_rfl) (by intro _ _ _ h; exact h) (Or.inl ⟨by rfl, ?_⟩) (by assumption) ?_
          rotate_left
          · (intro w9 hSw; go_simp <;> with_reducible rfl)
          try simp only [Act.put, tA, tZ, tS]
          obtain ⟨⟨zc0, zc1, zc2, zc3, zc4, zc5, zc6, zc7⟩, zF⟩ := (show BoxK p3 (p2.heap.size) 0 false (.slice none 0 0) (.slice none 0 0) (.slice none 0 0) 0 (.slice none 0 0) (.slice none 0 0) from hZ).cells
          have zf0 := zF 0
          have zf1 := zF 1
          have zf2 := zF 2
          have zf3 := zF 3
          have zf4 := zF 4
          have zf5 := zF 5
          have zf6 := zF 6
          have zf7 := zF 7
          clear zF
          refine wpAnyP_ready (rs := [9]) (by kernel_rfl) (by simp) ?_
          refine AllReadyP.cons (by simp only [gA, gZ, gS]; rfl) (fun K hK => ?_) AllReadyP.nil
          go_simp
          refine hK.out _ _ ?_ (fun hHeld2 => ?_)
          · (try dsimp only); exact ⟨((Below.heap_setCell _ _ _ _ (sC)).trans ((Below.heap_setCell _ _ _ _ (sC)).trans ((Below.heap_setCell _ _ _ _ (sC)).trans ((Below.heap_setCell _ _ _ _ (sC)).trans ((Below.heap_setCell _ _ _ _ (sC)).trans ((Below.heap_setCell _ _ _ _ (sC)).trans ((Below.heap_setCell _ _ _ _ (sC)).trans ((Below.heap_setCell _ _ _ _ (sC)).trans hB0p3)))))))), ((Below.heap_setCell _ _ _ _ (sC)).trans ((Below.heap_setCell _ _ _ _ (sC)).trans ((Below.heap_setCell _ _ _ _ (sC)).trans ((Below.heap_setCell _ _ _ _ (sC)).trans ((Below.heap_setCell _ _ _ _ (sC)).trans ((Below.heap_setCell _ _ _ _ (sC)).trans ((Below.heap_setCell _ _ _ _ (sC)).trans ((Below.heap_setCell _ _ _ _ (sC)).trans hB1p3))))))))⟩
          clear hK K hHeld
          have hHeld := hHeld2
          clear hHeld2
          try simp only [Act.put, tA, tZ, tS]
          refine wpAnyP_take (i := 10) (v := ?_) (by simp only [gA, gZ, gS]; rfl) (by kernel_rfl) (by kernel_rfl) (by kernel_rfl) (by kernel_rfl) (by intro _ _ _ h; exact h) (Or.inl ⟨by rfl, ?_⟩) (by assumption) ?_
          rotate_left
          · (intro w9 hSw; go_simp <;> with_reducible rfl)
          try simp only [Act.put, tA, tZ, tS]
          refine wpAnyP_done (by kernel_rfl) ?_ _
          go_wp2
          go_meet
          exact ⟨_, a2, c2, a3, c3, a4, c4, a6, c6, a7, c7, v4, v7, rfl, rfl, boxEarlyK hM hW hS (sC) (Below.refl _ _) (Or.inl (sC)) (sC) hZ (belA)⟩
        refine AllReadyP.cons (by simp only [gA, gZ, gS]; rfl) (fun K hK => ?_) AllReadyP.nil
        go_simp
        refine hK.out _ _ ?_ (fun hHeld2 => ?_)
        · (try dsimp only); exact ⟨(Below.heap_alloc _ _ _ (sC)).trans hB0p1, (Below.heap_alloc _ _ _ (sC)).trans hB1p1⟩
        clear hK K hHeld
        have hHeld := hHeld2
        clear hHeld2
        try simp only [Act.put, tA, tZ, tS]
        refine wpAnyP_ready (rs := [3]) (by kernel_rfl) (by simp) ?_
        refine AllReadyP.cons (by simp only [gA, gZ, gS]; rfl) (fun K hK => ?_) AllReadyP.nil
        go_simp
        (go_at_call 8; refine ((toCkA_any x a2 l2 c2 a3 l3 c3 a4 l4 c4 a6 l6 c6 a7 l7 c7 _ (h1.below (belA)) hL)).mono ?_; rintro e' p2 ⟨a2y, c2y, a3y, c3y, a4y, c4y, a6y, c6y, a7y, c7y, v4y, v7y, rfl, hMy, hWy, hSy, hbp2⟩; clear hWy hSy)
        (try go_wp2_with fail)
        have szp2 : (p1.alloc (.cells #[.int .i64 0, .bool false, .slice none 0 0, .slice none 0 0, .slice none 0 0, .int .i64 0, .slice none 0 0, .slice none 0 0] 36)).heap.size ≤ p2.heap.size := hbp2.size
        (try simp at szp2)
        have hB0p2 := (hbp2.block (w.heap.size) (sC)).trans ((Below.heap_alloc _ _ _ (sC)).trans hB0p1)
        have hB1p2 := (hbp2.block (w.heap.size + 1) (sC)).trans ((Below.heap_alloc _ _ _ (sC)).trans hB1p1)
        have hZ : p2.heap[p1.heap.size]? = some (.cells #[.int .i64 0, .bool false, .slice none 0 0, .slice none 0 0, .slice none 0 0, .int .i64 0, .slice none 0 0, .slice none 0 0] 36 (0, 0)) := (hbp2.block (p1.heap.size) (sC)).trans (blk_new (by simp))
        refine hK.out _ _ ?_ (fun hHeld2 => ?_)
        · (try dsimp only); exact ⟨hB0p2, hB1p2⟩
        clear hK K hHeld
        have hHeld := hHeld2
        clear hHeld2
        try simp only [Act.put, tA, tZ, tS]
        refine wpAnyP_ready (rs := [4]) (by kernel_rfl) (by simp) ?_
        refine AllReadyP.cons (by simp only [gA, gZ, gS]; rfl) (fun K hK => ?_) AllReadyP.nil
        go_simp
        (go_at_call 6; refine (spec_eq s t k z p l e b v r x a2y x.src.length c2y a3y x.tsk.length c3y a4y x.sn.length c4y a6y x.at_.length c6y a7y x.ssn.length c7y _ _ (hMy.is.below (belA)) hL HDD).mono ?_; rintro e' p3 ⟨a2, c2, a3, c3, a4, c4, a6, c6, a7, c7, v4, v7, rfl, hM, hW, hS, hbp3⟩)
        (try go_wp2_with fail)
        have szp3 : p2.heap.size ≤ p3.heap.size := hbp3.size
        (try simp at szp3)
        have hB0p3 := (hbp3.block (w.heap.size) (sC)).trans hB0p2
        have hB1p3 := (hbp3.block (w.heap.size + 1) (sC)).trans hB1p2
        have hZ : p3.heap[p1.heap.size]? = some (.cells #[.int .i64 0, .bool false, .slice none 0 0, .slice none 0 0, .slice none 0 0, .int .i64 0, .slice none 0 0, .slice none 0 0] 36 (0, 0)) := (hbp3.block (p1.heap.size) (sC)).trans hZ
        refine hK.out _ _ ?_ (fun hHeld2 => ?_)
        · (try dsimp only); exact ⟨hB0p3, hB1p3⟩
        clear hK K hHeld
        have hHeld := hHeld2
        clear hHeld2
        try simp only [Act.put, tA, tZ, tS]
        refine wpAnyP_take (i := 5) (v := ?_) (by simp only [gA, gZ, gS]; rfl) (by kernel_rfl) (by kernel_rfl) (by kernel_rfl) (by kernel_rfl) (by intro _ _ _ h; exact h) (Or.inl ⟨by rfl, ?_⟩) (by assumption) ?_
        rotate_left
        · (intro w9 hSw; go_simp <;> with_reducible rfl)
        try simp only [Act.put, tA, tZ, tS]
        refine wpAnyP_take (i := 6) (v := ?_) (by simp only [gA, gZ, gS]; rfl) (by kernel_rfl) (by kernel_rfl) (by kernel_rfl) (by kernel_rfl) (by intro _ _ _ h; exact h) (Or.inl ⟨by rfl, ?_⟩) (by assumption) ?_
        rotate_left
        · (intro w9 hSw; go_simp <;> with_reducible rfl)
        try simp only [Act.put, tA, tZ, tS]
        refine wpAnyP_take (i := 7) (v := ?_) (by simp only [gA, gZ, gS]; rfl) (by kernel_rfl) (by kernel_rfl) (by kernel_rfl) (by kernel_rfl) (by intro _ _ _ h; exact h) (Or.inl ⟨by rfl, ?_⟩) (by assumption) ?_
        rotate_left
        · (intro w9 hSw; go_simp <;> with_reducible rfl)
        try simp only [Act.put, tA, tZ, tS]
        obtain ⟨⟨zc0, zc1, zc2, zc3, zc4, zc5, zc6, zc7⟩, zF⟩ := (show BoxK p3 (p1.heap.size) 0 false (.slice none 0 0) (.slice none 0 0) (.slice none 0 0) 0 (.slice none 0 0) (.slice none 0 0) from hZ).cells
        have zf0 := zF 0
        have zf1 := zF 1
        have zf2 := zF 2
        have zf3 := zF 3
        have zf4 := zF 4
        have zf5 := zF 5
        have zf6 := zF 6
        have zf7 := zF 7
        clear zF
        refine wpAnyP_ready (rs := [9]) (by kernel_rfl) (by simp) ?_
        refine AllReadyP.cons (by simp only [gA, gZ, gS]; rfl) (fun K hK => ?_) AllReadyP.nil
        go_simp
        refine hK.out _ _ ?_ (fun hHeld2 => ?_)
        · (try dsimp only); exact ⟨((Below.heap_setCell _ _ _ _ (sC)).trans ((Below.heap_setCell _ _ _ _ (sC)).trans ((Below.heap_setCell _ _ _ _ (sC)).trans ((Below.heap_setCell _ _ _ _ (sC)).trans ((Below.heap_setCell _ _ _ _ (sC)).trans ((Below.heap_setCell _ _ _ _ (sC)).trans ((Below.heap_setCell _ _ _ _ (sC)).trans ((Below.heap_setCell _ _ _ _ (sC)).trans hB0p3)))))))), ((Below.heap_setCell _ _ _ _ (sC)).trans ((Below.heap_setCell _ _ _ _ (sC)).trans ((Below.heap_setCell _ _ _ _ (sC)).trans ((Below.heap_setCell _ _ _ _ (sC)).trans ((Below.heap_setCell _ _ _ _ (sC)).trans ((Below.heap_setCell _ _ _ _ (sC)).trans ((Below.heap_setCell _ _ _ _ (sC)).trans ((Below.heap_setCell _ _ _ _ (sC)).trans hB1p3))))))))⟩
        clear hK K hHeld
        have hHeld := hHeld2
        clear hHeld2
        try simp only [Act.put, tA, tZ, tS]
        refine wpAnyP_take (i := 10) (v := ?_) (by simp only [gA, gZ, gS]; rfl) (by kernel_rfl) (by kernel_rfl) (by kernel_rfl) (by kernel_rfl) (by intro _ _ _ h; exact h) (Or.inl ⟨by rfl, ?_⟩) (by assumption) ?_
        rotate_left
        · (intro w9 hSw; go_simp <;> with_reducible rfl)
        try simp only [Act.put, tA, tZ, tS]
        refine wpAnyP_done (by kernel_rfl) ?_ _
        go_wp2
        go_meet
        exact ⟨_, a2, c2, a3, c3, a4, c4, a6, c6, a7, c7, v4, v7, rfl, rfl, boxEarlyK hM hW hS (sC) (Below.refl _ _) (Or.inl (sC)) (sC) hZ (belA)⟩
      refine AllReadyP.cons (by simp only [gA, gZ, gS]; rfl) (fun K hK => ?_) AllReadyP.nil
      go_simp
      refine hK.out _ _ ?_ (fun hHeld2 => ?_)
      · (try dsimp only); exact ⟨(Below.heap_alloc _ _ _ (sC)).trans hJ1, (Below.heap_alloc _ _ _ (sC)).trans hX1⟩
      clear hK K hHeld
      have hHeld := hHeld2
      clear hHeld2
      try simp only [Act.put, tA, tZ, tS]
      refine wpAnyP_ready (rs := [1]) (by kernel_rfl) (by simp) ?_
      refine AllReadyP.cons (by simp only [gA, gZ, gS]; rfl) (fun K hK => ?_) AllReadyP.nil
      go_simp
      (go_at_call 7; refine (toJob_any _ _ _ _ _ _ _ _ _ _ _).mono ?_; rintro e' p1 ⟨rfl, hbp1⟩)
      (try go_wp2_with fail)
      have szp1 : (w1.drew.alloc (.cells #[.int .i64 0, .bool false, .slice none 0 0, .slice none 0 0, .slice none 0 0, .int .i64 0, .slice none 0 0, .slice none 0 0] 36)).heap.size ≤ p1.heap.size := hbp1.size
      (try simp at szp1)
      have hB0p1 := (hbp1.block (w.heap.size) (sC)).trans ((Below.heap_alloc _ _ _ (sC)).trans hJ1)
      have hB1p1 := (hbp1.block (w.heap.size + 1) (sC)).trans ((Below.heap_alloc _ _ _ (sC)).trans hX1)
      have hZ : p1.heap[w1.heap.size]? = some (.cells #[.int .i64 0, .bool false, .slice none 0 0, .slice none 0 0, .slice none 0 0, .int .i64 0, .slice none 0 0, .slice none 0 0] 36 (0, 0)) := (hbp1.block (w1.heap.size) (sC)).trans (blk_new (by simp))
      refine hK.out _ _ ?_ (fun hHeld2 => ?_)
      · (try dsimp only); exact ⟨hB0p1, hB1p1⟩
      clear hK K hHeld
      have hHeld := hHeld2
      clear hHeld2
      try simp only [Act.put, tA, tZ, tS]
      refine wpAnyP_ready (rs := [3]) (by kernel_rfl) (by simp) ?_
      refine AllReadyP.cons (by simp only [gA, gZ, gS]; rfl) (fun K hK => ?_) AllReadyP.nil
      go_simp
      (go_at_call 8; refine ((toCkA_any x a2 l2 c2 a3 l3 c3 a4 l4 c4 a6 l6 c6 a7 l7 c7 _ (h1.below (belA)) hL)).mono ?_; rintro e' p2 ⟨a2y, c2y, a3y, c3y, a4y, c4y, a6y, c6y, a7y, c7y, v4y, v7y, rfl, hMy, hWy, hSy, hbp2⟩; clear hWy hSy)
      (try go_wp2_with fail)
      have szp2 : p1.heap.size ≤ p2.heap.size := hbp2.size
      (try simp at szp2)
      have hB0p2 := (hbp2.block (w.heap.size) (sC)).trans hB0p1
      have hB1p2 := (hbp2.block (w.heap.size + 1) (sC)).trans hB1p1
      have hZ : p2.heap[w1.heap.size]? = some (.cells #[.int .i64 0, .bool false, .slice none 0 0, .slice none 0 0, .slice none 0 0, .int .i64 0, .slice none 0 0, .slice none 0 0] 36 (0, 0)) := (hbp2.block (w1.heap.size) (sC)).trans hZ
      refine hK.out _ _ ?_ (fun hHeld2 => ?_)
      · (try dsimp only); exact ⟨hB0p2, hB1p2⟩
      clear hK K hHeld
      have hHeld := hHeld2
      clear hHeld2
      try simp only [Act.put, tA, tZ, tS]
      refine wpAnyP_ready (rs := [4]) (by kernel_rfl) (by simp) ?_
      refine AllReadyP.cons (by simp only [gA, gZ, gS]; rfl) (fun K hK => ?_) AllReadyP.nil
      go_simp
      (go_at_call 6; refine (spec_eq s t k z p l e b v r x a2y x.src.length c2y a3y x.tsk.length c3y a4y x.sn.length c4y a6y x.at_.length c6y a7y x.ssn.length c7y _ _ (hMy.is.below (belA)) hL HDD).mono ?_; rintro e' p3 ⟨a2, c2, a3, c3, a4, c4, a6, c6, a7, c7, v4, v7, rfl, hM, hW, hS, hbp3⟩)
      (try go_wp2_with fail)
      have szp3 : p2.heap.size ≤ p3.heap.size := hbp3.size
      (try simp at szp3)
      have hB0p3 := (hbp3.block (w.heap.size) (sC)).trans hB0p2
      have hB1p3 := (hbp3.block (w.heap.size + 1) (sC)).trans hB1p2
      have hZ : p3.heap[w1.heap.size]? = some (.cells #[.int .i64 0, .bool false, .slice none 0 0, .slice none 0 0, .slice none 0 0, .int .i64 0, .slice none 0 0, .slice none 0 0] 36 (0, 0)) := (hbp3.block (w1.heap.size) (sC)).trans hZ
      refine hK.out _ _ ?_ (fun hHeld2 => ?_)
      · (try dsimp only); exact ⟨hB0p3, hB1p3⟩
      clear hK K hHeld
      have hHeld := hHeld2
      clear hHeld2
      try simp only [Act.put, tA, tZ, tS]
      refine wpAnyP_take (i := 5) (v := ?_) (by simp only [gA, gZ, gS]; rfl) (by kernel_rfl) (by kernel_rfl) (by kernel_rfl) (by kernel_rfl) (by intro _ _ _ h; exact h) (Or.inl ⟨by rfl, ?_⟩) (by assumption) ?_
      rotate_left
      · (intro w9 hSw; go_simp <;> with_reducible rfl)
      try simp only [Act.put, tA, tZ, tS]
      refine wpAnyP_take (i := 6) (v := ?_) (by simp only [gA, gZ, gS]; rfl) (by kernel_rfl) (by kernel_rfl) (by kernel_rfl) (by kernel_rfl) (by intro _ _ _ h; exact h) (Or.inl ⟨by rfl, ?_⟩) (by assumption) ?_
      rotate_left
      · (intro w9 hSw; go_simp <;> with_reducible rfl)
      try simp only [Act.put, tA, tZ, tS]
      refine wpAnyP_take (i := 7) (v := ?_) (by simp only [gA, gZ, gS]; rfl) (by kernel_rfl) (by kernel_rfl) (by kernel_rfl) (by kernel_rfl) (by intro _ _ _ h; exact h) (Or.inl ⟨by rfl, ?_⟩) (by assumption) ?_
      rotate_left
      · (intro w9 hSw; go_simp <;> with_reducible rfl)
      try simp only [Act.put, tA, tZ, tS]
      obtain ⟨⟨zc0, zc1, zc2, zc3, zc4, zc5, zc6, zc7⟩, zF⟩ := (show BoxK p3 (w1.heap.size) 0 false (.slice none 0 0) (.slice none 0 0) (.slice none 0 0) 0 (.slice none 0 0) (.slice none 0 0) from hZ).cells
      have zf0 := zF 0
      have zf1 := zF 1
      have zf2 := zF 2
      have zf3 := zF 3
      have zf4 := zF 4
      have zf5 := zF 5
      have zf6 := zF 6
      have zf7 := zF 7
      clear zF
      refine wpAnyP_ready (rs := [9]) (by kernel_rfl) (by simp) ?_
      refine AllReadyP.cons (by simp only [gA, gZ, gS]; rfl) (fun K hK => ?_) AllReadyP.nil
      go_simp
      refine hK.out _ _ ?_ (fun hHeld2 => ?_)
      · (try dsimp only); exact ⟨((Below.heap_setCell _ _ _ _ (sC)).trans ((Below.heap_setCell _ _ _ _ (sC)).trans ((Below.heap_setCell _ _ _ _ (sC)).trans ((Below.heap_setCell _ _ _ _ (sC)).trans ((Below.heap_setCell _ _ _ _ (sC)).trans ((Below.heap_setCell _ _ _ _ (sC)).trans ((Below.heap_setCell _ _ _ _ (sC)).trans ((Below.heap_setCell _ _ _ _ (sC)).trans hB0p3)))))))), ((Below.heap_setCell _ _ _ _ (sC)).trans ((Below.heap_setCell _ _ _ _ (sC)).trans ((Below.heap_setCell _ _ _ _ (sC)).trans ((Below.heap_setCell _ _ _ _ (sC)).trans ((Below.heap_setCell _ _ _ _ (sC)).trans ((Below.heap_setCell _ _ _ _ (sC)).trans ((Below.heap_setCell _ _ _ _ (sC)).trans ((Below.heap_setCell _ _ _ _ (sC)).trans hB1p3))))))))⟩
      clear hK K hHeld
      have hHeld := hHeld2
      clear hHeld2
      try simp only [Act.put, tA, tZ, tS]
      refine wpAnyP_take (i := 10) (v := ?_) (by simp only [gA, gZ, gS]; rfl) (by kernel_rfl) (by kernel_rfl) (by kernel_rfl) (by kernel_rfl) (by intro _ _ _ h; exact h) (Or.inl ⟨by rfl, ?_⟩) (by assumption) ?_
      rotate_left
      · (intro w9 hSw; go_simp <;> with_reducible rfl)
      try simp only [Act.put, tA, tZ, tS]
      refine wpAnyP_done (by kernel_rfl) ?_ _
      go_wp2
      go_meet
      exact ⟨_, a2, c2, a3, c3, a4, c4, a6, c6, a7, c7, v4, v7, rfl, rfl, boxEarlyK hM hW hS (sC) (Below.refl _ _) (Or.inl (sC)) (sC) hZ (belA)⟩
    case rest =>
      rename World => wa
      obtain ⟨Bw, a2w, c2w, a3w, c3w, a4w, c4w, a6w, c6w, a7w, c7w, v4w, v7w, rfl, rfl, Iw, Iwbel⟩ := hcut
      have zw := Iwbel.size
      have hJa := (Iwbel.block (w.heap.size) (by omega)).trans hJ1
      have hXa := (Iwbel.block (w.heap.size + 1) z1).trans hX1
      have ha := h1.below Iwbel
      have cx0 : wa.cell? ⟨w.heap.size + 1, 0, none⟩ = some (.int .i64 x.n) := by simp [World.cell?, hXa, go_sem]
      have cx1 : wa.cell? ⟨w.heap.size + 1, 1, none⟩ = some (.bool x.op) := by simp [World.cell?, hXa, go_sem]
      have cx2 : wa.cell? ⟨w.heap.size + 1, 2, none⟩ = some (.slice a2 l2 c2) := by simp [World.cell?, hXa, go_sem]
      have cx3 : wa.cell? ⟨w.heap.size + 1, 3, none⟩ = some (.slice a3 l3 c3) := by simp [World.cell?, hXa, go_sem]
      have cx4 : wa.cell? ⟨w.heap.size + 1, 4, none⟩ = some (.slice a4 l4 c4) := by simp [World.cell?, hXa, go_sem]
      have cx5 : wa.cell? ⟨w.heap.size + 1, 5, none⟩ = some (.int .i64 x.sfn) := by simp [World.cell?, hXa, go_sem]
      have cx6 : wa.cell? ⟨w.heap.size + 1, 6, none⟩ = some (.slice a6 l6 c6) := by simp [World.cell?, hXa, go_sem]
      have cx7 : wa.cell? ⟨w.heap.size + 1, 7, none⟩ = some (.slice a7 l7 c7) := by simp [World.cell?, hXa, go_sem]
      go_wp2_with fail
      refine (toCkA_any x a2 l2 c2 a3 l3 c3 a4 l4 c4 a6 l6 c6 a7 l7 c7 _ ha hL).mono ?_
      rintro e' wb0 ⟨a2x, c2x, a3x, c3x, a4x, c4x, a6x, c6x, a7x, c7x, v4x, v7x, rfl, hMx, hWx, hSx, hbb0⟩
      clear cx0 cx1 cx2 cx3 cx4 cx5 cx6 cx7
      have Ix0 := boxLateK (W0 := wa) hMx hWx hSx (Nat.le_refl _) hbb0
      have HIx := hide Ix0
      clear Ix0 hMx hWx hSx
      go_wp2_with fail
      revert HIx
      generalize wb0.alloc (.cells #[.int .i64 x.n, .bool x.op, .slice a2x x.src.length c2x, .slice a3x x.tsk.length c3x, .slice a4x x.sn.length c4x, .int .i64 x.sfn, .slice a6x x.at_.length c6x, .slice a7x x.ssn.length c7x] 36) = wb
      generalize wb0.heap.size = Bx
      intro HIx
      obtain ⟨Ix, Ixbel⟩ := unhide HIx
      clear HIx
      have hbab : Below wa.heap.size wa wb := Ixbel
      have zb := hbab.size
      have hJb := (hbab.block (w.heap.size) (by omega)).trans hJa
      have hXb := (hbab.block (w.heap.size + 1) (by omega)).trans hXa
      have hBb := Ix.box
      have ltBx := Ix.box.lt
      go_cut [9, 10] (fun pv bv W => ∃ (Bx : Nat) (a2 : Option Addr) (c2 : Nat) (a3 : Option Addr) (c3 : Nat) (a4 : Option Addr) (c4 : Nat) (a6 : Option Addr) (c6 : Nat) (a7 : Option Addr) (c7 : Nat) (v4 v7 : List SnV), pv = .pointer (some ⟨Bx, 0, none⟩) ∧ bv = .bool CC ∧ InBox wb DD Bx a2 c2 a3 c3 a4 c4 a6 c6 a7 c7 v4 v7 W ∧ Below wb.heap.size wb W)
      case first =>
        have hMx := Ix.mem
        refine wp_region_P [] (fun W => W.heap[w.heap.size]? = some (.cells #[.int .i64 s, .int .i64 t, .int .i64 k, .int .i64 z, .int .i64 p, .int .i64 l, .int .i64 e, .bool b, .int .i64 v, .int .i64 r] 23 (0, 0)) ∧ W.heap[w.heap.size + 1]? = some (.cells #[.int .i64 x.n, .bool x.op, .slice a2 l2 c2, .slice a3 l3 c3, .slice a4 l4 c4, .int .i64 x.sfn, .slice a6 l6 c6, .slice a7 l7 c7] 30 (0, 0)) ∧ W.heap[Bx]? = some (.cells #[.int .i64 x.n, .bool x.op, .slice a2x x.src.length c2x, .slice a3x x.tsk.length c3x, .slice a4x x.sn.length c4x, .int .i64 x.sfn, .slice a6x x.at_.length c6x, .slice a7x x.ssn.length c7x] 36 (0, 0))) (by kernel_rfl) ?_ (fun hHeld => ?_)
        · (try dsimp only); exact ⟨hJb, hXb, hBb⟩
        refine wpAnyP_take (i := 0) (v := ?_) (by simp only [gA, gZ, gS]; rfl) (by kernel_rfl) (by kernel_rfl) (by kernel_rfl) (by kernel_rfl) (by intro _ _ _ h; exact h) (Or.inl ⟨by rfl, ?_⟩) (by assumption) ?_
        rotate_left
        · (intro w9 hSw; (try dsimp only at hSw); obtain ⟨q1, q2, q3⟩ := hSw; have cj0 : w9.cell? ⟨w.heap.size, 0, none⟩ = some (.int .i64 s) := (by simp [World.cell?, q1, go_sem]); have cj1 : w9.cell? ⟨w.heap.size, 1, none⟩ = some (.int .i64 t) := (by simp [World.cell?, q1, go_sem]); have cj2 : w9.cell? ⟨w.heap.size, 2, none⟩ = some (.int .i64 k) := (by simp [World.cell?, q1, go_sem]); have cj3 : w9.cell? ⟨w.heap.size, 3, none⟩ = some (.int .i64 z) := (by simp [World.cell?, q1, go_sem]); have cj4 : w9.cell? ⟨w.heap.size, 4, none⟩ = some (.int .i64 p) := (by simp [World.cell?, q1, go_sem]); have cj5 : w9.cell? ⟨w.heap.size, 5, none⟩ = some (.int .i64 l) := (by simp [World.cell?, q1, go_sem]); have cj6 : w9.cell? ⟨w.heap.size, 6, none⟩ = some (.int .i64 e) := (by simp [World.cell?, q1, go_sem]); have cj7 : w9.cell? ⟨w.heap.size, 7, none⟩ = some (.bool b) := (by simp [World.cell?, q1, go_sem]); have cj8 : w9.cell? ⟨w.heap.size, 8, none⟩ = some (.int .i64 v) := (by simp [World.cell?, q1, go_sem]); have cj9 : w9.cell? ⟨w.heap.size, 9, none⟩ = some (.int .i64 r) := (by simp [World.cell?, q1, go_sem]); go_simp <;> with_reducible rfl)
        try simp only [Act.put, tA, tZ, tS]
        refine wpAnyP_take (i := 2) (v := ?_) (by simp only [gA, gZ, gS]; rfl) (by kernel_rfl) (by kernel_rfl) (by kernel_rfl) (by kernel_rfl) (by intro _ _ _ h; exact h) (Or.inl ⟨by rfl, ?_⟩) (by assumption) ?_
        rotate_left
        · (intro w9 hSw; (try dsimp only at hSw); obtain ⟨q1, q2, q3⟩ := hSw; have cb0 : w9.cell? ⟨Bx, 0, none⟩ = some (.int .i64 x.n) := (by simp [World.cell?, q3, go_sem]); have cb1 : w9.cell? ⟨Bx, 1, none⟩ = some (.bool x.op) := (by simp [World.cell?, q3, go_sem]); have cb2 : w9.cell? ⟨Bx, 2, none⟩ = some (.slice a2x x.src.length c2x) := (by simp [World.cell?, q3, go_sem]); have cb3 : w9.cell? ⟨Bx, 3, none⟩ = some (.slice a3x x.tsk.length c3x) := (by simp [World.cell?, q3, go_sem]); have cb4 : w9.cell? ⟨Bx, 4, none⟩ = some (.slice a4x x.sn.length c4x) := (by simp [World.cell?, q3, go_sem]); have cb5 : w9.cell? ⟨Bx, 5, none⟩ = some (.int .i64 x.sfn) := (by simp [World.cell?, q3, go_sem]); have cb6 : w9.cell? ⟨Bx, 6, none⟩ = some (.slice a6x x.at_.length c6x) := (by simp [World.cell?, q3, go_sem]); have cb7 : w9.cell? ⟨Bx, 7, none⟩ = some (.slice a7x x.ssn.length c7x) := (by simp [World.cell?, q3, go_sem]); go_simp <;> with_reducible rfl)
        try simp only [Act.put, tA, tZ, tS]
        refine wpAnyP_ready (rs := [1, 7]) (by kernel_rfl) (by simp) ?_
        refine AllReadyP.cons (by simp only [gA, gZ, gS]; rfl) (fun K hK => ?_) ?_
        · go_simp
          (go_at_call 7; refine (toJob_any _ _ _ _ _ _ _ _ _ _ _).mono ?_; rintro e' p1 ⟨rfl, hbp1⟩)
          (try go_wp2_with fail)
          have szp1 : wb.drew.heap.size ≤ p1.heap.size := hbp1.size
          (try simp at szp1)
          have hB0p1 := (hbp1.block (w.heap.size) (sC)).trans hJb
          have hB1p1 := (hbp1.block (w.heap.size + 1) (sC)).trans hXb
          have hB2p1 := (hbp1.block (Bx) (sC)).trans hBb
          refine hK.out _ _ ?_ (fun hHeld2 => ?_)
          · (try dsimp only); exact ⟨hB0p1, hB1p1, hB2p1⟩
          clear hK K hHeld
          have hHeld := hHeld2
          clear hHeld2
          try simp only [Act.put, tA, tZ, tS]
          refine wpAnyP_ready (rs := [3, 7]) (by kernel_rfl) (by simp) ?_
          refine AllReadyP.cons (by simp only [gA, gZ, gS]; rfl) (fun K hK => ?_) ?_
          · go_simp
            (go_at_call 9; refine (impl_eq s t k z p l e b v r x a2x x.src.length c2x a3x x.tsk.length c3x a4x x.sn.length c4x a6x x.at_.length c6x a7x x.ssn.length c7x _ _ (hMx.is.below (belA)) hL HDD).mono ?_; rintro e' p3 ⟨a2, c2, a3, c3, a4, c4, a6, c6, a7, c7, v4, v7, rfl, hM, hW, hS, hbp3⟩)
            (try go_wp2_with fail)
            have szp3 : p1.heap.size ≤ p3.heap.size := hbp3.size
            (try simp at szp3)
            have hB0p3 := (hbp3.block (w.heap.size) (sC)).trans hB0p1
            have hB1p3 := (hbp3.block (w.heap.size + 1) (sC)).trans hB1p1
            have hB2p3 := (hbp3.block (Bx) (sC)).trans hB2p1
            refine hK.out _ _ ?_ (fun hHeld2 => ?_)
            · (try dsimp only); exact ⟨hB0p3, hB1p3, hB2p3⟩
            clear hK K hHeld
            have hHeld := hHeld2
            clear hHeld2
            try simp only [Act.put, tA, tZ, tS]
            refine wpAnyP_take (i := 4) (v := ?_) (by simp only [gA, gZ, gS]; rfl) (by kernel_rfl) (by kernel_rfl) (by kernel_rfl) (by kernel_rfl) (by intro _ _ _ h; exact h) (Or.inl ⟨by rfl, ?_⟩) (by assumption) ?_
            rotate_left
            · (intro w9 hSw; go_simp <;> with_reducible rfl)
            try simp only [Act.put, tA, tZ, tS]
            refine wpAnyP_take (i := 5) (v := ?_) (by simp only [gA, gZ, gS]; rfl) (by kernel_rfl) (by kernel_rfl) (by kernel_rfl) (by kernel_rfl) (by intro _ _ _ h; exact h) (Or.inl ⟨by rfl, ?_⟩) (by assumption) ?_
            rotate_left
            · (intro w9 hSw; go_simp <;> with_reducible rfl)
            try simp only [Act.put, tA, tZ, tS]
            refine wpAnyP_take (i := 6) (v := ?_) (by simp only [gA, gZ, gS]; rfl) (by kernel_rfl) (by kernel_rfl) (by kernel_rfl) (by kernel_rfl) (by intro _ _ _ h; exact h) (Or.inl ⟨by rfl, ?_⟩) (by assumption) ?_
            rotate_left
            · (intro w9 hSw; go_simp <;> with_reducible rfl)
            try simp only [Act.put, tA, tZ, tS]
            refine wpAnyP_ready (rs := [7]) (by kernel_rfl) (by simp) ?_
            refine AllReadyP.cons (by simp only [gA, gZ, gS]; rfl) (fun K hK => ?_) AllReadyP.nil
            go_simp
            refine hK.out _ _ ?_ (fun hHeld2 => ?_)
            · (try dsimp only); exact ⟨(Below.heap_alloc _ _ _ (sC)).trans hB0p3, (Below.heap_alloc _ _ _ (sC)).trans hB1p3, (Below.heap_alloc _ _ _ (sC)).trans hB2p3⟩
            clear hK K hHeld
            have hHeld := hHeld2
            clear hHeld2
            try simp only [Act.put, tA, tZ, tS]
            refine wpAnyP_ready (rs := [8]) (by kernel_rfl) (by simp) ?_
            refine AllReadyP.cons (by simp only [gA, gZ, gS]; rfl) (fun K hK => ?_) AllReadyP.nil
            go_simp
            refine hK.out _ _ ?_ (fun hHeld2 => ?_)
            · (try dsimp only); exact ⟨(Below.heap_alloc _ _ _ (sC)).trans hB0p3, (Below.heap_alloc _ _ _ (sC)).trans hB1p3, (Below.heap_alloc _ _ _ (sC)).trans hB2p3⟩
            clear hK K hHeld
            have hHeld := hHeld2
            clear hHeld2
            try simp only [Act.put, tA, tZ, tS]
            refine wpAnyP_take (i := 9) (v := ?_) (by simp only [gA, gZ, gS]; rfl) (by kernel_rfl) (by kernel_rfl) (by kernel_rfl) (by kernel_rfl) (by intro _ _ _ h; exact h) (Or.inl ⟨by rfl, ?_⟩) (by assumption) ?_
            rotate_left
            · (intro w9 hSw; go_simp <;> with_reducible rfl)
            try simp only [Act.put, tA, tZ, tS]
            refine wpAnyP_done (by kernel_rfl) ?_ _
            go_wp2
            go_meet
            exact ⟨_, a2, c2, a3, c3, a4, c4, a6, c6, a7, c7, v4, v7, rfl, rfl, boxLateK hM hW hS (sC) (belA)⟩
          refine AllReadyP.cons (by simp only [gA, gZ, gS]; rfl) (fun K hK => ?_) AllReadyP.nil
          go_simp
          refine hK.out _ _ ?_ (fun hHeld2 => ?_)
          · (try dsimp only); exact ⟨(Below.heap_alloc _ _ _ (sC)).trans hB0p1, (Below.heap_alloc _ _ _ (sC)).trans hB1p1, (Below.heap_alloc _ _ _ (sC)).trans hB2p1⟩
          clear hK K hHeld
          have hHeld := hHeld2
          clear hHeld2
          try simp only [Act.put, tA, tZ, tS]
          refine wpAnyP_ready (rs := [3]) (by kernel_rfl) (by simp) ?_
          refine AllReadyP.cons (by simp only [gA, gZ, gS]; rfl) (fun K hK => ?_) AllReadyP.nil
          go_simp
          (go_at_call 9; refine (impl_eq s t k z p l e b v r x a2x x.src.length c2x a3x x.tsk.length c3x a4x x.sn.length c4x a6x x.at_.length c6x a7x x.ssn.length c7x _ _ (hMx.is.below (belA)) hL HDD).mono ?_; rintro e' p3 ⟨a2, c2, a3, c3, a4, c4, a6, c6, a7, c7, v4, v7, rfl, hM, hW, hS, hbp3⟩)
          (try go_wp2_with fail)
          have szp3 : (p1.alloc (.cells #[.int .i64 0, .bool false, .slice none 0 0, .slice none 0 0, .slice none 0 0, .int .i64 0, .slice none 0 0, .slice none 0 0] 36)).heap.size ≤ p3.heap.size := hbp3.size
          (try simp at szp3)
          have hB0p3 := (hbp3.block (w.heap.size) (sC)).trans ((Below.heap_alloc _ _ _ (sC)).trans hB0p1)
          have hB1p3 := (hbp3.block (w.heap.size + 1) (sC)).trans ((Below.heap_alloc _ _ _ (sC)).trans hB1p1)
          have hB2p3 := (hbp3.block (Bx) (sC)).trans ((Below.heap_alloc _ _ _ (sC)).trans hB2p1)
          have hZ : p3.heap[p1.heap.size]? = some (.cells #[.int .i64 0, .bool false, .slice none 0 0, .slice none 0 0, .slice none 0 0, .int .i64 0, .slice none 0 0, .slice none 0 0] 36 (0, 0)) := (hbp3.block (p1.heap.size) (sC)).trans (blk_new (by simp))
          refine hK.out _ _ ?_ (fun hHeld2 => ?_)
          · (try dsimp only); exact ⟨hB0p3, hB1p3, hB2p3⟩
          clear hK K hHeld
          have hHeld := hHeld2
          clear hHeld2
          try simp only [Act.put, tA, tZ, tS]
          refine wpAnyP_take (i := 4) (v := ?_) (by simp only [gA, gZ, gS]; rfl) (by kernel_rfl) (by kernel_rfl) (by kernel_rfl) (by kernel_rfl) (by intro _ _ _ h; exact h) (Or.inl ⟨by rfl, ?_⟩) (by assumption) ?_
          rotate_left
          · (intro w9 hSw; go_simp <;> with_reducible rfl)
          try simp only [Act.put, tA, tZ, tS]
          refine wpAnyP_take (i := 5) (v := ?_) (by simp only [gA, gZ, gS]; rfl) (by kernel_rfl) (by kernel_rfl) (by kernel_rfl) (by kernel_rfl) (by intro _ _ _ h; exact h) (Or.inl ⟨by rfl, ?_⟩) (by assumption) ?_
          rotate_left
          · (intro w9 hSw; go_simp <;> with_reducible rfl)
          try simp only [Act.put, tA, tZ, tS]
          refine wpAnyP_take (i := 6) (v := ?_) (by simp only [gA, gZ, gS]; rfl) (by kernel_rfl) (by kernel_rfl) (by kernel_rfl) (by kernel_rfl) (by intro _ _ _ h; exact h) (Or.inl ⟨by rfl, ?_⟩) (by assumption) ?_
          rotate_left
          · (intro w9 hSw; go_simp <;> with_reducible rfl)
          try simp only [Act.put, tA, tZ, tS]
          obtain ⟨⟨zc0, zc1, zc2, zc3, zc4, zc5, zc6, zc7⟩, zF⟩ := (show BoxK p3 (p1.heap.size) 0 false (.slice none 0 0) (.slice none 0 0) (.slice none 0 0) 0 (.slice none 0 0) (.slice none 0 0) from hZ).cells
          have zf0 := zF 0
          have zf1 := zF 1
          have zf2 := zF 2
          have zf3 := zF 3
          have zf4 := zF 4
          have zf5 := zF 5
          have zf6 := zF 6
          have zf7 := zF 7
          clear zF
          refine wpAnyP_ready (rs := [8]) (by kernel_rfl) (by simp) ?_
          refine AllReadyP.cons (by simp only [gA, gZ, gS]; rfl) (fun K hK => ?_) AllReadyP.nil
          go_simp
          refine hK.out _ _ ?_ (fun hHeld2 => ?_)
          · (try dsimp only); exact ⟨((Below.heap_setCell _ _ _ _ (sC)).trans ((Below.heap_setCell _ _ _ _ (sC)).trans ((Below.heap_setCell _ _ _ _ (sC)).trans ((Below.heap_setCell _ _ _ _ (sC)).trans ((Below.heap_setCell _ _ _ _ (sC)).trans ((Below.heap_setCell _ _ _ _ (sC)).trans ((Below.heap_setCell _ _ _ _ (sC)).trans ((Below.heap_setCell _ _ _ _ (sC)).trans hB0p3)))))))), ((Below.heap_setCell _ _ _ _ (sC)).trans ((Below.heap_setCell _ _ _ _ (sC)).trans ((Below.heap_setCell _ _ _ _ (sC)).trans ((Below.heap_setCell _ _ _ _ (sC)).trans ((Below.heap_setCell _ _ _ _ (sC)).trans ((Below.heap_setCell _ _ _ _ (sC)).trans ((Below.heap_setCell _ _ _ _ (sC)).trans ((Below.heap_setCell _ _ _ _ (sC)).trans hB1p3)))))))), ((Below.heap_setCell _ _ _ _ (sC)).trans ((Below.heap_setCell _ _ _ _ (sC)).trans ((Below.heap_setCell _ _ _ _ (sC)).trans ((Below.heap_setCell _ _ _ _ (sC)).trans ((Below.heap_setCell _ _ _ _ (sC)).trans ((Below.heap_setCell _ _ _ _ (sC)).trans ((Below.heap_setCell _ _ _ _ (sC)).trans ((Below.heap_setCell _ _ _ _ (sC)).trans hB2p3))))))))⟩
          clear hK K hHeld
          have hHeld := hHeld2
          clear hHeld2
          try simp only [Act.put, tA, tZ, tS]
          refine wpAnyP_take (i := 9) (v := ?_) (by simp only [gA, gZ, gS]; rfl) (by kernel_rfl) (by kernel_rfl) (by kernel_rfl) (by kernel_rfl) (by intro _ _ _ h; exact h) (Or.inl ⟨by rfl, ?_⟩) (by assumption) ?_
          rotate_left
          · (intro w9 hSw; go_simp <;> with_reducible rfl)
          try simp only [Act.put, tA, tZ, tS]
          refine wpAnyP_done (by kernel_rfl) ?_ _
          go_wp2
          go_meet
          exact ⟨_, a2, c2, a3, c3, a4, c4, a6, c6, a7, c7, v4, v7, rfl, rfl, boxEarlyK hM hW hS (sC) (Below.refl _ _) (Or.inl (sC)) (sC) hZ (belA)⟩
        refine AllReadyP.cons (by simp only [gA, gZ, gS]; rfl) (fun K hK => ?_) AllReadyP.nil
        go_simp
        refine hK.out _ _ ?_ (fun hHeld2 => ?_)
        · (try dsimp only); exact ⟨(Below.heap_alloc _ _ _ (sC)).trans hJb, (Below.heap_alloc _ _ _ (sC)).trans hXb, (Below.heap_alloc _ _ _ (sC)).trans hBb⟩
        clear hK K hHeld
        have hHeld := hHeld2
        clear hHeld2
        try simp only [Act.put, tA, tZ, tS]
        refine wpAnyP_ready (rs := [1]) (by kernel_rfl) (by simp) ?_
        refine AllReadyP.cons (by simp only [gA, gZ, gS]; rfl) (fun K hK => ?_) AllReadyP.nil
        go_simp
        (go_at_call 7; refine (toJob_any _ _ _ _ _ _ _ _ _ _ _).mono ?_; rintro e' p1 ⟨rfl, hbp1⟩)
        (try go_wp2_with fail)
        have szp1 : (wb.drew.alloc (.cells #[.int .i64 0, .bool false, .slice none 0 0, .slice none 0 0, .slice none 0 0, .int .i64 0, .slice none 0 0, .slice none 0 0] 36)).heap.size ≤ p1.heap.size := hbp1.size
        (try simp at szp1)
        have hB0p1 := (hbp1.block (w.heap.size) (sC)).trans ((Below.heap_alloc _ _ _ (sC)).trans hJb)
        have hB1p1 := (hbp1.block (w.heap.size + 1) (sC)).trans ((Below.heap_alloc _ _ _ (sC)).trans hXb)
        have hB2p1 := (hbp1.block (Bx) (sC)).trans ((Below.heap_alloc _ _ _ (sC)).trans hBb)
        have hZ : p1.heap[wb.heap.size]? = some (.cells #[.int .i64 0, .bool false, .slice none 0 0, .slice none 0 0, .slice none 0 0, .int .i64 0, .slice none 0 0, .slice none 0 0] 36 (0, 0)) := (hbp1.block (wb.heap.size) (sC)).trans (blk_new (by simp))
        refine hK.out _ _ ?_ (fun hHeld2 => ?_)
        · (try dsimp only); exact ⟨hB0p1, hB1p1, hB2p1⟩
        clear hK K hHeld
        have hHeld := hHeld2
        clear hHeld2
        try simp only [Act.put, tA, tZ, tS]
        refine wpAnyP_ready (rs := [3]) (by kernel_rfl) (by simp) ?_
        refine AllReadyP.cons (by simp only [gA, gZ, gS]; rfl) (fun K hK => ?_) AllReadyP.nil
        go_simp
        (go_at_call 9; refine (impl_eq s t k z p l e b v r x a2x x.src.length c2x a3x x.tsk.length c3x a4x x.sn.length c4x a6x x.at_.length c6x a7x x.ssn.length c7x _ _ (hMx.is.below (belA)) hL HDD).mono ?_; rintro e' p3 ⟨a2, c2, a3, c3, a4, c4, a6, c6, a7, c7, v4, v7, rfl, hM, hW, hS, hbp3⟩)
        (try go_wp2_with fail)
        have szp3 : p1.heap.size ≤ p3.heap.size := hbp3.size
        (try simp at szp3)
        have hB0p3 := (hbp3.block (w.heap.size) (sC)).trans hB0p1
        have hB1p3 := (hbp3.block (w.heap.size + 1) (sC)).trans hB1p1
        have hB2p3 := (hbp3.block (Bx) (sC)).trans hB2p1
        have hZ : p3.heap[wb.heap.size]? = some (.cells #[.int .i64 0, .bool false, .slice none 0 0, .slice none 0 0, .slice none 0 0, .int .i64 0, .slice none 0 0, .slice none 0 0] 36 (0, 0)) := (hbp3.block (wb.heap.size) (sC)).trans hZ
        refine hK.out _ _ ?_ (fun hHeld2 => ?_)
        · (try dsimp only); exact ⟨hB0p3, hB1p3, hB2p3⟩
        clear hK K hHeld
        have hHeld := hHeld2
        clear hHeld2
        try simp only [Act.put, tA, tZ, tS]
        refine wpAnyP_take (i := 4) (v := ?_) (by simp only [gA, gZ, gS]; rfl) (by kernel_rfl) (by kernel_rfl) (by kernel_rfl) (by kernel_rfl) (by intro _ _ _ h; exact h) (Or.inl ⟨by rfl, ?_⟩) (by assumption) ?_
        rotate_left
        · (intro w9 hSw; go_simp <;> with_reducible rfl)
        try simp only [Act.put, tA, tZ, tS]
        refine wpAnyP_take (i := 5) (v := ?_) (by simp only [gA, gZ, gS]; rfl) (by kernel_rfl) (by kernel_rfl) (by kernel_rfl) (by kernel_rfl) (by intro _ _ _ h; exact h) (Or.inl ⟨by rfl, ?_⟩) (by assumption) ?_
        rotate_left
        · (intro w9 hSw; go_simp <;> with_reducible rfl)
        try simp only [Act.put, tA, tZ, tS]
        refine wpAnyP_take (i := 6) (v := ?_) (by simp only [gA, gZ, gS]; rfl) (by kernel_rfl) (by kernel_rfl) (by kernel_rfl) (by kernel_rfl) (by intro _ _ _ h; exact h) (Or.inl ⟨by rfl, ?_⟩) (by assumption) ?_
        rotate_left
        · (intro w9 hSw; go_simp <;> with_reducible rfl)
        try simp only [Act.put, tA, tZ, tS]
        obtain ⟨⟨zc0, zc1, zc2, zc3, zc4, zc5, zc6, zc7⟩, zF⟩ := (show BoxK p3 (wb.heap.size) 0 false (.slice none 0 0) (.slice none 0 0) (.slice none 0 0) 0 (.slice none 0 0) (.slice none 0 0) from hZ).cells
        have zf0 := zF 0
        have zf1 := zF 1
        have zf2 := zF 2
        have zf3 := zF 3
        have zf4 := zF 4
        have zf5 := zF 5
        have zf6 := zF 6
        have zf7 := zF 7
        clear zF
        refine wpAnyP_ready (rs := [8]) (by kernel_rfl) (by simp) ?_
        refine AllReadyP.cons (by simp only [gA, gZ, gS]; rfl) (fun K hK => ?_) AllReadyP.nil
        go_simp
        refine hK.out _ _ ?_ (fun hHeld2 => ?_)
        · (try dsimp only); exact ⟨((Below.heap_setCell _ _ _ _ (sC)).trans ((Below.heap_setCell _ _ _ _ (sC)).trans ((Below.heap_setCell _ _ _ _ (sC)).trans ((Below.heap_setCell _ _ _ _ (sC)).trans ((Below.heap_setCell _ _ _ _ (sC)).trans ((Below.heap_setCell _ _ _ _ (sC)).trans ((Below.heap_setCell _ _ _ _ (sC)).trans ((Below.heap_setCell _ _ _ _ (sC)).trans hB0p3)))))))), ((Below.heap_setCell _ _ _ _ (sC)).trans ((Below.heap_setCell _ _ _ _ (sC)).trans ((Below.heap_setCell _ _ _ _ (sC)).trans ((Below.heap_setCell _ _ _ _ (sC)).trans ((Below.heap_setCell _ _ _ _ (sC)).trans ((Below.heap_setCell _ _ _ _ (sC)).trans ((Below.heap_setCell _ _ _ _ (sC)).trans ((Below.heap_setCell _ _ _ _ (sC)).trans hB1p3)))))))), ((Below.heap_setCell _ _ _ _ (sC)).trans ((Below.heap_setCell _ _ _ _ (sC)).trans ((Below.heap_setCell _ _ _ _ (sC)).trans ((Below.heap_setCell _ _ _ _ (sC)).trans ((Below.heap_setCell _ _ _ _ (sC)).trans ((Below.heap_setCell _ _ _ _ (sC)).trans ((Below.heap_setCell _ _ _ _ (sC)).trans ((Below.heap_setCell _ _ _ _ (sC)).trans hB2p3))))))))⟩
        clear hK K hHeld
        have hHeld := hHeld2
        clear hHeld2
        try simp only [Act.put, tA, tZ, tS]
        refine wpAnyP_take (i := 9) (v := ?_) (by simp only [gA, gZ, gS]; rfl) (by kernel_rfl) (by kernel_rfl) (by kernel_rfl) (by kernel_rfl) (by intro _ _ _ h; exact h) (Or.inl ⟨by rfl, ?_⟩) (by assumption) ?_
        rotate_left
        · (intro w9 hSw; go_simp <;> with_reducible rfl)
        try simp only [Act.put, tA, tZ, tS]
        refine wpAnyP_done (by kernel_rfl) ?_ _
        go_wp2
        go_meet
        exact ⟨_, a2, c2, a3, c3, a4, c4, a6, c6, a7, c7, v4, v7, rfl, rfl, boxEarlyK hM hW hS (sC) (Below.refl _ _) (Or.inl (sC)) (sC) hZ (belA)⟩
      case rest =>
        rename World => wd
        obtain ⟨Bg, a2g, c2g, a3g, c3g, a4g, c4g, a6g, c6g, a7g, c7g, v4g, v7g, rfl, rfl, Ig, Igbel⟩ := hcut
        have zg := Igbel.size
        have Ixd := Ix.down Igbel
        have hbad : Below wa.heap.size wa wd := bel_trans hbab Igbel
        have Iwd := Iw.down hbad
        obtain ⟨⟨eg0, eg1, eg2, eg3, eg4, eg5, eg6, eg7⟩, egF⟩ := (Ig.box).cells
        clear egF
        obtain ⟨⟨ew0, ew1, ew2, ew3, ew4, ew5, ew6, ew7⟩, ewF⟩ := (Iwd.box).cells
        clear ewF
        have ltg := Ig.box.lt
        have ltw := Iwd.box.lt
        go_wp2_with fail
        refine (eqK_any _ _ DD a2g c2g a3g c3g a4g c4g a6g c6g a7g c7g a2w c2w a3w c3w a4w c4w a6w c6w a7w c7w _ Ig.mem Iwd.mem).mono ?_
        rintro e' we ⟨rfl, hbe⟩
        clear Iwd
        clear eg0 eg1 eg2 eg3 eg4 eg5 eg6 eg7
        clear ew0 ew1 ew2 ew3 ew4 ew5 ew6 ew7
        have hbae : Below wa.heap.size wa we := bel_trans hbad hbe
        have hbde : Below wd.heap.size wd we := hbe
        have ze := hbe.size
        have hJe := (hbae.block (w.heap.size) (by omega)).trans hJa
        have hXe := (hbae.block (w.heap.size + 1) (by omega)).trans hXa
        have Ixe := Ixd.down hbe
        have hBe := Ixe.box
        have hae := ha.below hbae
        go_wp2_with fail
        refine wp_region_P [] (fun W => W.heap[w.heap.size + 1]? = some (.cells #[.int .i64 x.n, .bool x.op, .slice a2 l2 c2, .slice a3 l3 c3, .slice a4 l4 c4, .int .i64 x.sfn, .slice a6 l6 c6, .slice a7 l7 c7] 30 (0, 0)) ∧ W.heap[Bx]? = some (.cells #[.int .i64 x.n, .bool x.op, .slice a2x x.src.length c2x, .slice a3x x.tsk.length c3x, .slice a4x x.sn.length c4x, .int .i64 x.sfn, .slice a6x x.at_.length c6x, .slice a7x x.ssn.length c7x] 36 (0, 0))) (by kernel_rfl) ?_ (fun hHeld => ?_)
        · (try dsimp only); exact ⟨hXe, hBe⟩
        refine wpAnyP_take (i := 0) (v := ?_) (by simp only [gA, gZ, gS]; rfl) (by kernel_rfl) (by kernel_rfl) (by kernel_rfl) (by kernel_rfl) (by intro _ _ _ h; exact h) (Or.inl ⟨by rfl, ?_⟩) (by assumption) ?_
        rotate_left
        · (intro w9 hSw; (try dsimp only at hSw); obtain ⟨q2, q3⟩ := hSw; have cb0 : w9.cell? ⟨Bx, 0, none⟩ = some (.int .i64 x.n) := (by simp [World.cell?, q3, go_sem]); have cb1 : w9.cell? ⟨Bx, 1, none⟩ = some (.bool x.op) := (by simp [World.cell?, q3, go_sem]); have cb2 : w9.cell? ⟨Bx, 2, none⟩ = some (.slice a2x x.src.length c2x) := (by simp [World.cell?, q3, go_sem]); have cb3 : w9.cell? ⟨Bx, 3, none⟩ = some (.slice a3x x.tsk.length c3x) := (by simp [World.cell?, q3, go_sem]); have cb4 : w9.cell? ⟨Bx, 4, none⟩ = some (.slice a4x x.sn.length c4x) := (by simp [World.cell?, q3, go_sem]); have cb5 : w9.cell? ⟨Bx, 5, none⟩ = some (.int .i64 x.sfn) := (by simp [World.cell?, q3, go_sem]); have cb6 : w9.cell? ⟨Bx, 6, none⟩ = some (.slice a6x x.at_.length c6x) := (by simp [World.cell?, q3, go_sem]); have cb7 : w9.cell? ⟨Bx, 7, none⟩ = some (.slice a7x x.ssn.length c7x) := (by simp [World.cell?, q3, go_sem]); go_simp <;> with_reducible rfl)
        try simp only [Act.put, tA, tZ, tS]
        refine wpAnyP_take (i := 1) (v := ?_) (by simp only [gA, gZ, gS]; rfl) (by kernel_rfl) (by kernel_rfl) (by kernel_rfl) (by kernel_rfl) (by intro _ _ _ h; exact h) (Or.inl ⟨by rfl, ?_⟩) (by assumption) ?_
        rotate_left
        · (intro w9 hSw; (try dsimp only at hSw); obtain ⟨q2, q3⟩ := hSw; have cx0 : w9.cell? ⟨w.heap.size + 1, 0, none⟩ = some (.int .i64 x.n) := (by simp [World.cell?, q2, go_sem]); have cx1 : w9.cell? ⟨w.heap.size + 1, 1, none⟩ = some (.bool x.op) := (by simp [World.cell?, q2, go_sem]); have cx2 : w9.cell? ⟨w.heap.size + 1, 2, none⟩ = some (.slice a2 l2 c2) := (by simp [World.cell?, q2, go_sem]); have cx3 : w9.cell? ⟨w.heap.size + 1, 3, none⟩ = some (.slice a3 l3 c3) := (by simp [World.cell?, q2, go_sem]); have cx4 : w9.cell? ⟨w.heap.size + 1, 4, none⟩ = some (.slice a4 l4 c4) := (by simp [World.cell?, q2, go_sem]); have cx5 : w9.cell? ⟨w.heap.size + 1, 5, none⟩ = some (.int .i64 x.sfn) := (by simp [World.cell?, q2, go_sem]); have cx6 : w9.cell? ⟨w.heap.size + 1, 6, none⟩ = some (.slice a6 l6 c6) := (by simp [World.cell?, q2, go_sem]); have cx7 : w9.cell? ⟨w.heap.size + 1, 7, none⟩ = some (.slice a7 l7 c7) := (by simp [World.cell?, q2, go_sem]); go_simp <;> with_reducible rfl)
        try simp only [Act.put, tA, tZ, tS]
        refine wpAnyP_ready (rs := [2]) (by kernel_rfl) (by simp) ?_
        refine AllReadyP.cons (by simp only [gA, gZ, gS]; rfl) (fun K hK => ?_) AllReadyP.nil
        go_simp
        (go_at_call 8; refine ((toCkA_any x a2 l2 c2 a3 l3 c3 a4 l4 c4 a6 l6 c6 a7 l7 c7 _ (hae.below (bel_drew (Below.refl _ _))) hL)).mono ?_; rintro e' wf ⟨a2u, c2u, a3u, c3u, a4u, c4u, a6u, c6u, a7u, c7u, v4u, v7u, rfl, hMu, hWu, hSu, hbf⟩; clear hWu hSu)
        (try go_wp2_with fail)
        have hbef : Below we.heap.size we wf := bel_trans (bel_drew (Below.refl _ _)) hbf
        have zf := hbef.size
        have hXf := (hbef.block (w.heap.size + 1) (by omega)).trans hXe
        have hBf := (hbef.block Bx (by omega)).trans hBe
        refine hK.out _ _ ?_ (fun hHeld2 => ?_)
        · (try dsimp only); exact ⟨hXf, hBf⟩
        clear hK K hHeld
        have hHeld := hHeld2
        clear hHeld2
        try simp only [Act.put, tA, tZ, tS]
        refine wpAnyP_ready (rs := [3]) (by kernel_rfl) (by simp) ?_
        refine AllReadyP.cons (by simp only [gA, gZ, gS]; rfl) (fun K hK => ?_) AllReadyP.nil
        go_simp
        (go_at_call 10; refine (eqK_any _ _ x a2x c2x a3x c3x a4x c4x a6x c6x a7x c7x a2u c2u a3u c3u a4u c4u a6u c6u a7u c7u _ (Ixe.mem.below hbef) hMu).mono ?_; rintro e' wg ⟨rfl, hbg⟩)
        (try go_wp2_with fail)
        have zgg := hbg.size
        have hXg := (hbg.block (w.heap.size + 1) (by omega)).trans hXf
        have hBg := (hbg.block Bx (by omega)).trans hBf
        refine hK.out _ _ ?_ (fun hHeld2 => ?_)
        · (try dsimp only); exact ⟨hXg, hBg⟩
        clear hK K hHeld
        have hHeld := hHeld2
        clear hHeld2
        try simp only [Act.put, tA, tZ, tS]
        refine wpAnyP_take (i := 4) (v := ?_) (by simp only [gA, gZ, gS]; rfl) (by kernel_rfl) (by kernel_rfl) (by kernel_rfl) (by kernel_rfl) (by intro _ _ _ h; exact h) (Or.inl ⟨by rfl, ?_⟩) (by assumption) ?_
        rotate_left
        · (intro w9 hSw; (try dsimp only at hSw); obtain ⟨q2, q3⟩ := hSw; skip; go_simp <;> with_reducible rfl)
        try simp only [Act.put, tA, tZ, tS]
        refine wpAnyP_done (by kernel_rfl) ?_ _
        clear hHeld
        have hbeg : Below we.heap.size we wg := bel_trans hbef hbg
        have hbdg : Below wd.heap.size wd wg := bel_trans hbe hbeg
        have hbag : Below wa.heap.size wa wg := bel_trans hbae hbeg
        have Ixg := Ixe.down hbeg
        have Igg := Ig.down hbdg
        clear hXf hBf hXg hBg hMu hbef hbf hbg hae Ixe
        obtain ⟨⟨ex0, ex1, ex2, ex3, ex4, ex5, ex6, ex7⟩, exF⟩ := (Ixg.box).cells
        clear exF
        have ltx := Ixg.box.lt
        obtain ⟨KX, hKX⟩ : ∃ KX, kCk x.src.length x.tsk.length v4x x.at_.length v7x = KX := ⟨_, rfl⟩
        have hKX0 : 0 ≤ KX := by rw [← hKX]; exact kCk_pos Ixg.wr
        have HKX := hide hKX
        clear hKX
        go_wp2_with fail
        refine (markCk_any x.n x.op x.sfn a2x x.src.length c2x a3x x.tsk.length c3x a4x x.sn.length c4x a6x x.at_.length c6x a7x x.ssn.length c7x v4x v7x _ Ixg.wr).mono ?_
        rw [unhide HKX]
        rintro e' wh ⟨rfl, _, hKh⟩
        clear ex0 ex1 ex2 ex3 ex4 ex5 ex6 ex7
        have zh := hKh.size
        have hbah : Below wa.heap.size wa wh := Kept.bel hbag hbag.size hKh (fun b hb => Ix.ge b hb)
        have xlt : ∀ b, CkS a2x x.src.length a3x x.tsk.length a4x x.sn.length a6x x.at_.length a7x x.ssn.length v4x v7x b → b < wb.heap.size := fun b k => Ix.wr.ltS b k
        have hgo : ∀ b, wb.heap.size ≤ b → b < wg.heap.size → wh.heap[b]? = wg.heap[b]? := fun b h1 h2 => hKh.blk b h2 (fun k => by have := xlt b k; omega)
        have Iwh := Iw.down hbah
        have Igh := Igg.over hgo
        clear Igg Ixg hKh
        obtain ⟨⟨eg0, eg1, eg2, eg3, eg4, eg5, eg6, eg7⟩, egF⟩ := (Igh.box).cells
        clear egF
        obtain ⟨⟨ew0, ew1, ew2, ew3, ew4, ew5, ew6, ew7⟩, ewF⟩ := (Iwh.box).cells
        clear ewF
        have ltg2 := Igh.box.lt
        have ltw2 := Iwh.box.lt
        have hKXn : ¬ KX < 0 := by omega
        have hKXd : decide (KX < 0) = false := decide_eq_false hKXn
        go_wp2_with fail
        refine (eqK_any _ _ DD a2g c2g a3g c3g a4g c4g a6g c6g a7g c7g a2w c2w a3w c3w a4w c4w a6w c6w a7w c7w _ Igh.mem Iwh.mem).mono ?_
        rintro e' wi ⟨rfl, hbi⟩
        clear eg0 eg1 eg2 eg3 eg4 eg5 eg6 eg7
        clear ew0 ew1 ew2 ew3 ew4 ew5 ew6 ew7
        have Igi := Igh.down hbi
        have hbai : Below wa.heap.size wa wi := bel_trans hbah hbi
        clear Igh Iwh
        obtain ⟨⟨eg0, eg1, eg2, eg3, eg4, eg5, eg6, eg7⟩, egF⟩ := (Igi.box).cells
        clear egF
        have ltg3 := Igi.box.lt
        obtain ⟨KT, hKT⟩ : ∃ KT, kCk DD.src.length DD.tsk.length v4g DD.at_.length v7g = KT := ⟨_, rfl⟩
        have hKT0 : 0 ≤ KT := by rw [← hKT]; exact kCk_pos Igi.wr
        have HKT := hide hKT
        clear hKT
        go_wp2_with fail
        refine (markCk_any DD.n DD.op DD.sfn a2g DD.src.length c2g a3g DD.tsk.length c3g a4g DD.sn.length c4g a6g DD.at_.length c6g a7g DD.ssn.length c7g v4g v7g _ Igi.wr).mono ?_
        rw [unhide HKT]
        rintro e' wj ⟨rfl, hMk, hKj⟩
        clear eg0 eg1 eg2 eg3 eg4 eg5 eg6 eg7
        have zj := hKj.size
        have hbaj : Below wa.heap.size wa wj := Kept.bel hbai hbai.size hKj (fun b hb => Nat.le_trans hbab.size (Igi.ge b hb))
        have hXj : BoxK wj Bg DD.n DD.op (.slice a2g DD.src.length c2g) (.slice a3g DD.tsk.length c3g) (.slice a4g DD.sn.length c4g) DD.sfn (.slice a6g DD.at_.length c6g) (.slice a7g DD.ssn.length c7g) := (hKj.blk Bg Igi.box.lt Igi.ne).trans Igi.box
        have hltj := hide (fun b (k : CkS a2g DD.src.length a3g DD.tsk.length a4g DD.sn.length a6g DD.at_.length a7g DD.ssn.length v4g v7g b) => Nat.lt_of_lt_of_le (Igi.wr.ltS b k) zj)
        have HMk := hide hMk
        clear hMk hKj
        obtain ⟨⟨eg0, eg1, eg2, eg3, eg4, eg5, eg6, eg7⟩, egF⟩ := (hXj).cells
        clear egF
        have ltg4 := hXj.lt
        go_wp2_with fail
        refine (heldCk_any DD.n DD.op DD.sfn a2g DD.src.length c2g a3g DD.tsk.length c3g a4g DD.sn.length c4g a6g DD.at_.length c6g a7g DD.ssn.length c7g v4g v7g _ (unhide HMk) (unhide hltj)).mono ?_
        rw [unhide HKT]
        rintro e' wm ⟨rfl, hbm⟩
        clear eg0 eg1 eg2 eg3 eg4 eg5 eg6 eg7
        have zm := hbm.size
        have hbam : Below wa.heap.size wa wm := bel_trans hbaj hbm
        have HMm := hide ((unhide HMk).keep (fun b k => hbm.block b (unhide hltj b k)))
        have hltm : Hid (∀ b, CkS a2g DD.src.length a3g DD.tsk.length a4g DD.sn.length a6g DD.at_.length a7g DD.ssn.length v4g v7g b → b < wm.heap.size) := hide (fun b k => Nat.lt_of_lt_of_le (unhide hltj b k) zm)
        have hXm := hXj.keep hbm
        have ltgm := hXm.lt
        have hKTn : ¬ KT < 0 := by omega
        have hKTd : decide (KT < 0) = false := decide_eq_false hKTn
        have hJm := (hbam.block (w.heap.size) (by omega)).trans hJa
        have hXXm := (hbam.block (w.heap.size + 1) (by omega)).trans hXa
        have ham := ha.below hbam
        have zam := hbam.size
        go_wp2_with fail
        go_cut [14, 15] (fun pv bv W => ∃ (Bx : Nat) (a2 : Option Addr) (c2 : Nat) (a3 : Option Addr) (c3 : Nat) (a4 : Option Addr) (c4 : Nat) (a6 : Option Addr) (c6 : Nat) (a7 : Option Addr) (c7 : Nat) (v4 v7 : List SnV), pv = .pointer (some ⟨Bx, 0, none⟩) ∧ bv = .bool CC ∧ InBox wm DD Bx a2 c2 a3 c3 a4 c4 a6 c6 a7 c7 v4 v7 W ∧ Below wm.heap.size wm W)
        case first =>
          refine wp_region_P [] (fun W => W.heap[w.heap.size]? = some (.cells #[.int .i64 s, .int .i64 t, .int .i64 k, .int .i64 z, .int .i64 p, .int .i64 l, .int .i64 e, .bool b, .int .i64 v, .int .i64 r] 23 (0, 0)) ∧ W.heap[w.heap.size + 1]? = some (.cells #[.int .i64 x.n, .bool x.op, .slice a2 l2 c2, .slice a3 l3 c3, .slice a4 l4 c4, .int .i64 x.sfn, .slice a6 l6 c6, .slice a7 l7 c7] 30 (0, 0))) (by kernel_rfl) ?_ (fun hHeld => ?_)
          · (try dsimp only); exact ⟨hJm, hXXm⟩
          refine wpAnyP_take (i := 0) (v := ?_) (by simp only [gA, gZ, gS]; rfl) (by kernel_rfl) (by kernel_rfl) (by kernel_rfl) (by kernel_rfl) (by intro _ _ _ h; exact h) (Or.inl ⟨by rfl, ?_⟩) (by assumption) ?_
          rotate_left
          · (intro w9 hSw; (try dsimp only at hSw); obtain ⟨q1, q2⟩ := hSw; have cj0 : w9.cell? ⟨w.heap.size, 0, none⟩ = some (.int .i64 s) := (by simp [World.cell?, q1, go_sem]); have cj1 : w9.cell? ⟨w.heap.size, 1, none⟩ = some (.int .i64 t) := (by simp [World.cell?, q1, go_sem]); have cj2 : w9.cell? ⟨w.heap.size, 2, none⟩ = some (.int .i64 k) := (by simp [World.cell?, q1, go_sem]); have cj3 : w9.cell? ⟨w.heap.size, 3, none⟩ = some (.int .i64 z) := (by simp [World.cell?, q1, go_sem]); have cj4 : w9.cell? ⟨w.heap.size, 4, none⟩ = some (.int .i64 p) := (by simp [World.cell?, q1, go_sem]); have cj5 : w9.cell? ⟨w.heap.size, 5, none⟩ = some (.int .i64 l) := (by simp [World.cell?, q1, go_sem]); have cj6 : w9.cell? ⟨w.heap.size, 6, none⟩ = some (.int .i64 e) := (by simp [World.cell?, q1, go_sem]); have cj7 : w9.cell? ⟨w.heap.size, 7, none⟩ = some (.bool b) := (by simp [World.cell?, q1, go_sem]); have cj8 : w9.cell? ⟨w.heap.size, 8, none⟩ = some (.int .i64 v) := (by simp [World.cell?, q1, go_sem]); have cj9 : w9.cell? ⟨w.heap.size, 9, none⟩ = some (.int .i64 r) := (by simp [World.cell?, q1, go_sem]); go_simp <;> with_reducible rfl)
          try simp only [Act.put, tA, tZ, tS]
          refine wpAnyP_take (i := 2) (v := ?_) (by simp only [gA, gZ, gS]; rfl) (by kernel_rfl) (by kernel_rfl) (by kernel_rfl) (by kernel_rfl) (by intro _ _ _ h; exact h) (Or.inl ⟨by rfl, ?_⟩) (by assumption) ?_
          rotate_left
          · (intro w9 hSw; (try dsimp only at hSw); obtain ⟨q1, q2⟩ := hSw; have cx0 : w9.cell? ⟨w.heap.size + 1, 0, none⟩ = some (.int .i64 x.n) := (by simp [World.cell?, q2, go_sem]); have cx1 : w9.cell? ⟨w.heap.size + 1, 1, none⟩ = some (.bool x.op) := (by simp [World.cell?, q2, go_sem]); have cx2 : w9.cell? ⟨w.heap.size + 1, 2, none⟩ = some (.slice a2 l2 c2) := (by simp [World.cell?, q2, go_sem]); have cx3 : w9.cell? ⟨w.heap.size + 1, 3, none⟩ = some (.slice a3 l3 c3) := (by simp [World.cell?, q2, go_sem]); have cx4 : w9.cell? ⟨w.heap.size + 1, 4, none⟩ = some (.slice a4 l4 c4) := (by simp [World.cell?, q2, go_sem]); have cx5 : w9.cell? ⟨w.heap.size + 1, 5, none⟩ = some (.int .i64 x.sfn) := (by simp [World.cell?, q2, go_sem]); have cx6 : w9.cell? ⟨w.heap.size + 1, 6, none⟩ = some (.slice a6 l6 c6) := (by simp [World.cell?, q2, go_sem]); have cx7 : w9.cell? ⟨w.heap.size + 1, 7, none⟩ = some (.slice a7 l7 c7) := (by simp [World.cell?, q2, go_sem]); go_simp <;> with_reducible rfl)
          try simp only [Act.put, tA, tZ, tS]
          refine wpAnyP_ready (rs := [1, 8]) (by kernel_rfl) (by simp) ?_
          refine AllReadyP.cons (by simp only [gA, gZ, gS]; rfl) (fun K hK => ?_) ?_
          · go_simp
            (go_at_call 7; refine (toJob_any _ _ _ _ _ _ _ _ _ _ _).mono ?_; rintro e' p1 ⟨rfl, hbp1⟩)
            (try go_wp2_with fail)
            have szp1 : wm.drew.heap.size ≤ p1.heap.size := hbp1.size
            (try simp at szp1)
            have hB0p1 := (hbp1.block (w.heap.size) (sC)).trans hJm
            have hB1p1 := (hbp1.block (w.heap.size + 1) (sC)).trans hXXm
            refine hK.out _ _ ?_ (fun hHeld2 => ?_)
            · (try dsimp only); exact ⟨hB0p1, hB1p1⟩
            clear hK K hHeld
            have hHeld := hHeld2
            clear hHeld2
            try simp only [Act.put, tA, tZ, tS]
            refine wpAnyP_ready (rs := [3, 8]) (by kernel_rfl) (by simp) ?_
            refine AllReadyP.cons (by simp only [gA, gZ, gS]; rfl) (fun K hK => ?_) ?_
            · go_simp
              (go_at_call 8; refine ((toCkA_any x a2 l2 c2 a3 l3 c3 a4 l4 c4 a6 l6 c6 a7 l7 c7 _ (ham.below (belA)) hL)).mono ?_; rintro e' p2 ⟨a2y, c2y, a3y, c3y, a4y, c4y, a6y, c6y, a7y, c7y, v4y, v7y, rfl, hMy, hWy, hSy, hbp2⟩; clear hWy hSy)
              (try go_wp2_with fail)
              have szp2 : p1.heap.size ≤ p2.heap.size := hbp2.size
              (try simp at szp2)
              have hB0p2 := (hbp2.block (w.heap.size) (sC)).trans hB0p1
              have hB1p2 := (hbp2.block (w.heap.size + 1) (sC)).trans hB1p1
              refine hK.out _ _ ?_ (fun hHeld2 => ?_)
              · (try dsimp only); exact ⟨hB0p2, hB1p2⟩
              clear hK K hHeld
              have hHeld := hHeld2
              clear hHeld2
              try simp only [Act.put, tA, tZ, tS]
              refine wpAnyP_ready (rs := [4, 8]) (by kernel_rfl) (by simp) ?_
              refine AllReadyP.cons (by simp only [gA, gZ, gS]; rfl) (fun K hK => ?_) ?_
              · go_simp
                (go_at_call 9; refine (impl_eq s t k z p l e b v r x a2y x.src.length c2y a3y x.tsk.length c3y a4y x.sn.length c4y a6y x.at_.length c6y a7y x.ssn.length c7y _ _ (hMy.is.below (belA)) hL HDD).mono ?_; rintro e' p3 ⟨a2, c2, a3, c3, a4, c4, a6, c6, a7, c7, v4, v7, rfl, hM, hW, hS, hbp3⟩)
                (try go_wp2_with fail)
                have szp3 : p2.heap.size ≤ p3.heap.size := hbp3.size
                (try simp at szp3)
                have hB0p3 := (hbp3.block (w.heap.size) (sC)).trans hB0p2
                have hB1p3 := (hbp3.block (w.heap.size + 1) (sC)).trans hB1p2
                refine hK.out _ _ ?_ (fun hHeld2 => ?_)
                · (try dsimp only); exact ⟨hB0p3, hB1p3⟩
                clear hK K hHeld
                have hHeld := hHeld2
                clear hHeld2
                try simp only [Act.put, tA, tZ, tS]
                refine wpAnyP_take (i := 5) (v := ?_) (by simp only [gA, gZ, gS]; rfl) (by kernel_rfl) (by kernel_rfl) (by kernel_rfl) (by kernel_rfl) (by intro _ _ _ h; exact h) (Or.inl ⟨by rfl, ?_⟩) (by assumption) ?_
                rotate_left
                · (intro w9 hSw; go_simp <;> with_reducible rfl)
                try simp only [Act.put, tA, tZ, tS]
                refine wpAnyP_take (i := 6) (v := ?_) (by simp only [gA, gZ, gS]; rfl) (by kernel_rfl) (by kernel_rfl) (by kernel_rfl) (by kernel_rfl) (by intro _ _ _ h; exact h) (Or.inl ⟨by rfl, ?_⟩) (by assumption) ?_
                rotate_left
                · (intro w9 hSw; go_simp <;> with_reducible rfl)
                try simp only [Act.put, tA, tZ, tS]
                refine wpAnyP_take (i := 7) (v := ?_) (by simp only [gA, gZ, gS]; rfl) (by kernel_rfl) (by kernel_rfl) (by kernel_rfl) (by kernel_rfl) (by intro _ _ _ h; exact h) (Or.inl ⟨by rfl, ?_⟩) (by assumption) ?_
                rotate_left
                · (intro w9 hSw; go_simp <;> with_reducible rfl)
                try simp only [Act.put, tA, tZ, tS]
                refine wpAnyP_ready (rs := [8]) (by kernel_rfl) (by simp) ?_
                refine AllReadyP.cons (by simp only [gA, gZ, gS]; rfl) (fun K hK => ?_) AllReadyP.nil
                go_simp
                refine hK.out _ _ ?_ (fun hHeld2 => ?_)
                · (try dsimp only); exact ⟨(Below.heap_alloc _ _ _ (sC)).trans hB0p3, (Below.heap_alloc _ _ _ (sC)).trans hB1p3⟩
                clear hK K hHeld
                have hHeld := hHeld2
                clear hHeld2
                try simp only [Act.put, tA, tZ, tS]
                refine wpAnyP_ready (rs := [9]) (by kernel_rfl) (by simp) ?_
                refine AllReadyP.cons (by simp only [gA, gZ, gS]; rfl) (fun K hK => ?_) AllReadyP.nil
                go_simp
                refine hK.out _ _ ?_ (fun hHeld2 => ?_)
                · (try dsimp only); exact ⟨(Below.heap_alloc _ _ _ (sC)).trans hB0p3, (Below.heap_alloc _ _ _ (sC)).trans hB1p3⟩
                clear hK K hHeld
                have hHeld := hHeld2
                clear hHeld2
                try simp only [Act.put, tA, tZ, tS]
                refine wpAnyP_take (i := 10) (v := ?_) (by simp only [gA, gZ, gS]; rfl) (by kernel_rfl) (by kernel_rfl) (by kernel_rfl) (by kernel_rfl) (by intro _ _ _ h; exact h) (Or.inl ⟨by rfl, ?_⟩) (by assumption) ?_
                rotate_left
                · (intro w9 hSw; go_simp <;> with_reducible rfl)
                try simp only [Act.put, tA, tZ, tS]
                refine wpAnyP_done (by kernel_rfl) ?_ _
                go_wp2
                go_meet
                exact ⟨_, a2, c2, a3, c3, a4, c4, a6, c6, a7, c7, v4, v7, rfl, rfl, boxLateK hM hW hS (sC) (belA)⟩
              refine AllReadyP.cons (by simp only [gA, gZ, gS]; rfl) (fun K hK => ?_) AllReadyP.nil
              go_simp
              refine hK.out _ _ ?_ (fun hHeld2 => ?_)
              · (try dsimp only); exact ⟨(Below.heap_alloc _ _ _ (sC)).trans hB0p2, (Below.heap_alloc _ _ _ (sC)).trans hB1p2⟩
              clear hK K hHeld
              have hHeld := hHeld2
              clear hHeld2
              try simp only [Act.put, tA, tZ, tS]
              refine wpAnyP_ready (rs := [4]) (by kernel_rfl) (by simp) ?_
              refine AllReadyP.cons (by simp only [gA, gZ, gS]; rfl) (fun K hK => ?_) AllReadyP.nil
              go_simp
              (go_at_call 9; refine (impl_eq s t k z p l e b v r x a2y x.src.length c2y a3y x.tsk.length c3y a4y x.sn.length c4y a6y x.at_.length c6y a7y x.ssn.length c7y _ _ (hMy.is.below (belA)) hL HDD).mono ?_; rintro e' p3 ⟨a2, c2, a3, c3, a4, c4, a6, c6, a7, c7, v4, v7, rfl, hM, hW, hS, hbp3⟩)
              (try go_wp2_with fail)
              have szp3 : (p2.alloc (.cells #[.int .i64 0, .bool false, .slice none 0 0, .slice none 0 0, .slice none 0 0, .int .i64 0, .slice none 0 0, .slice none 0 0] 36)).heap.size ≤ p3.heap.size := hbp3.size
              (try simp at szp3)
              have hB0p3 := (hbp3.block (w.heap.size) (sC)).trans ((Below.heap_alloc _ _ _ (sC)).trans hB0p2)
              have hB1p3 := (hbp3.block (w.heap.size + 1) (sC)).trans ((Below.heap_alloc _ _ _ (sC)).trans hB1p2)
              have hZ : p3.heap[p2.heap.size]? = some (.cells #[.int .i64 0, .bool false, .slice none 0 0, .slice none 0 0, .slice none 0 0, .int .i64 0, .slice none 0 0, .slice none 0 0] 36 (0, 0)) := (hbp3.block (p2.heap.size) (sC)).trans (blk_new (by simp))
              refine hK.out _ _ ?_ (fun hHeld2 => ?_)
              · (try dsimp only); exact ⟨hB0p3, hB1p3⟩
              clear hK K hHeld
              have hHeld := hHeld2
              clear hHeld2
              try simp only [Act.put, tA, tZ, tS]
              refine wpAnyP_take (i := 5) (v := ?_) (by simp only [gA, gZ, gS]; rfl) (by kernel_rfl) (by kernel_rfl) (by kernel_rfl) (by kernel_rfl) (by intro _ _ _ h; exact h) (Or.inl ⟨by rfl, ?_⟩) (by assumption) ?_
              rotate_left
              · (intro w9 hSw; go_simp <;> with_reducible rfl)
              try simp only [Act.put, tA, tZ, tS]
              refine wpAnyP_take (i := 6) (v := ?_) (by simp only [gA, gZ, gS]; rfl) (by kernel_rfl) (by kernel_rfl) (by kernel_rfl) (by kernel_rfl) (by intro _ _ _ h; exact h) (Or.inl ⟨by rfl, ?_⟩) (by assumption) ?_
              rotate_left
              · (intro w9 hSw; go_simp <;> with_reducible rfl)
              try simp only [Act.put, tA, tZ, tS]
              refine wpAnyP_take (i := 7) (v := ?_) (by simp only [gA, gZ, gS]; rfl) (by kernel_rfl) (by kernel_rfl) (by kernel_rfl) (by kernel_rfl) (by intro _ _ _ h; exact h) (Or.inl ⟨by rfl, ?_⟩) (by assumption) ?_
              rotate_left
              · (intro w9 hSw; go_simp <;> with_reducible rfl)
              try simp only [Act.put, tA, tZ, tS]
              obtain ⟨⟨zc0, zc1, zc2, zc3, zc4, zc5, zc6, zc7⟩, zF⟩ := (show BoxK p3 (p2.heap.size) 0 false (.slice none 0 0) (.slice none 0 0) (.slice none 0 0) 0 (.slice none 0 0) (.slice none 0 0) from hZ).cells
              have zf0 := zF 0
              have zf1 := zF 1
              have zf2 := zF 2
              have zf3 := zF 3
              have zf4 := zF 4
              have zf5 := zF 5
              have zf6 := zF 6
              have zf7 := zF 7
              clear zF
              refine wpAnyP_ready (rs := [9]) (by kernel_rfl) (by simp) ?_
              refine AllReadyP.cons (by simp only [gA, gZ, gS]; rfl) (fun K hK => ?_) AllReadyP.nil
              go_simp
              refine hK.out _ _ ?_ (fun hHeld2 => ?_)
              · (try dsimp only); exact ⟨((Below.heap_setCell _ _ _ _ (sC)).trans ((Below.heap_setCell _ _ _ _ (sC)).trans ((Below.heap_setCell _ _ _ _ (sC)).trans ((Below.heap_setCell _ _ _ _ (sC)).trans ((Below.heap_setCell _ _ _ _ (sC)).trans ((Below.heap_setCell _ _ _ _ (sC)).trans ((Below.heap_setCell _ _ _ _ (sC)).trans ((Below.heap_setCell _ _ _ _ (sC)).trans hB0p3)))))))), ((Below.heap_setCell _ _ _ _ (sC)).trans ((Below.heap_setCell _ _ _ _ (sC)).trans ((Below.heap_setCell _ _ _ _ (sC)).trans ((Below.heap_setCell _ _ _ _ (sC)).trans ((Below.heap_setCell _ _ _ _ (sC)).trans ((Below.heap_setCell _ _ _ _ (sC)).trans ((Below.heap_setCell _ _ _ _ (sC)).trans ((Below.heap_setCell _ _ _ _ (sC)).trans hB1p3))))))))⟩
              clear hK K hHeld
              have hHeld := hHeld2
              clear hHeld2
              try simp only [Act.put, tA, tZ, tS]
              refine wpAnyP_take (i := 10) (v := ?_) (by simp only [gA, gZ, gS]; rfl) (by kernel_rfl) (by kernel_rfl) (by kernel_rfl) (by kernel_rfl) (by intro _ _ _ h; exact h) (Or.inl ⟨by rfl, ?_⟩) (by assumption) ?_
              rotate_left
              · (intro w9 hSw; go_simp <;> with_reducible rfl)
              try simp only [Act.put, tA, tZ, tS]
              refine wpAnyP_done (by kernel_rfl) ?_ _
              go_wp2
              go_meet
              exact ⟨_, a2, c2, a3, c3, a4, c4, a6, c6, a7, c7, v4, v7, rfl, rfl, boxEarlyK hM hW hS (sC) (Below.refl _ _) (Or.inl (sC)) (sC) hZ (belA)⟩
            refine AllReadyP.cons (by simp only [gA, gZ, gS]; rfl) (fun K hK => ?_) AllReadyP.nil
            go_simp
            refine hK.out _ _ ?_ (fun hHeld2 => ?_)
            · (try dsimp only); exact ⟨(Below.heap_alloc _ _ _ (sC)).trans hB0p1, (Below.heap_alloc _ _ _ (sC)).trans hB1p1⟩
            clear hK K hHeld
            have hHeld := hHeld2
            clear hHeld2
            try simp only [Act.put, tA, tZ, tS]
            refine wpAnyP_ready (rs := [3]) (by kernel_rfl) (by simp) ?_
            refine AllReadyP.cons (by simp only [gA, gZ, gS]; rfl) (fun K hK => ?_) AllReadyP.nil
            go_simp
            (go_at_call 8; refine ((toCkA_any x a2 l2 c2 a3 l3 c3 a4 l4 c4 a6 l6 c6 a7 l7 c7 _ (ham.below (belA)) hL)).mono ?_; rintro e' p2 ⟨a2y, c2y, a3y, c3y, a4y, c4y, a6y, c6y, a7y, c7y, v4y, v7y, rfl, hMy, hWy, hSy, hbp2⟩; clear hWy hSy)
            (try go_wp2_with fail)
            have szp2 : (p1.alloc (.cells #[.int .i64 0, .bool false, .slice none 0 0, .slice none 0 0, .slice none 0 0, .int .i64 0, .slice none 0 0, .slice none 0 0] 36)).heap.size ≤ p2.heap.size := hbp2.size
            (try simp at szp2)
            have hB0p2 := (hbp2.block (w.heap.size) (sC)).trans ((Below.heap_alloc _ _ _ (sC)).trans hB0p1)
            have hB1p2 := (hbp2.block (w.heap.size + 1) (sC)).trans ((Below.heap_alloc _ _ _ (sC)).trans hB1p1)
            have hZ : p2.heap[p1.heap.size]? = some (.cells #[.int .i64 0, .bool false, .slice none 0 0, .slice none 0 0, .slice none 0 0, .int .i64 0, .slice none 0 0, .slice none 0 0] 36 (0, 0)) := (hbp2.block (p1.heap.size) (sC)).trans (blk_new (by simp))
            refine hK.out _ _ ?_ (fun hHeld2 => ?_)
            · (try dsimp only); exact ⟨hB0p2, hB1p2⟩
            clear hK K hHeld
            have hHeld := hHeld2
            clear hHeld2
            try simp only [Act.put, tA, tZ, tS]
            refine wpAnyP_ready (rs := [4]) (by kernel_rfl) (by simp) ?_
            refine AllReadyP.cons (by simp only [gA, gZ, gS]; rfl) (fun K hK => ?_) AllReadyP.nil
            go_simp
            (go_at_call 9; refine (impl_eq s t k z p l e b v r x a2y x.src.length c2y a3y x.tsk.length c3y a4y x.sn.length c4y a6y x.at_.length c6y a7y x.ssn.length c7y _ _ (hMy.is.below (belA)) hL HDD).mono ?_; rintro e' p3 ⟨a2, c2, a3, c3, a4, c4, a6, c6, a7, c7, v4, v7, rfl, hM, hW, hS, hbp3⟩)
            (try go_wp2_with fail)
            have szp3 : p2.heap.size ≤ p3.heap.size := hbp3.size
            (try simp at szp3)
            have hB0p3 := (hbp3.block (w.heap.size) (sC)).trans hB0p2
            have hB1p3 := (hbp3.block (w.heap.size + 1) (sC)).trans hB1p2
            have hZ : p3.heap[p1.heap.size]? = some (.cells #[.int .i64 0, .bool false, .slice none 0 0, .slice none 0 0, .slice none 0 0, .int .i64 0, .slice none 0 0, .slice none 0 0] 36 (0, 0)) := (hbp3.block (p1.heap.size) (sC)).trans hZ
            refine hK.out _ _ ?_ (fun hHeld2 => ?_)
            · (try dsimp only); exact ⟨hB0p3, hB1p3⟩
            clear hK K hHeld
            have hHeld := hHeld2
            clear hHeld2
            try simp only [Act.put, tA, tZ, tS]
            refine wpAnyP_take (i := 5) (v := ?_) (by simp only [gA, gZ, gS]; rfl) (by kernel_rfl) (by kernel_rfl) (by kernel_rfl) (by kernel_rfl) (by intro _ _ _ h; exact h) (Or.inl ⟨by rfl, ?_⟩) (by assumption) ?_
            rotate_left
            · (intro w9 hSw; go_simp <;> with_reducible rfl)
            try simp only [Act.put, tA, tZ, tS]
            refine wpAnyP_take (i := 6) (v := ?_) (by simp only [gA, gZ, gS]; rfl) (by kernel_rfl) (by kernel_rfl) (by kernel_rfl) (by kernel_rfl) (by intro _ _ _ h; exact h) (Or.inl ⟨by rfl, ?_⟩) (by assumption) ?_
            rotate_left
            · (intro w9 hSw; go_simp <;> with_reducible rfl)
            try simp only [Act.put, tA, tZ, tS]
            refine wpAnyP_take (i := 7) (v := ?_) (by simp only [gA, gZ, gS]; rfl) (by kernel_rfl) (by kernel_rfl) (by kernel_rfl) (by kernel_rfl) (by intro _ _ _ h; exact h) (Or.inl ⟨by rfl, ?_⟩) (by assumption) ?_
            rotate_left
            · (intro w9 hSw; go_simp <;> with_reducible rfl)
            try simp only [Act.put, tA, tZ, tS]
            obtain ⟨⟨zc0, zc1, zc2, zc3, zc4, zc5, zc6, zc7⟩, zF⟩ := (show BoxK p3 (p1.heap.size) 0 false (.slice none 0 0) (.slice none 0 0) (.slice none 0 0) 0 (.slice none 0 0) (.slice none 0 0) from hZ).cells
            have zf0 := zF 0
            have zf1 := zF 1
            have zf2 := zF 2
            have zf3 := zF 3
            have zf4 := zF 4
            have zf5 := zF 5
            have zf6 := zF 6
            have zf7 := zF 7
            clear zF
            refine wpAnyP_ready (rs := [9]) (by kernel_rfl) (by simp) ?_
            refine AllReadyP.cons (by simp only [gA, gZ, gS]; rfl) (fun K hK => ?_) AllReadyP.nil
            go_simp
            refine hK.out _ _ ?_ (fun hHeld2 => ?_)
            · (try dsimp only); exact ⟨((Below.heap_setCell _ _ _ _ (sC)).trans ((Below.heap_setCell _ _ _ _ (sC)).trans ((Below.heap_setCell _ _ _ _ (sC)).trans ((Below.heap_setCell _ _ _ _ (sC)).trans ((Below.heap_setCell _ _ _ _ (sC)).trans ((Below.heap_setCell _ _ _ _ (sC)).trans ((Below.heap_setCell _ _ _ _ (sC)).trans ((Below.heap_setCell _ _ _ _ (sC)).trans hB0p3)))))))), ((Below.heap_setCell _ _ _ _ (sC)).trans ((Below.heap_setCell _ _ _ _ (sC)).trans ((Below.heap_setCell _ _ _ _ (sC)).trans ((Below.heap_setCell _ _ _ _ (sC)).trans ((Below.heap_setCell _ _ _ _ (sC)).trans ((Below.heap_setCell _ _ _ _ (sC)).trans ((Below.heap_setCell _ _ _ _ (sC)).trans ((Below.heap_setCell _ _ _ _ (sC)).trans hB1p3))))))))⟩
            clear hK K hHeld
            have hHeld := hHeld2
            clear hHeld2
            try simp only [Act.put, tA, tZ, tS]
            refine wpAnyP_take (i := 10) (v := ?_) (by simp only [gA, gZ, gS]; rfl) (by kernel_rfl) (by kernel_rfl) (by kernel_rfl) (by kernel_rfl) (by intro _ _ _ h; exact h) (Or.inl ⟨by rfl, ?_⟩) (by assumption) ?_
            rotate_left
            · (intro w9 hSw; go_simp <;> with_reducible rfl)
            try simp only [Act.put, tA, tZ, tS]
            refine wpAnyP_done (by kernel_rfl) ?_ _
            go_wp2
            go_meet
            exact ⟨_, a2, c2, a3, c3, a4, c4, a6, c6, a7, c7, v4, v7, rfl, rfl, boxEarlyK hM hW hS (sC) (Below.refl _ _) (Or.inl (sC)) (sC) hZ (belA)⟩
          refine AllReadyP.cons (by simp only [gA, gZ, gS]; rfl) (fun K hK => ?_) AllReadyP.nil
          go_simp
          refine hK.out _ _ ?_ (fun hHeld2 => ?_)
          · (try dsimp only); exact ⟨(Below.heap_alloc _ _ _ (sC)).trans hJm, (Below.heap_alloc _ _ _ (sC)).trans hXXm⟩
          clear hK K hHeld
          have hHeld := hHeld2
          clear hHeld2
          try simp only [Act.put, tA, tZ, tS]
          refine wpAnyP_ready (rs := [1]) (by kernel_rfl) (by simp) ?_
          refine AllReadyP.cons (by simp only [gA, gZ, gS]; rfl) (fun K hK => ?_) AllReadyP.nil
          go_simp
          (go_at_call 7; refine (toJob_any _ _ _ _ _ _ _ _ _ _ _).mono ?_; rintro e' p1 ⟨rfl, hbp1⟩)
          (try go_wp2_with fail)
          have szp1 : (wm.drew.alloc (.cells #[.int .i64 0, .bool false, .slice none 0 0, .slice none 0 0, .slice none 0 0, .int .i64 0, .slice none 0 0, .slice none 0 0] 36)).heap.size ≤ p1.heap.size := hbp1.size
          (try simp at szp1)
          have hB0p1 := (hbp1.block (w.heap.size) (sC)).trans ((Below.heap_alloc _ _ _ (sC)).trans hJm)
          have hB1p1 := (hbp1.block (w.heap.size + 1) (sC)).trans ((Below.heap_alloc _ _ _ (sC)).trans hXXm)
          have hZ : p1.heap[wm.heap.size]? = some (.cells #[.int .i64 0, .bool false, .slice none 0 0, .slice none 0 0, .slice none 0 0, .int .i64 0, .slice none 0 0, .slice none 0 0] 36 (0, 0)) := (hbp1.block (wm.heap.size) (sC)).trans (blk_new (by simp))
          refine hK.out _ _ ?_ (fun hHeld2 => ?_)
          · (try dsimp only); exact ⟨hB0p1, hB1p1⟩
          clear hK K hHeld
          have hHeld := hHeld2
          clear hHeld2
          try simp only [Act.put, tA, tZ, tS]
          refine wpAnyP_ready (rs := [3]) (by kernel_rfl) (by simp) ?_
          refine AllReadyP.cons (by simp only [gA, gZ, gS]; rfl) (fun K hK => ?_) AllReadyP.nil
          go_simp
          (go_at_call 8; refine ((toCkA_any x a2 l2 c2 a3 l3 c3 a4 l4 c4 a6 l6 c6 a7 l7 c7 _ (ham.below (belA)) hL)).mono ?_; rintro e' p2 ⟨a2y, c2y, a3y, c3y, a4y, c4y, a6y, c6y, a7y, c7y, v4y, v7y, rfl, hMy, hWy, hSy, hbp2⟩; clear hWy hSy)
          (try go_wp2_with fail)
          have szp2 : p1.heap.size ≤ p2.heap.size := hbp2.size
          (try simp at szp2)
          have hB0p2 := (hbp2.block (w.heap.size) (sC)).trans hB0p1
          have hB1p2 := (hbp2.block (w.heap.size + 1) (sC)).trans hB1p1
          have hZ : p2.heap[wm.heap.size]? = some (.cells #[.int .i64 0, .bool false, .slice none 0 0, .slice none 0 0, .slice none 0 0, .int .i64 0, .slice none 0 0, .slice none 0 0] 36 (0, 0)) := (hbp2.block (wm.heap.size) (sC)).trans hZ
          refine hK.out _ _ ?_ (fun hHeld2 => ?_)
          · (try dsimp only); exact ⟨hB0p2, hB1p2⟩
          clear hK K hHeld
          have hHeld := hHeld2
          clear hHeld2
          try simp only [Act.put, tA, tZ, tS]
          refine wpAnyP_ready (rs := [4]) (by kernel_rfl) (by simp) ?_
          refine AllReadyP.cons (by simp only [gA, gZ, gS]; rfl) (fun K hK => ?_) AllReadyP.nil
          go_simp
          (go_at_call 9; refine (impl_eq s t k z p l e b v r x a2y x.src.length c2y a3y x.tsk.length c3y a4y x.sn.length c4y a6y x.at_.length c6y a7y x.ssn.length c7y _ _ (hMy.is.below (belA)) hL HDD).mono ?_; rintro e' p3 ⟨a2, c2, a3, c3, a4, c4, a6, c6, a7, c7, v4, v7, rfl, hM, hW, hS, hbp3⟩)
          (try go_wp2_with fail)
          have szp3 : p2.heap.size ≤ p3.heap.size := hbp3.size
          (try simp at szp3)
          have hB0p3 := (hbp3.block (w.heap.size) (sC)).trans hB0p2
          have hB1p3 := (hbp3.block (w.heap.size + 1) (sC)).trans hB1p2
          have hZ : p3.heap[wm.heap.size]? = some (.cells #[.int .i64 0, .bool false, .slice none 0 0, .slice none 0 0, .slice none 0 0, .int .i64 0, .slice none 0 0, .slice none 0 0] 36 (0, 0)) := (hbp3.block (wm.heap.size) (sC)).trans hZ
          refine hK.out _ _ ?_ (fun hHeld2 => ?_)
          · (try dsimp only); exact ⟨hB0p3, hB1p3⟩
          clear hK K hHeld
          have hHeld := hHeld2
          clear hHeld2
          try simp only [Act.put, tA, tZ, tS]
          refine wpAnyP_take (i := 5) (v := ?_) (by simp only [gA, gZ, gS]; rfl) (by kernel_rfl) (by kernel_rfl) (by kernel_rfl) (by kernel_rfl) (by intro _ _ _ h; exact h) (Or.inl ⟨by rfl, ?_⟩) (by assumption) ?_
          rotate_left
          · (intro w9 hSw; go_simp <;> with_reducible rfl)
          try simp only [Act.put, tA, tZ, tS]
          refine wpAnyP_take (i := 6) (v := ?_) (by simp only [gA, gZ, gS]; rfl) (by kernel_rfl) (by kernel_rfl) (by kernel_rfl) (by kernel_rfl) (by intro _ _ _ h; exact h) (Or.inl ⟨by rfl, ?_⟩) (by assumption) ?_
          rotate_left
          · (intro w9 hSw; go_simp <;> with_reducible rfl)
          try simp only [Act.put, tA, tZ, tS]
          refine wpAnyP_take (i := 7) (v := ?_) (by simp only [gA, gZ, gS]; rfl) (by kernel_rfl) (by kernel_rfl) (by kernel_rfl) (by kernel_rfl) (by intro _ _ _ h; exact h) (Or.inl ⟨by rfl, ?_⟩) (by assumption) ?_
          rotate_left
          · (intro w9 hSw; go_simp <;> with_reducible rfl)
          try simp only [Act.put, tA, tZ, tS]
          obtain ⟨⟨zc0, zc1, zc2, zc3, zc4, zc5, zc6, zc7⟩, zF⟩ := (show BoxK p3 (wm.heap.size) 0 false (.slice none 0 0) (.slice none 0 0) (.slice none 0 0) 0 (.slice none 0 0) (.slice none 0 0) from hZ).cells
          have zf0 := zF 0
          have zf1 := zF 1
          have zf2 := zF 2
          have zf3 := zF 3
          have zf4 := zF 4
          have zf5 := zF 5
          have zf6 := zF 6
          have zf7 := zF 7
          clear zF
          refine wpAnyP_ready (rs := [9]) (by kernel_rfl) (by simp) ?_
          refine AllReadyP.cons (by simp only [gA, gZ, gS]; rfl) (fun K hK => ?_) AllReadyP.nil
          go_simp
          refine hK.out _ _ ?_ (fun hHeld2 => ?_)
          · (try dsimp only); exact ⟨((Below.heap_setCell _ _ _ _ (sC)).trans ((Below.heap_setCell _ _ _ _ (sC)).trans ((Below.heap_setCell _ _ _ _ (sC)).trans ((Below.heap_setCell _ _ _ _ (sC)).trans ((Below.heap_setCell _ _ _ _ (sC)).trans ((Below.heap_setCell _ _ _ _ (sC)).trans ((Below.heap_setCell _ _ _ _ (sC)).trans ((Below.heap_setCell _ _ _ _ (sC)).trans hB0p3)))))))), ((Below.heap_setCell _ _ _ _ (sC)).trans ((Below.heap_setCell _ _ _ _ (sC)).trans ((Below.heap_setCell _ _ _ _ (sC)).trans ((Below.heap_setCell _ _ _ _ (sC)).trans ((Below.heap_setCell _ _ _ _ (sC)).trans ((Below.heap_setCell _ _ _ _ (sC)).trans ((Below.heap_setCell _ _ _ _ (sC)).trans ((Below.heap_setCell _ _ _ _ (sC)).trans hB1p3))))))))⟩
          clear hK K hHeld
          have hHeld := hHeld2
          clear hHeld2
          try simp only [Act.put, tA, tZ, tS]
          refine wpAnyP_take (i := 10) (v := ?_) (by simp only [gA, gZ, gS]; rfl) (by kernel_rfl) (by kernel_rfl) (by kernel_rfl) (by kernel_rfl) (by intro _ _ _ h; exact h) (Or.inl ⟨by rfl, ?_⟩) (by assumption) ?_
          rotate_left
          · (intro w9 hSw; go_simp <;> with_reducible rfl)
          try simp only [Act.put, tA, tZ, tS]
          refine wpAnyP_done (by kernel_rfl) ?_ _
          go_wp2
          go_meet
          exact ⟨_, a2, c2, a3, c3, a4, c4, a6, c6, a7, c7, v4, v7, rfl, rfl, boxEarlyK hM hW hS (sC) (Below.refl _ _) (Or.inl (sC)) (sC) hZ (belA)⟩
        case rest =>
          rename World => wq
          obtain ⟨Bh, a2h, c2h, a3h, c3h, a4h, c4h, a6h, c6h, a7h, c7h, v4h, v7h, rfl, rfl, Ih, Ihbel⟩ := hcut
          have hbaq : Below wa.heap.size wa wq := bel_trans hbam Ihbel
          have Iwq := Iw.down hbaq
          obtain ⟨⟨eg0, eg1, eg2, eg3, eg4, eg5, eg6, eg7⟩, egF⟩ := (Ih.box).cells
          clear egF
          obtain ⟨⟨ew0, ew1, ew2, ew3, ew4, ew5, ew6, ew7⟩, ewF⟩ := (Iwq.box).cells
          clear ewF
          have lth := Ih.box.lt
          have ltwq := Iwq.box.lt
          go_wp2_with fail
          refine (eqK_any _ _ DD a2h c2h a3h c3h a4h c4h a6h c6h a7h c7h a2w c2w a3w c3w a4w c4w a6w c6w a7w c7w _ Ih.mem Iwq.mem).mono ?_
          rintro e' ws ⟨rfl, hbs⟩
          clear eg0 eg1 eg2 eg3 eg4 eg5 eg6 eg7
          clear ew0 ew1 ew2 ew3 ew4 ew5 ew6 ew7
          have hbms : Below wm.heap.size wm ws := bel_trans Ihbel hbs
          obtain ⟨⟨eg0, eg1, eg2, eg3, eg4, eg5, eg6, eg7⟩, egF⟩ := (hXm.keep hbms).cells
          clear egF
          have ltgs := (hXm.keep hbms).lt
          go_wp2_with fail
          refine (heldCk_any DD.n DD.op DD.sfn a2g DD.src.length c2g a3g DD.tsk.length c3g a4g DD.sn.length c4g a6g DD.at_.length c6g a7g DD.ssn.length c7g v4g v7g _ ((unhide HMm).keep (fun b k => hbms.block b (unhide hltm b k))) (fun b k => Nat.lt_of_lt_of_le (unhide hltm b k) hbms.size)).mono ?_
          rw [unhide HKT]
          rintro e' wt ⟨rfl, hbt⟩
          have hbF : Below w.heap.size w wt := bel_trans hbF1 (bel_trans Iwbel (bel_trans hbam (bel_trans hbms hbt)))
          go_wp2
          go_ret
          exact ⟨rfl, hbF⟩
end Go.Proofs.YtbjhpiannjepkaaGreat
