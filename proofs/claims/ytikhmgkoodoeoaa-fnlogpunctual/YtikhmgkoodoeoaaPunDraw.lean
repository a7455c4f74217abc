/- Proved here: a log, and how late a record may be, are drawn of a code. -/
import Derived.Test.YtikhmgkoodoeoaaDrawAnyB
namespace Go.Proofs.Ytikhmgkoodoeoaa
open Go.ChangeShapes Go.WideShapes Go.ChangeAt Go.RowKit
set_option linter.unusedVariables false

theorem el8p (x0 : Int) (bx01 : (-9223372036854775808) ≤ x0) (bx02 : x0 ≤ 1001) (x1 : Int) (bx11 : (-9223372036854775808) ≤ x1) (bx12 : x1 ≤ 1001) (x2 : Int) (bx21 : (-9223372036854775808) ≤ x2) (bx22 : x2 ≤ 1001) (x3 : Int) (bx31 : (-9223372036854775808) ≤ x3) (bx32 : x3 ≤ 1001) (y : Int) (h3 : 0 ≤ y) (h4 : y < 8) : ∃ t : Int, (#[Value.int .i64 x0, .int .i64 x1, .int .i64 x2, .int .i64 x3, .int .i64 1000, .int .i64 1001, .int .i64 (-1), .int .i64 (-9223372036854775808)] : Array Value)[y.toNat]? = some (.int .i64 t) ∧ ([Value.int .i64 x0, .int .i64 x1, .int .i64 x2, .int .i64 x3, .int .i64 1000, .int .i64 1001, .int .i64 (-1), .int .i64 (-9223372036854775808)] : List Value)[y.toNat]? = some (.int .i64 t) ∧ (∀ h, ([Value.int .i64 x0, .int .i64 x1, .int .i64 x2, .int .i64 x3, .int .i64 1000, .int .i64 1001, .int .i64 (-1), .int .i64 (-9223372036854775808)] : List Value)[y.toNat]'h = .int .i64 t) ∧ (-9223372036854775808) ≤ t ∧ t ≤ 1001 := by
  have : y = 0 ∨ y = 1 ∨ y = 2 ∨ y = 3 ∨ y = 4 ∨ y = 5 ∨ y = 6 ∨ y = 7 := by omega
  rcases this with rfl | rfl | rfl | rfl | rfl | rfl | rfl | rfl
  · exact ⟨x0, rfl, rfl, fun _ => rfl, by omega, by omega⟩
  · exact ⟨x1, rfl, rfl, fun _ => rfl, by omega, by omega⟩
  · exact ⟨x2, rfl, rfl, fun _ => rfl, by omega, by omega⟩
  · exact ⟨x3, rfl, rfl, fun _ => rfl, by omega, by omega⟩
  · exact ⟨1000, rfl, rfl, fun _ => rfl, by omega, by omega⟩
  · exact ⟨1001, rfl, rfl, fun _ => rfl, by omega, by omega⟩
  · exact ⟨(-1), rfl, rfl, fun _ => rfl, by omega, by omega⟩
  · exact ⟨(-9223372036854775808), rfl, rfl, fun _ => rfl, by omega, by omega⟩
theorem el2p  (y : Int) (h3 : 0 ≤ y) (h4 : y < 2) : ∃ t : Int, (#[Value.int .i64 9223372036854775807, .int .i64 (-9223372036854775808)] : Array Value)[y.toNat]? = some (.int .i64 t) ∧ ([Value.int .i64 9223372036854775807, .int .i64 (-9223372036854775808)] : List Value)[y.toNat]? = some (.int .i64 t) ∧ (∀ h, ([Value.int .i64 9223372036854775807, .int .i64 (-9223372036854775808)] : List Value)[y.toNat]'h = .int .i64 t) ∧ (-9223372036854775808) ≤ t ∧ t ≤ 9223372036854775807 := by
  have : y = 0 ∨ y = 1 := by omega
  rcases this with rfl | rfl
  · exact ⟨9223372036854775807, rfl, rfl, fun _ => rfl, by omega, by omega⟩
  · exact ⟨(-9223372036854775808), rfl, rfl, fun _ => rfl, by omega, by omega⟩
theorem own_itsS {W : World} {B c : Nat} {a : Option Addr} {n : Nat} {xs : List It} (h : OwnIts W B (.slice a n c) xs) (hl : xs.length ≤ 41) : Its W a xs.length xs ∧ xs.length ≤ c := by
  obtain ⟨a1, c1, hv, hI⟩ := own_its h (by unfold maxLen; omega)
  simp only [Value.slice.injEq] at hv
  obtain ⟨rfl, rfl, rfl⟩ := hv
  refine ⟨hI, ?_⟩
  rcases h.2 with ⟨h', h0⟩ | ⟨g, cap, cur, h', _, _, hc, _⟩
  · omega
  · simp only [Value.slice.injEq] at h'
    omega
theorem flat_setT (xs : List It) (k : Nat) (x : It) (t : Int) (hx : xs[k]? = some x) : (flat xs).set (k * 5 + 1) (.int .i64 t) = flat (xs.set k ⟨x.q, t, x.k, x.v, x.n⟩) := by
  induction xs generalizing k with
  | nil => simp at hx
  | cons y r ih =>
    have hf : flat (y :: r) = y.cells ++ flat r := rfl
    cases k with
    | zero => simp at hx; subst hx; rfl
    | succ k =>
      have hf2 : flat (y :: r.set k ⟨x.q, t, x.k, x.v, x.n⟩) = y.cells ++ flat (r.set k ⟨x.q, t, x.k, x.v, x.n⟩) := rfl
      have hl : y.cells.length = 5 := rfl
      rw [List.set_cons_succ, hf, hf2, ← ih k (by simpa using hx), List.set_append_right _ _ (by rw [hl]; omega), hl, show (k + 1) * 5 + 1 - 5 = k * 5 + 1 by omega]
theorem own_putT {W : World} {B g cp n k : Nat} {xs : List It} {x : It} (h : OwnIts W B (.slice (some ⟨g, 0, none⟩) n cp) xs) (hn : xs.length = n) (hx : xs[k]? = some x) (t : Int) : OwnIts (W.setCell ⟨g, k * 5 + 1, none⟩ (.int .i64 t)) B (.slice (some ⟨g, 0, none⟩) (xs.set k ⟨x.q, t, x.k, x.v, x.n⟩).length cp) (xs.set k ⟨x.q, t, x.k, x.v, x.n⟩) := by
  subst hn
  have hl : (xs.set k ⟨x.q, t, x.k, x.v, x.n⟩).length = xs.length := by simp
  unfold OwnIts
  rw [hl, ← flat_setT xs k x t hx]
  exact (World.ownsRow.stored h _ _).1
theorem kp_dr (R : Nat) (w : World) : Kp R w w.drew := ⟨(Below.refl _ _).drew, fun _ _ _ => rfl⟩
/-- Times that are ints. -/
def TOk (xs : List It) : Prop := ∀ x ∈ xs, -9223372036854775808 ≤ x.t ∧ x.t ≤ 9223372036854775807
theorem BdL.tok {xs : List It} (h : BdL xs) : TOk xs := fun x hx => by have := (h x hx).1; omega
theorem BdL.tokset {xs : List It} {k : Nat} {q t kk v n : Int} (h : BdL xs) (ht : -9223372036854775808 ≤ t ∧ t ≤ 9223372036854775807) : TOk (xs.set k ⟨q, t, kk, v, n⟩) := fun x hx => by
  rcases List.mem_or_eq_of_mem_set hx with h1 | rfl
  · exact h.tok x h1
  · exact ht
/-- A log, and a number, that are drawn of a code. -/
def PunD (w : World) (e : Ending) (w' : World) : Prop := ∃ (a1 : Option Addr) (cap1 : Nat) (xs : List It) (late : Int), e = .returned (.tuple #[.slice a1 xs.length cap1, .int .i64 late]) ∧ Its w' a1 xs.length xs ∧ xs.length ≤ cap1 ∧ xs.length ≤ 41 ∧ TOk xs ∧ (-9223372036854775808 ≤ late ∧ late ≤ 1001) ∧ Below w.heap.size w w'

set_option linter.unusedSimpArgs false in
set_option maxRecDepth 20000 in
set_option maxHeartbeats 8000000 in
theorem drawpun_any (a : Option Addr) (len cap : Nat) (w : World) (hlc : len ≤ cap) (hlm : len ≤ 1048576) (hb : BytesAt w a len) (hl : ∀ g o, a = some ⟨g, o, none⟩ → 0 < len → g < w.heap.size) (hn : a = none → cap = 0) : Calls Try.prog 5 #[.slice a len cap] w fun e w' => PunD w e w' := by
  go_enter Try.func5, Try.ntmps5
  go_wp2_with fail
  refine (open_any a len cap _ hlc hlm hb hl hn).mono ?_
  clear hb hl hn hlc hlm
  rintro e w1 ⟨R, len, cap, rfl, h1, h2, hb1, hr⟩
  go_wp2_with fail
  refine (anyB_any R a len cap 0 8 w1 (by omega) (by omega) (by omega) h2 hr).mono ?_
  rintro e w2 ⟨v, xs, rfl, hO, hBd, hl, k2, p2, hp2, r2'⟩
  have r2 := hide r2'
  have hR2 : R < w2.heap.size := by have h9 := k2.low.size; omega
  have hbF0 : Below w.heap.size w w2 := hb1.trans (k2.low.mono h1)
  have hz0 := hbF0.size
  clear r2' hr hb1
  rcases Nat.eq_zero_or_pos xs.length with h0 | hpos
  · obtain ⟨a2, c2, rfl⟩ := own_slice hO
    have HO := hide hO
    clear hO
    have hbF := hbF0
    have hd0 : decide ((0 : Int) < (xs.length : Int)) = false := decide_eq_false (by omega)
    go_wp2_with fail
    refine wp_region_held_drew (S := (fun W => R < W.heap.size)) (by kernel_rfl) ?_ (fun hHeld => ?_)
    · (try dsimp only); first | omega | (simp; omega)
    refine wpAnyH_take (i := 0) (v := ?_) (by simp only [List.getElem?_toArray, List.getElem?_cons_zero, List.getElem?_cons_succ]; rfl) (by kernel_rfl) (by kernel_rfl) (by kernel_rfl) (by intro _ _ _ h; exact h) (Or.inl ⟨by rfl, ?_⟩) (by assumption) ?_
    rotate_left
    · (intro w9 hSw; (try dsimp only at hSw); go_simp <;> with_reducible rfl)
    try simp only [Act.put, List.setIfInBounds_toArray, List.set_cons_zero, List.set_cons_succ]
    refine wpAnyH_take (i := 1) (v := ?_) (by simp only [List.getElem?_toArray, List.getElem?_cons_zero, List.getElem?_cons_succ]; rfl) (by kernel_rfl) (by kernel_rfl) (by kernel_rfl) (by intro _ _ _ h; exact h) (Or.inl ⟨by rfl, ?_⟩) (by assumption) ?_
    rotate_left
    · (intro w9 hSw; (try dsimp only at hSw); go_simp <;> with_reducible rfl)
    try simp only [Act.put, List.setIfInBounds_toArray, List.set_cons_zero, List.set_cons_succ]
    refine wpAnyH_take (i := 3) (v := ?_) (by simp only [List.getElem?_toArray, List.getElem?_cons_zero, List.getElem?_cons_succ]; rfl) (by kernel_rfl) (by kernel_rfl) (by kernel_rfl) (by intro _ _ _ h; exact h) (Or.inl ⟨by rfl, ?_⟩) (by assumption) ?_
    rotate_left
    · (intro w9 hSw; (try dsimp only at hSw); go_simp <;> with_reducible rfl)
    try simp only [Act.put, List.setIfInBounds_toArray, List.set_cons_zero, List.set_cons_succ]
    refine wpAnyH_take (i := 5) (v := ?_) (by simp only [List.getElem?_toArray, List.getElem?_cons_zero, List.getElem?_cons_succ]; rfl) (by kernel_rfl) (by kernel_rfl) (by kernel_rfl) (by intro _ _ _ h; exact h) (Or.inl ⟨by rfl, ?_⟩) (by assumption) ?_
    rotate_left
    · (intro w9 hSw; (try dsimp only at hSw); go_simp <;> with_reducible rfl)
    try simp only [Act.put, List.setIfInBounds_toArray, List.set_cons_zero, List.set_cons_succ]
    refine wpAnyH_take (i := 7) (v := ?_) (by simp only [List.getElem?_toArray, List.getElem?_cons_zero, List.getElem?_cons_succ]; rfl) (by kernel_rfl) (by kernel_rfl) (by kernel_rfl) (by intro _ _ _ h; exact h) (Or.inl ⟨by rfl, ?_⟩) (by assumption) ?_
    rotate_left
    · (intro w9 hSw; (try dsimp only at hSw); go_simp <;> with_reducible rfl)
    try simp only [Act.put, List.setIfInBounds_toArray, List.set_cons_zero, List.set_cons_succ]
    refine wpAnyH_take (i := 10) (v := ?_) (by simp only [List.getElem?_toArray, List.getElem?_cons_zero, List.getElem?_cons_succ]; rfl) (by kernel_rfl) (by kernel_rfl) (by kernel_rfl) (by intro _ _ _ h; exact h) (Or.inl ⟨by rfl, ?_⟩) (by assumption) ?_
    rotate_left
    · (intro w9 hSw; (try dsimp only at hSw); go_simp <;> with_reducible rfl)
    try simp only [Act.put, List.setIfInBounds_toArray, List.set_cons_zero, List.set_cons_succ]
    refine wpAnyH_ready (rs := [2]) (by kernel_rfl) (by simp) ?_
    refine AllReadyH.cons (by simp only [List.getElem?_toArray, List.getElem?_cons_zero, List.getElem?_cons_succ]; rfl) (fun K hK => ?_) AllReadyH.nil
    go_simp
    (go_at_call 18; (with_reducible refine (pick_any R a len cap p2 14 _ (by omega) (by omega) ((unhide r2).kpS (by first | omega | (simp; omega)) (by repeat (first | (with_reducible exact Below.refl _ _) | (with_reducible refine Below.setCell ?_ (by first | (simp; omega) | omega) _) | (with_reducible refine up_alloc ?_ (by first | omega | (simp; omega)) _) | (with_reducible refine Below.drew ?_))))).mono ?_); rintro e v0 ⟨x0, rfl, bx01, bx02, kv0, qv0⟩; have rv0 := hide (qv0 (by omega)); clear qv0; have hRv0 : R < v0.heap.size := (by have h9 := kv0.low.size; (try simp at h9); omega))
    (try go_wp2_with fail)
    refine hK.out _ _ ?_ (fun hHeld2 => ?_)
    · (try dsimp only); omega
    clear hK K hHeld
    have hHeld := hHeld2
    clear hHeld2
    try simp only [Act.put, List.setIfInBounds_toArray, List.set_cons_zero, List.set_cons_succ]
    refine wpAnyH_ready (rs := [4]) (by kernel_rfl) (by simp) ?_
    refine AllReadyH.cons (by simp only [List.getElem?_toArray, List.getElem?_cons_zero, List.getElem?_cons_succ]; rfl) (fun K hK => ?_) AllReadyH.nil
    go_simp
    (go_at_call 18; (with_reducible refine (pick_any R a len cap (p2 + 1) 14 _ (by omega) (by omega) (unhide rv0)).mono ?_); rintro e v1 ⟨x1, rfl, bx11, bx12, kv1, qv1⟩; have rv1 := hide (qv1 (by omega)); clear qv1; have hRv1 : R < v1.heap.size := (by have h9 := kv1.low.size; (try simp at h9); omega))
    (try go_wp2_with fail)
    refine hK.out _ _ ?_ (fun hHeld2 => ?_)
    · (try dsimp only); omega
    clear hK K hHeld
    have hHeld := hHeld2
    clear hHeld2
    try simp only [Act.put, List.setIfInBounds_toArray, List.set_cons_zero, List.set_cons_succ]
    refine wpAnyH_ready (rs := [6]) (by kernel_rfl) (by simp) ?_
    refine AllReadyH.cons (by simp only [List.getElem?_toArray, List.getElem?_cons_zero, List.getElem?_cons_succ]; rfl) (fun K hK => ?_) AllReadyH.nil
    go_simp
    (go_at_call 18; (with_reducible refine (pick_any R a len cap (p2 + 2) 14 _ (by omega) (by omega) (unhide rv1)).mono ?_); rintro e v2 ⟨x2, rfl, bx21, bx22, kv2, qv2⟩; have rv2 := hide (qv2 (by omega)); clear qv2; have hRv2 : R < v2.heap.size := (by have h9 := kv2.low.size; (try simp at h9); omega))
    (try go_wp2_with fail)
    refine hK.out _ _ ?_ (fun hHeld2 => ?_)
    · (try dsimp only); omega
    clear hK K hHeld
    have hHeld := hHeld2
    clear hHeld2
    try simp only [Act.put, List.setIfInBounds_toArray, List.set_cons_zero, List.set_cons_succ]
    refine wpAnyH_ready (rs := [8]) (by kernel_rfl) (by simp) ?_
    refine AllReadyH.cons (by simp only [List.getElem?_toArray, List.getElem?_cons_zero, List.getElem?_cons_succ]; rfl) (fun K hK => ?_) AllReadyH.nil
    go_simp
    (go_at_call 18; (with_reducible refine (pick_any R a len cap (p2 + 3) 14 _ (by omega) (by omega) (unhide rv2)).mono ?_); rintro e v3 ⟨x3, rfl, bx31, bx32, kv3, qv3⟩; have rv3 := hide (qv3 (by omega)); clear qv3; have hRv3 : R < v3.heap.size := (by have h9 := kv3.low.size; (try simp at h9); omega))
    (try go_wp2_with fail)
    refine hK.out _ _ ?_ (fun hHeld2 => ?_)
    · (try dsimp only); omega
    clear hK K hHeld
    have hHeld := hHeld2
    clear hHeld2
    try simp only [Act.put, List.setIfInBounds_toArray, List.set_cons_zero, List.set_cons_succ]
    have kA : Kp R w2 v3 := ((((kp_dr R _).trans kv0).trans kv1).trans kv2).trans kv3
    refine wpAnyH_ready (rs := [9, 11]) (by kernel_rfl) (by simp) ?_
    refine AllReadyH.cons (by simp only [List.getElem?_toArray, List.getElem?_cons_zero, List.getElem?_cons_succ]; rfl) (fun K hK => ?_) ?_
    · go_simp
      refine hK.out _ _ ?_ (fun hHeld2 => ?_)
      · (try dsimp only); (first | omega | (simp; omega))
      clear hK K hHeld
      have hHeld := hHeld2
      clear hHeld2
      try simp only [Act.put, List.setIfInBounds_toArray, List.set_cons_zero, List.set_cons_succ]
      refine wpAnyH_ready (rs := [11]) (by kernel_rfl) (by simp) ?_
      refine AllReadyH.cons (by simp only [List.getElem?_toArray, List.getElem?_cons_zero, List.getElem?_cons_succ]; rfl) (fun K hK => ?_) AllReadyH.nil
      go_simp
      (go_at_call 18; (with_reducible refine (pick_any R a len cap (p2 + 4) 8 _ (by omega) (by omega) ((unhide rv3).kpS hRv3 (by repeat (first | (with_reducible exact Below.refl _ _) | (with_reducible refine Below.setCell ?_ (by first | (simp; omega) | omega) _) | (with_reducible refine up_alloc ?_ (by first | omega | (simp; omega)) _) | (with_reducible refine Below.drew ?_))))).mono ?_); rintro e v4 ⟨y, rfl, by1, by2, kv4, qv4⟩; have rv4 := hide (qv4 (by omega)); clear qv4; have hRv4 : R < v4.heap.size := (by have h9 := kv4.low.size; (try simp at h9); omega))
      (try go_wp2_with fail)
      refine hK.out _ _ ?_ (fun hHeld2 => ?_)
      · (try dsimp only); omega
      clear hK K hHeld
      have hHeld := hHeld2
      clear hHeld2
      try simp only [Act.put, List.setIfInBounds_toArray, List.set_cons_zero, List.set_cons_succ]
      obtain ⟨lt, hl0, hl1, hl2, bl1, bl2⟩ := el8p x0 (by omega) (by omega) x1 (by omega) (by omega) x2 (by omega) (by omega) x3 (by omega) (by omega) y by1 by2
      have hcl : v4.cell? ⟨v3.heap.size, y.toNat, none⟩ = some (.int .i64 lt) := (kv4.cell (by simp) (by omega)).trans (by simp [go_sem, *])
      have kB : Kp R w2 v4 := kA.trans ((kp_alloc hRv3 (Kp.refl _ _) _).trans kv4)
      refine wpAnyH_take (i := 14) (v := ?_) (by simp only [List.getElem?_toArray, List.getElem?_cons_zero, List.getElem?_cons_succ]; rfl) (by kernel_rfl) (by kernel_rfl) (by kernel_rfl) (by intro _ _ _ h; exact h) (Or.inl ⟨by rfl, ?_⟩) (by assumption) ?_
      rotate_left
      · (intro w9 hSw; (try dsimp only at hSw); go_simp <;> with_reducible rfl)
      try simp only [Act.put, List.setIfInBounds_toArray, List.set_cons_zero, List.set_cons_succ]
      refine wpAnyH_take (i := 12) (v := ?_) (by simp only [List.getElem?_toArray, List.getElem?_cons_zero, List.getElem?_cons_succ]; rfl) (by kernel_rfl) (by kernel_rfl) (by kernel_rfl) (by intro _ _ _ h; exact h) (Or.inl ⟨by rfl, ?_⟩) (by assumption) ?_
      rotate_left
      · (intro w9 hSw; (try dsimp only at hSw); go_simp <;> with_reducible rfl)
      try simp only [Act.put, List.setIfInBounds_toArray, List.set_cons_zero, List.set_cons_succ]
      refine wpAnyH_ready (rs := [13]) (by kernel_rfl) (by simp) ?_
      refine AllReadyH.cons (by simp only [List.getElem?_toArray, List.getElem?_cons_zero, List.getElem?_cons_succ]; rfl) (fun K hK => ?_) AllReadyH.nil
      go_simp
      refine hK.out _ _ ?_ (fun hHeld2 => ?_)
      · (try dsimp only); (first | omega | (simp; omega))
      clear hK K hHeld
      have hHeld := hHeld2
      clear hHeld2
      try simp only [Act.put, List.setIfInBounds_toArray, List.set_cons_zero, List.set_cons_succ]
      refine wpAnyH_take (i := 15) (v := ?_) (by simp only [List.getElem?_toArray, List.getElem?_cons_zero, List.getElem?_cons_succ]; rfl) (by kernel_rfl) (by kernel_rfl) (by kernel_rfl) (by intro _ _ _ h; exact h) (Or.inl ⟨by rfl, ?_⟩) (by assumption) ?_
      rotate_left
      · (intro w9 hSw; (try dsimp only at hSw); go_simp <;> with_reducible rfl)
      try simp only [Act.put, List.setIfInBounds_toArray, List.set_cons_zero, List.set_cons_succ]
      refine wpAnyH_done (by kernel_rfl) ?_ _
      go_wp2
      obtain ⟨hI, hcap⟩ := own_itsS (ownK (unhide HO) h2 kB) hl
      refine bodyPost_ret (v := .tuple #[.slice a2 xs.length c2, .int .i64 lt]) (by simp (maxDischargeDepth := 9) [results, Try.results5, go_sem, *]) rfl ⟨_, c2, xs, lt, rfl, hI, hcap, hl, hBd.tok, ⟨by omega, by omega⟩, hbF.trans (kB.low.mono (by omega))⟩
    refine AllReadyH.cons (by simp only [List.getElem?_toArray, List.getElem?_cons_zero, List.getElem?_cons_succ]; rfl) (fun K hK => ?_) AllReadyH.nil
    go_simp
    (go_at_call 18; (with_reducible refine (pick_any R a len cap (p2 + 4) 8 _ (by omega) (by omega) (unhide rv3)).mono ?_); rintro e v4 ⟨y, rfl, by1, by2, kv4, qv4⟩; have rv4 := hide (qv4 (by omega)); clear qv4; have hRv4 : R < v4.heap.size := (by have h9 := kv4.low.size; (try simp at h9); omega))
    (try go_wp2_with fail)
    refine hK.out _ _ ?_ (fun hHeld2 => ?_)
    · (try dsimp only); omega
    clear hK K hHeld
    have hHeld := hHeld2
    clear hHeld2
    try simp only [Act.put, List.setIfInBounds_toArray, List.set_cons_zero, List.set_cons_succ]
    obtain ⟨lt, hl0, hl1, hl2, bl1, bl2⟩ := el8p x0 (by omega) (by omega) x1 (by omega) (by omega) x2 (by omega) (by omega) x3 (by omega) (by omega) y by1 by2
    refine wpAnyH_take (i := 14) (v := ?_) (by simp only [List.getElem?_toArray, List.getElem?_cons_zero, List.getElem?_cons_succ]; rfl) (by kernel_rfl) (by kernel_rfl) (by kernel_rfl) (by intro _ _ _ h; exact h) (Or.inl ⟨by rfl, ?_⟩) (by assumption) ?_
    rotate_left
    · (intro w9 hSw; (try dsimp only at hSw); go_simp <;> with_reducible rfl)
    try simp only [Act.put, List.setIfInBounds_toArray, List.set_cons_zero, List.set_cons_succ]
    refine wpAnyH_ready (rs := [9]) (by kernel_rfl) (by simp) ?_
    refine AllReadyH.cons (by simp only [List.getElem?_toArray, List.getElem?_cons_zero, List.getElem?_cons_succ]; rfl) (fun K hK => ?_) AllReadyH.nil
    go_simp
    refine hK.out _ _ ?_ (fun hHeld2 => ?_)
    · (try dsimp only); (first | omega | (simp; omega))
    clear hK K hHeld
    have hHeld := hHeld2
    clear hHeld2
    try simp only [Act.put, List.setIfInBounds_toArray, List.set_cons_zero, List.set_cons_succ]
    have hcl : (v4.alloc (.cells #[.int .i64 x0, .int .i64 x1, .int .i64 x2, .int .i64 x3, .int .i64 1000, .int .i64 1001, .int .i64 (-1), .int .i64 (-9223372036854775808)] 3)).cell? ⟨v4.heap.size, y.toNat, none⟩ = some (.int .i64 lt) := by simp [go_sem, *]
    refine wpAnyH_take (i := 12) (v := ?_) (by simp only [List.getElem?_toArray, List.getElem?_cons_zero, List.getElem?_cons_succ]; rfl) (by kernel_rfl) (by kernel_rfl) (by kernel_rfl) (by intro _ _ _ h; exact h) (Or.inl ⟨by rfl, ?_⟩) (by assumption) ?_
    rotate_left
    · (intro w9 hSw; (try dsimp only at hSw); go_simp <;> with_reducible rfl)
    try simp only [Act.put, List.setIfInBounds_toArray, List.set_cons_zero, List.set_cons_succ]
    refine wpAnyH_ready (rs := [13]) (by kernel_rfl) (by simp) ?_
    refine AllReadyH.cons (by simp only [List.getElem?_toArray, List.getElem?_cons_zero, List.getElem?_cons_succ]; rfl) (fun K hK => ?_) AllReadyH.nil
    go_simp
    refine hK.out _ _ ?_ (fun hHeld2 => ?_)
    · (try dsimp only); (first | omega | (simp; omega))
    clear hK K hHeld
    have hHeld := hHeld2
    clear hHeld2
    try simp only [Act.put, List.setIfInBounds_toArray, List.set_cons_zero, List.set_cons_succ]
    refine wpAnyH_take (i := 15) (v := ?_) (by simp only [List.getElem?_toArray, List.getElem?_cons_zero, List.getElem?_cons_succ]; rfl) (by kernel_rfl) (by kernel_rfl) (by kernel_rfl) (by intro _ _ _ h; exact h) (Or.inl ⟨by rfl, ?_⟩) (by assumption) ?_
    rotate_left
    · (intro w9 hSw; (try dsimp only at hSw); go_simp <;> with_reducible rfl)
    try simp only [Act.put, List.setIfInBounds_toArray, List.set_cons_zero, List.set_cons_succ]
    have kB : Kp R w2 (v4.alloc (.cells #[.int .i64 x0, .int .i64 x1, .int .i64 x2, .int .i64 x3, .int .i64 1000, .int .i64 1001, .int .i64 (-1), .int .i64 (-9223372036854775808)] 3)) := kA.trans (kp_alloc hRv3 kv4 _)
    refine wpAnyH_done (by kernel_rfl) ?_ _
    go_wp2
    obtain ⟨hI, hcap⟩ := own_itsS (ownK (unhide HO) h2 kB) hl
    refine bodyPost_ret (v := .tuple #[.slice a2 xs.length c2, .int .i64 lt]) (by simp (maxDischargeDepth := 9) [results, Try.results5, go_sem, *]) rfl ⟨_, c2, xs, lt, rfl, hI, hcap, hl, hBd.tok, ⟨by omega, by omega⟩, hbF.trans (kB.low.mono (by omega))⟩
  obtain ⟨g, c2, rfl, hBg, hgl, hcp⟩ := own_form hO hpos
  have HO := hide hO
  clear hO
  have hd1 : decide ((0 : Int) < (xs.length : Int)) = true := by simp; omega
  go_wp2_with fail
  (with_reducible refine (pick_any R a len cap p2 12 _ (by omega) (by omega) ((unhide r2).kpS hR2 (by repeat (first | (with_reducible exact Below.refl _ _) | (with_reducible refine Below.setCell ?_ (by first | (simp; omega) | omega) _) | (with_reducible refine up_alloc ?_ (by first | omega | (simp; omega)) _) | (with_reducible refine Below.drew ?_))))).mono ?_)
  rintro e w3 ⟨z, rfl, bz1, bz2, kw3, qw3⟩
  have rw3 := hide (qw3 (by omega))
  clear qw3
  have zw3 := kw3.low.size
  have hRw3 : R < w3.heap.size := (by have h9 := kw3.low.size; (try simp at h9); omega)
  have hnw3 : w3.heap.size ≠ R := (by omega)
  have hcw3 := (fun b o hb hn => kw3.cell (b := b) (o := o) hb hn)
  have hfw3 := (fun b o hb hn => kw3.frozen (b := b) (o := o) hb hn)
  have hn2w3 : w3.heap.size + 1 ≠ R := (by omega)
  have HO3 := hide (ownK (unhide HO) h2 kw3)
  have hbF : Below w.heap.size w w3 := hbF0.trans (kw3.low.mono (by omega))
  clear hcw3 hfw3
  by_cases hz : z = 0
  rotate_left
  · have hz' : (z == 0) = false := beq_eq_false_iff_ne.2 hz
    go_wp2_with fail
    refine wp_region_held_drew (S := (fun W => R < W.heap.size)) (by kernel_rfl) ?_ (fun hHeld => ?_)
    · (try dsimp only); first | omega | (simp; omega)
    refine wpAnyH_take (i := 0) (v := ?_) (by simp only [List.getElem?_toArray, List.getElem?_cons_zero, List.getElem?_cons_succ]; rfl) (by kernel_rfl) (by kernel_rfl) (by kernel_rfl) (by intro _ _ _ h; exact h) (Or.inl ⟨by rfl, ?_⟩) (by assumption) ?_
    rotate_left
    · (intro w9 hSw; (try dsimp only at hSw); go_simp <;> with_reducible rfl)
    try simp only [Act.put, List.setIfInBounds_toArray, List.set_cons_zero, List.set_cons_succ]
    refine wpAnyH_take (i := 1) (v := ?_) (by simp only [List.getElem?_toArray, List.getElem?_cons_zero, List.getElem?_cons_succ]; rfl) (by kernel_rfl) (by kernel_rfl) (by kernel_rfl) (by intro _ _ _ h; exact h) (Or.inl ⟨by rfl, ?_⟩) (by assumption) ?_
    rotate_left
    · (intro w9 hSw; (try dsimp only at hSw); go_simp <;> with_reducible rfl)
    try simp only [Act.put, List.setIfInBounds_toArray, List.set_cons_zero, List.set_cons_succ]
    refine wpAnyH_take (i := 3) (v := ?_) (by simp only [List.getElem?_toArray, List.getElem?_cons_zero, List.getElem?_cons_succ]; rfl) (by kernel_rfl) (by kernel_rfl) (by kernel_rfl) (by intro _ _ _ h; exact h) (Or.inl ⟨by rfl, ?_⟩) (by assumption) ?_
    rotate_left
    · (intro w9 hSw; (try dsimp only at hSw); go_simp <;> with_reducible rfl)
    try simp only [Act.put, List.setIfInBounds_toArray, List.set_cons_zero, List.set_cons_succ]
    refine wpAnyH_take (i := 5) (v := ?_) (by simp only [List.getElem?_toArray, List.getElem?_cons_zero, List.getElem?_cons_succ]; rfl) (by kernel_rfl) (by kernel_rfl) (by kernel_rfl) (by intro _ _ _ h; exact h) (Or.inl ⟨by rfl, ?_⟩) (by assumption) ?_
    rotate_left
    · (intro w9 hSw; (try dsimp only at hSw); go_simp <;> with_reducible rfl)
    try simp only [Act.put, List.setIfInBounds_toArray, List.set_cons_zero, List.set_cons_succ]
    refine wpAnyH_take (i := 7) (v := ?_) (by simp only [List.getElem?_toArray, List.getElem?_cons_zero, List.getElem?_cons_succ]; rfl) (by kernel_rfl) (by kernel_rfl) (by kernel_rfl) (by intro _ _ _ h; exact h) (Or.inl ⟨by rfl, ?_⟩) (by assumption) ?_
    rotate_left
    · (intro w9 hSw; (try dsimp only at hSw); go_simp <;> with_reducible rfl)
    try simp only [Act.put, List.setIfInBounds_toArray, List.set_cons_zero, List.set_cons_succ]
    refine wpAnyH_take (i := 10) (v := ?_) (by simp only [List.getElem?_toArray, List.getElem?_cons_zero, List.getElem?_cons_succ]; rfl) (by kernel_rfl) (by kernel_rfl) (by kernel_rfl) (by intro _ _ _ h; exact h) (Or.inl ⟨by rfl, ?_⟩) (by assumption) ?_
    rotate_left
    · (intro w9 hSw; (try dsimp only at hSw); go_simp <;> with_reducible rfl)
    try simp only [Act.put, List.setIfInBounds_toArray, List.set_cons_zero, List.set_cons_succ]
    refine wpAnyH_ready (rs := [2]) (by kernel_rfl) (by simp) ?_
    refine AllReadyH.cons (by simp only [List.getElem?_toArray, List.getElem?_cons_zero, List.getElem?_cons_succ]; rfl) (fun K hK => ?_) AllReadyH.nil
    go_simp
    (go_at_call 18; (with_reducible refine (pick_any R a len cap (p2 + 1) 14 _ (by omega) (by omega) ((unhide rw3).kpS (by first | omega | (simp; omega)) (by repeat (first | (with_reducible exact Below.refl _ _) | (with_reducible refine Below.setCell ?_ (by first | (simp; omega) | omega) _) | (with_reducible refine up_alloc ?_ (by first | omega | (simp; omega)) _) | (with_reducible refine Below.drew ?_))))).mono ?_); rintro e v0 ⟨x0, rfl, bx01, bx02, kv0, qv0⟩; have rv0 := hide (qv0 (by omega)); clear qv0; have hRv0 : R < v0.heap.size := (by have h9 := kv0.low.size; (try simp at h9); omega))
    (try go_wp2_with fail)
    refine hK.out _ _ ?_ (fun hHeld2 => ?_)
    · (try dsimp only); omega
    clear hK K hHeld
    have hHeld := hHeld2
    clear hHeld2
    try simp only [Act.put, List.setIfInBounds_toArray, List.set_cons_zero, List.set_cons_succ]
    refine wpAnyH_ready (rs := [4]) (by kernel_rfl) (by simp) ?_
    refine AllReadyH.cons (by simp only [List.getElem?_toArray, List.getElem?_cons_zero, List.getElem?_cons_succ]; rfl) (fun K hK => ?_) AllReadyH.nil
    go_simp
    (go_at_call 18; (with_reducible refine (pick_any R a len cap ((p2 + 1) + 1) 14 _ (by omega) (by omega) (unhide rv0)).mono ?_); rintro e v1 ⟨x1, rfl, bx11, bx12, kv1, qv1⟩; have rv1 := hide (qv1 (by omega)); clear qv1; have hRv1 : R < v1.heap.size := (by have h9 := kv1.low.size; (try simp at h9); omega))
    (try go_wp2_with fail)
    refine hK.out _ _ ?_ (fun hHeld2 => ?_)
    · (try dsimp only); omega
    clear hK K hHeld
    have hHeld := hHeld2
    clear hHeld2
    try simp only [Act.put, List.setIfInBounds_toArray, List.set_cons_zero, List.set_cons_succ]
    refine wpAnyH_ready (rs := [6]) (by kernel_rfl) (by simp) ?_
    refine AllReadyH.cons (by simp only [List.getElem?_toArray, List.getElem?_cons_zero, List.getElem?_cons_succ]; rfl) (fun K hK => ?_) AllReadyH.nil
    go_simp
    (go_at_call 18; (with_reducible refine (pick_any R a len cap ((p2 + 1) + 2) 14 _ (by omega) (by omega) (unhide rv1)).mono ?_); rintro e v2 ⟨x2, rfl, bx21, bx22, kv2, qv2⟩; have rv2 := hide (qv2 (by omega)); clear qv2; have hRv2 : R < v2.heap.size := (by have h9 := kv2.low.size; (try simp at h9); omega))
    (try go_wp2_with fail)
    refine hK.out _ _ ?_ (fun hHeld2 => ?_)
    · (try dsimp only); omega
    clear hK K hHeld
    have hHeld := hHeld2
    clear hHeld2
    try simp only [Act.put, List.setIfInBounds_toArray, List.set_cons_zero, List.set_cons_succ]
    refine wpAnyH_ready (rs := [8]) (by kernel_rfl) (by simp) ?_
    refine AllReadyH.cons (by simp only [List.getElem?_toArray, List.getElem?_cons_zero, List.getElem?_cons_succ]; rfl) (fun K hK => ?_) AllReadyH.nil
    go_simp
    (go_at_call 18; (with_reducible refine (pick_any R a len cap ((p2 + 1) + 3) 14 _ (by omega) (by omega) (unhide rv2)).mono ?_); rintro e v3 ⟨x3, rfl, bx31, bx32, kv3, qv3⟩; have rv3 := hide (qv3 (by omega)); clear qv3; have hRv3 : R < v3.heap.size := (by have h9 := kv3.low.size; (try simp at h9); omega))
    (try go_wp2_with fail)
    refine hK.out _ _ ?_ (fun hHeld2 => ?_)
    · (try dsimp only); omega
    clear hK K hHeld
    have hHeld := hHeld2
    clear hHeld2
    try simp only [Act.put, List.setIfInBounds_toArray, List.set_cons_zero, List.set_cons_succ]
    have kA : Kp R w3 v3 := ((((kp_dr R _).trans kv0).trans kv1).trans kv2).trans kv3
    refine wpAnyH_ready (rs := [9, 11]) (by kernel_rfl) (by simp) ?_
    refine AllReadyH.cons (by simp only [List.getElem?_toArray, List.getElem?_cons_zero, List.getElem?_cons_succ]; rfl) (fun K hK => ?_) ?_
    · go_simp
      refine hK.out _ _ ?_ (fun hHeld2 => ?_)
      · (try dsimp only); (first | omega | (simp; omega))
      clear hK K hHeld
      have hHeld := hHeld2
      clear hHeld2
      try simp only [Act.put, List.setIfInBounds_toArray, List.set_cons_zero, List.set_cons_succ]
      refine wpAnyH_ready (rs := [11]) (by kernel_rfl) (by simp) ?_
      refine AllReadyH.cons (by simp only [List.getElem?_toArray, List.getElem?_cons_zero, List.getElem?_cons_succ]; rfl) (fun K hK => ?_) AllReadyH.nil
      go_simp
      (go_at_call 18; (with_reducible refine (pick_any R a len cap ((p2 + 1) + 4) 8 _ (by omega) (by omega) ((unhide rv3).kpS hRv3 (by repeat (first | (with_reducible exact Below.refl _ _) | (with_reducible refine Below.setCell ?_ (by first | (simp; omega) | omega) _) | (with_reducible refine up_alloc ?_ (by first | omega | (simp; omega)) _) | (with_reducible refine Below.drew ?_))))).mono ?_); rintro e v4 ⟨y, rfl, by1, by2, kv4, qv4⟩; have rv4 := hide (qv4 (by omega)); clear qv4; have hRv4 : R < v4.heap.size := (by have h9 := kv4.low.size; (try simp at h9); omega))
      (try go_wp2_with fail)
      refine hK.out _ _ ?_ (fun hHeld2 => ?_)
      · (try dsimp only); omega
      clear hK K hHeld
      have hHeld := hHeld2
      clear hHeld2
      try simp only [Act.put, List.setIfInBounds_toArray, List.set_cons_zero, List.set_cons_succ]
      obtain ⟨lt, hl0, hl1, hl2, bl1, bl2⟩ := el8p x0 (by omega) (by omega) x1 (by omega) (by omega) x2 (by omega) (by omega) x3 (by omega) (by omega) y by1 by2
      have hcl : v4.cell? ⟨v3.heap.size, y.toNat, none⟩ = some (.int .i64 lt) := (kv4.cell (by simp) (by omega)).trans (by simp [go_sem, *])
      have kB : Kp R w3 v4 := kA.trans ((kp_alloc hRv3 (Kp.refl _ _) _).trans kv4)
      refine wpAnyH_take (i := 14) (v := ?_) (by simp only [List.getElem?_toArray, List.getElem?_cons_zero, List.getElem?_cons_succ]; rfl) (by kernel_rfl) (by kernel_rfl) (by kernel_rfl) (by intro _ _ _ h; exact h) (Or.inl ⟨by rfl, ?_⟩) (by assumption) ?_
      rotate_left
      · (intro w9 hSw; (try dsimp only at hSw); go_simp <;> with_reducible rfl)
      try simp only [Act.put, List.setIfInBounds_toArray, List.set_cons_zero, List.set_cons_succ]
      refine wpAnyH_take (i := 12) (v := ?_) (by simp only [List.getElem?_toArray, List.getElem?_cons_zero, List.getElem?_cons_succ]; rfl) (by kernel_rfl) (by kernel_rfl) (by kernel_rfl) (by intro _ _ _ h; exact h) (Or.inl ⟨by rfl, ?_⟩) (by assumption) ?_
      rotate_left
      · (intro w9 hSw; (try dsimp only at hSw); go_simp <;> with_reducible rfl)
      try simp only [Act.put, List.setIfInBounds_toArray, List.set_cons_zero, List.set_cons_succ]
      refine wpAnyH_ready (rs := [13]) (by kernel_rfl) (by simp) ?_
      refine AllReadyH.cons (by simp only [List.getElem?_toArray, List.getElem?_cons_zero, List.getElem?_cons_succ]; rfl) (fun K hK => ?_) AllReadyH.nil
      go_simp
      refine hK.out _ _ ?_ (fun hHeld2 => ?_)
      · (try dsimp only); (first | omega | (simp; omega))
      clear hK K hHeld
      have hHeld := hHeld2
      clear hHeld2
      try simp only [Act.put, List.setIfInBounds_toArray, List.set_cons_zero, List.set_cons_succ]
      refine wpAnyH_take (i := 15) (v := ?_) (by simp only [List.getElem?_toArray, List.getElem?_cons_zero, List.getElem?_cons_succ]; rfl) (by kernel_rfl) (by kernel_rfl) (by kernel_rfl) (by intro _ _ _ h; exact h) (Or.inl ⟨by rfl, ?_⟩) (by assumption) ?_
      rotate_left
      · (intro w9 hSw; (try dsimp only at hSw); go_simp <;> with_reducible rfl)
      try simp only [Act.put, List.setIfInBounds_toArray, List.set_cons_zero, List.set_cons_succ]
      refine wpAnyH_done (by kernel_rfl) ?_ _
      go_wp2
      obtain ⟨hI, hcap⟩ := own_itsS (ownK (unhide HO3) h2 kB) hl
      refine bodyPost_ret (v := .tuple #[.slice (some ⟨g, 0, none⟩) xs.length c2, .int .i64 lt]) (by simp (maxDischargeDepth := 9) [results, Try.results5, go_sem, *]) rfl ⟨_, c2, xs, lt, rfl, hI, hcap, hl, hBd.tok, ⟨by omega, by omega⟩, hbF.trans (kB.low.mono (by omega))⟩
    refine AllReadyH.cons (by simp only [List.getElem?_toArray, List.getElem?_cons_zero, List.getElem?_cons_succ]; rfl) (fun K hK => ?_) AllReadyH.nil
    go_simp
    (go_at_call 18; (with_reducible refine (pick_any R a len cap ((p2 + 1) + 4) 8 _ (by omega) (by omega) (unhide rv3)).mono ?_); rintro e v4 ⟨y, rfl, by1, by2, kv4, qv4⟩; have rv4 := hide (qv4 (by omega)); clear qv4; have hRv4 : R < v4.heap.size := (by have h9 := kv4.low.size; (try simp at h9); omega))
    (try go_wp2_with fail)
    refine hK.out _ _ ?_ (fun hHeld2 => ?_)
    · (try dsimp only); omega
    clear hK K hHeld
    have hHeld := hHeld2
    clear hHeld2
    try simp only [Act.put, List.setIfInBounds_toArray, List.set_cons_zero, List.set_cons_succ]
    obtain ⟨lt, hl0, hl1, hl2, bl1, bl2⟩ := el8p x0 (by omega) (by omega) x1 (by omega) (by omega) x2 (by omega) (by omega) x3 (by omega) (by omega) y by1 by2
    refine wpAnyH_take (i := 14) (v := ?_) (by simp only [List.getElem?_toArray, List.getElem?_cons_zero, List.getElem?_cons_succ]; rfl) (by kernel_rfl) (by kernel_rfl) (by kernel_rfl) (by intro _ _ _ h; exact h) (Or.inl ⟨by rfl, ?_⟩) (by assumption) ?_
    rotate_left
    · (intro w9 hSw; (try dsimp only at hSw); go_simp <;> with_reducible rfl)
    try simp only [Act.put, List.setIfInBounds_toArray, List.set_cons_zero, List.set_cons_succ]
    refine wpAnyH_ready (rs := [9]) (by kernel_rfl) (by simp) ?_
    refine AllReadyH.cons (by simp only [List.getElem?_toArray, List.getElem?_cons_zero, List.getElem?_cons_succ]; rfl) (fun K hK => ?_) AllReadyH.nil
    go_simp
    refine hK.out _ _ ?_ (fun hHeld2 => ?_)
    · (try dsimp only); (first | omega | (simp; omega))
    clear hK K hHeld
    have hHeld := hHeld2
    clear hHeld2
    try simp only [Act.put, List.setIfInBounds_toArray, List.set_cons_zero, List.set_cons_succ]
    have hcl : (v4.alloc (.cells #[.int .i64 x0, .int .i64 x1, .int .i64 x2, .int .i64 x3, .int .i64 1000, .int .i64 1001, .int .i64 (-1), .int .i64 (-9223372036854775808)] 3)).cell? ⟨v4.heap.size, y.toNat, none⟩ = some (.int .i64 lt) := by simp [go_sem, *]
    refine wpAnyH_take (i := 12) (v := ?_) (by simp only [List.getElem?_toArray, List.getElem?_cons_zero, List.getElem?_cons_succ]; rfl) (by kernel_rfl) (by kernel_rfl) (by kernel_rfl) (by intro _ _ _ h; exact h) (Or.inl ⟨by rfl, ?_⟩) (by assumption) ?_
    rotate_left
    · (intro w9 hSw; (try dsimp only at hSw); go_simp <;> with_reducible rfl)
    try simp only [Act.put, List.setIfInBounds_toArray, List.set_cons_zero, List.set_cons_succ]
    refine wpAnyH_ready (rs := [13]) (by kernel_rfl) (by simp) ?_
    refine AllReadyH.cons (by simp only [List.getElem?_toArray, List.getElem?_cons_zero, List.getElem?_cons_succ]; rfl) (fun K hK => ?_) AllReadyH.nil
    go_simp
    refine hK.out _ _ ?_ (fun hHeld2 => ?_)
    · (try dsimp only); (first | omega | (simp; omega))
    clear hK K hHeld
    have hHeld := hHeld2
    clear hHeld2
    try simp only [Act.put, List.setIfInBounds_toArray, List.set_cons_zero, List.set_cons_succ]
    refine wpAnyH_take (i := 15) (v := ?_) (by simp only [List.getElem?_toArray, List.getElem?_cons_zero, List.getElem?_cons_succ]; rfl) (by kernel_rfl) (by kernel_rfl) (by kernel_rfl) (by intro _ _ _ h; exact h) (Or.inl ⟨by rfl, ?_⟩) (by assumption) ?_
    rotate_left
    · (intro w9 hSw; (try dsimp only at hSw); go_simp <;> with_reducible rfl)
    try simp only [Act.put, List.setIfInBounds_toArray, List.set_cons_zero, List.set_cons_succ]
    have kB : Kp R w3 (v4.alloc (.cells #[.int .i64 x0, .int .i64 x1, .int .i64 x2, .int .i64 x3, .int .i64 1000, .int .i64 1001, .int .i64 (-1), .int .i64 (-9223372036854775808)] 3)) := kA.trans (kp_alloc hRv3 kv4 _)
    refine wpAnyH_done (by kernel_rfl) ?_ _
    go_wp2
    obtain ⟨hI, hcap⟩ := own_itsS (ownK (unhide HO3) h2 kB) hl
    refine bodyPost_ret (v := .tuple #[.slice (some ⟨g, 0, none⟩) xs.length c2, .int .i64 lt]) (by simp (maxDischargeDepth := 9) [results, Try.results5, go_sem, *]) rfl ⟨_, c2, xs, lt, rfl, hI, hcap, hl, hBd.tok, ⟨by omega, by omega⟩, hbF.trans (kB.low.mono (by omega))⟩
  · subst hz
    go_wp2_with fail
    (with_reducible refine (pick_any R a len cap (p2 + 1) (xs.length : Int) _ (by omega) (by omega) ((unhide rw3).kpS hRw3 (by repeat (first | (with_reducible exact Below.refl _ _) | (with_reducible refine Below.setCell ?_ (by first | (simp; omega) | omega) _) | (with_reducible refine up_alloc ?_ (by first | omega | (simp; omega)) _) | (with_reducible refine Below.drew ?_))))).mono ?_)
    rintro e w4 ⟨k0, rfl, bk01, bk02, kw4, qw4⟩
    have rw4 := hide (qw4 (by omega))
    clear qw4
    have zw4 := kw4.low.size
    have hRw4 : R < w4.heap.size := (by have h9 := kw4.low.size; (try simp at h9); omega)
    have hnw4 : w4.heap.size ≠ R := (by omega)
    have hcw4 := (fun b o hb hn => kw4.cell (b := b) (o := o) hb hn)
    have hfw4 := (fun b o hb hn => kw4.frozen (b := b) (o := o) hb hn)
    have hn2w4 : w4.heap.size + 1 ≠ R := (by omega)
    obtain ⟨k, rfl⟩ : ∃ k : Nat, k0 = (k : Int) := ⟨k0.toNat, by omega⟩
    have HO4 := hide (ownK (unhide HO3) h2 kw4)
    clear hcw4 hfw4
    go_wp2_with fail
    (with_reducible refine (pick_any R a len cap (p2 + 1 + 1) 2 _ (by omega) (by omega) ((unhide rw4).kpS hRw4 (by repeat (first | (with_reducible exact Below.refl _ _) | (with_reducible refine Below.setCell ?_ (by first | (simp; omega) | omega) _) | (with_reducible refine up_alloc ?_ (by first | omega | (simp; omega)) _) | (with_reducible refine Below.drew ?_))))).mono ?_)
    rintro e w5 ⟨d1, rfl, bd11, bd12, kw5, qw5⟩
    have rw5 := hide (qw5 (by omega))
    clear qw5
    have zw5 := kw5.low.size
    have hRw5 : R < w5.heap.size := (by have h9 := kw5.low.size; (try simp at h9); omega)
    have hnw5 : w5.heap.size ≠ R := (by omega)
    have hcw5 := (fun b o hb hn => kw5.cell (b := b) (o := o) hb hn)
    have hfw5 := (fun b o hb hn => kw5.frozen (b := b) (o := o) hb hn)
    have dzw5 : w4.heap.size < w5.heap.size := (by (try simp at zw5); omega)
    have dyw5 : w4.heap.size ≤ w5.heap.size := (by omega)
    have d0w5 : w5.cell? ⟨w4.heap.size, 0, none⟩ = some (.int .i64 9223372036854775807) := ((hcw5 _ 0 (by first | (with_reducible assumption) | (simp; done) | (simp; omega)) hnw4).trans (by first | (with_reducible assumption) | (simp (maxDischargeDepth := 9) [go_sem, *]; done)))
    have df0w5 : w5.frozen? ⟨w4.heap.size, 0, none⟩ = false := ((hfw5 _ 0 (by first | (with_reducible assumption) | (simp; done) | (simp; omega)) hnw4).trans (by first | (with_reducible assumption) | (simp (maxDischargeDepth := 9) [go_sem, *]; done)))
    have d1w5 : w5.cell? ⟨w4.heap.size, 1, none⟩ = some (.int .i64 (-9223372036854775808)) := ((hcw5 _ 1 (by first | (with_reducible assumption) | (simp; done) | (simp; omega)) hnw4).trans (by first | (with_reducible assumption) | (simp (maxDischargeDepth := 9) [go_sem, *]; done)))
    have df1w5 : w5.frozen? ⟨w4.heap.size, 1, none⟩ = false := ((hfw5 _ 1 (by first | (with_reducible assumption) | (simp; done) | (simp; omega)) hnw4).trans (by first | (with_reducible assumption) | (simp (maxDischargeDepth := 9) [go_sem, *]; done)))
    have hn2w5 : w5.heap.size + 1 ≠ R := (by omega)
    have HO5 := hide (ownK (World.ownsRow.alloc (unhide HO4) _) h2 kw5)
    obtain ⟨x, hxk⟩ : ∃ x, xs[k]? = some x := ⟨_, List.getElem?_eq_getElem (by omega)⟩
    obtain ⟨dt, hd, hd', hd'', bdt1, bdt2⟩ := el2p d1 bd11 bd12
    obtain ⟨_, ⟨u1, e1⟩, _⟩ := own_cells (unhide HO5) rfl (k := k) (by omega)
    have f1 := own_frozen (unhide HO5) rfl (k * 5 + 1)
    have HP := hide (own_putT (unhide HO5) rfl hxk dt)
    have hll : (xs.set k ⟨x.q, dt, x.k, x.v, x.n⟩).length = xs.length := by simp
    have kw35 : Kp R w3 w5 := (kp_alloc hRw3 kw4 _).trans kw5
    have hz5 := kw35.low.size
    have hdd : w5.cell? ⟨w4.heap.size, d1.toNat, none⟩ = some (.int .i64 dt) := (kw5.cell (by simp) (by omega)).trans (by simp [go_sem, *])
    have rs : Hid (Rd R (w5.setCell ⟨g, k * 5 + 1, none⟩ (.int .i64 dt)) a len cap (p2 + 1 + 1 + 1)) := hide ((unhide rw5).up ((Below.refl _ _).setCell (by simp; omega) _))
    have hbF2 : Below w.heap.size w (w5.setCell ⟨g, k * 5 + 1, none⟩ (.int .i64 dt)) := (hbF.trans (kw35.low.mono (by omega))).setCell (by simp; omega) _
    have hlk : k < xs.length := by omega
    clear hxk
    go_wp2_with fail
    have hbF := hbF2
    refine wp_region_held_drew (S := (fun W => R < W.heap.size)) (by kernel_rfl) ?_ (fun hHeld => ?_)
    · (try dsimp only); first | omega | (simp; omega)
    refine wpAnyH_take (i := 0) (v := ?_) (by simp only [List.getElem?_toArray, List.getElem?_cons_zero, List.getElem?_cons_succ]; rfl) (by kernel_rfl) (by kernel_rfl) (by kernel_rfl) (by intro _ _ _ h; exact h) (Or.inl ⟨by rfl, ?_⟩) (by assumption) ?_
    rotate_left
    · (intro w9 hSw; (try dsimp only at hSw); go_simp <;> with_reducible rfl)
    try simp only [Act.put, List.setIfInBounds_toArray, List.set_cons_zero, List.set_cons_succ]
    refine wpAnyH_take (i := 1) (v := ?_) (by simp only [List.getElem?_toArray, List.getElem?_cons_zero, List.getElem?_cons_succ]; rfl) (by kernel_rfl) (by kernel_rfl) (by kernel_rfl) (by intro _ _ _ h; exact h) (Or.inl ⟨by rfl, ?_⟩) (by assumption) ?_
    rotate_left
    · (intro w9 hSw; (try dsimp only at hSw); go_simp <;> with_reducible rfl)
    try simp only [Act.put, List.setIfInBounds_toArray, List.set_cons_zero, List.set_cons_succ]
    refine wpAnyH_take (i := 3) (v := ?_) (by simp only [List.getElem?_toArray, List.getElem?_cons_zero, List.getElem?_cons_succ]; rfl) (by kernel_rfl) (by kernel_rfl) (by kernel_rfl) (by intro _ _ _ h; exact h) (Or.inl ⟨by rfl, ?_⟩) (by assumption) ?_
    rotate_left
    · (intro w9 hSw; (try dsimp only at hSw); go_simp <;> with_reducible rfl)
    try simp only [Act.put, List.setIfInBounds_toArray, List.set_cons_zero, List.set_cons_succ]
    refine wpAnyH_take (i := 5) (v := ?_) (by simp only [List.getElem?_toArray, List.getElem?_cons_zero, List.getElem?_cons_succ]; rfl) (by kernel_rfl) (by kernel_rfl) (by kernel_rfl) (by intro _ _ _ h; exact h) (Or.inl ⟨by rfl, ?_⟩) (by assumption) ?_
    rotate_left
    · (intro w9 hSw; (try dsimp only at hSw); go_simp <;> with_reducible rfl)
    try simp only [Act.put, List.setIfInBounds_toArray, List.set_cons_zero, List.set_cons_succ]
    refine wpAnyH_take (i := 7) (v := ?_) (by simp only [List.getElem?_toArray, List.getElem?_cons_zero, List.getElem?_cons_succ]; rfl) (by kernel_rfl) (by kernel_rfl) (by kernel_rfl) (by intro _ _ _ h; exact h) (Or.inl ⟨by rfl, ?_⟩) (by assumption) ?_
    rotate_left
    · (intro w9 hSw; (try dsimp only at hSw); go_simp <;> with_reducible rfl)
    try simp only [Act.put, List.setIfInBounds_toArray, List.set_cons_zero, List.set_cons_succ]
    refine wpAnyH_take (i := 10) (v := ?_) (by simp only [List.getElem?_toArray, List.getElem?_cons_zero, List.getElem?_cons_succ]; rfl) (by kernel_rfl) (by kernel_rfl) (by kernel_rfl) (by intro _ _ _ h; exact h) (Or.inl ⟨by rfl, ?_⟩) (by assumption) ?_
    rotate_left
    · (intro w9 hSw; (try dsimp only at hSw); go_simp <;> with_reducible rfl)
    try simp only [Act.put, List.setIfInBounds_toArray, List.set_cons_zero, List.set_cons_succ]
    refine wpAnyH_ready (rs := [2]) (by kernel_rfl) (by simp) ?_
    refine AllReadyH.cons (by simp only [List.getElem?_toArray, List.getElem?_cons_zero, List.getElem?_cons_succ]; rfl) (fun K hK => ?_) AllReadyH.nil
    go_simp
    (go_at_call 18; (with_reducible refine (pick_any R a len cap (p2 + 1 + 1 + 1) 14 _ (by omega) (by omega) ((unhide rs).kpS (by first | omega | (simp; omega)) (by repeat (first | (with_reducible exact Below.refl _ _) | (with_reducible refine Below.setCell ?_ (by first | (simp; omega) | omega) _) | (with_reducible refine up_alloc ?_ (by first | omega | (simp; omega)) _) | (with_reducible refine Below.drew ?_))))).mono ?_); rintro e v0 ⟨x0, rfl, bx01, bx02, kv0, qv0⟩; have rv0 := hide (qv0 (by omega)); clear qv0; have hRv0 : R < v0.heap.size := (by have h9 := kv0.low.size; (try simp at h9); omega))
    (try go_wp2_with fail)
    refine hK.out _ _ ?_ (fun hHeld2 => ?_)
    · (try dsimp only); omega
    clear hK K hHeld
    have hHeld := hHeld2
    clear hHeld2
    try simp only [Act.put, List.setIfInBounds_toArray, List.set_cons_zero, List.set_cons_succ]
    refine wpAnyH_ready (rs := [4]) (by kernel_rfl) (by simp) ?_
    refine AllReadyH.cons (by simp only [List.getElem?_toArray, List.getElem?_cons_zero, List.getElem?_cons_succ]; rfl) (fun K hK => ?_) AllReadyH.nil
    go_simp
    (go_at_call 18; (with_reducible refine (pick_any R a len cap ((p2 + 1 + 1 + 1) + 1) 14 _ (by omega) (by omega) (unhide rv0)).mono ?_); rintro e v1 ⟨x1, rfl, bx11, bx12, kv1, qv1⟩; have rv1 := hide (qv1 (by omega)); clear qv1; have hRv1 : R < v1.heap.size := (by have h9 := kv1.low.size; (try simp at h9); omega))
    (try go_wp2_with fail)
    refine hK.out _ _ ?_ (fun hHeld2 => ?_)
    · (try dsimp only); omega
    clear hK K hHeld
    have hHeld := hHeld2
    clear hHeld2
    try simp only [Act.put, List.setIfInBounds_toArray, List.set_cons_zero, List.set_cons_succ]
    refine wpAnyH_ready (rs := [6]) (by kernel_rfl) (by simp) ?_
    refine AllReadyH.cons (by simp only [List.getElem?_toArray, List.getElem?_cons_zero, List.getElem?_cons_succ]; rfl) (fun K hK => ?_) AllReadyH.nil
    go_simp
    (go_at_call 18; (with_reducible refine (pick_any R a len cap ((p2 + 1 + 1 + 1) + 2) 14 _ (by omega) (by omega) (unhide rv1)).mono ?_); rintro e v2 ⟨x2, rfl, bx21, bx22, kv2, qv2⟩; have rv2 := hide (qv2 (by omega)); clear qv2; have hRv2 : R < v2.heap.size := (by have h9 := kv2.low.size; (try simp at h9); omega))
    (try go_wp2_with fail)
    refine hK.out _ _ ?_ (fun hHeld2 => ?_)
    · (try dsimp only); omega
    clear hK K hHeld
    have hHeld := hHeld2
    clear hHeld2
    try simp only [Act.put, List.setIfInBounds_toArray, List.set_cons_zero, List.set_cons_succ]
    refine wpAnyH_ready (rs := [8]) (by kernel_rfl) (by simp) ?_
    refine AllReadyH.cons (by simp only [List.getElem?_toArray, List.getElem?_cons_zero, List.getElem?_cons_succ]; rfl) (fun K hK => ?_) AllReadyH.nil
    go_simp
    (go_at_call 18; (with_reducible refine (pick_any R a len cap ((p2 + 1 + 1 + 1) + 3) 14 _ (by omega) (by omega) (unhide rv2)).mono ?_); rintro e v3 ⟨x3, rfl, bx31, bx32, kv3, qv3⟩; have rv3 := hide (qv3 (by omega)); clear qv3; have hRv3 : R < v3.heap.size := (by have h9 := kv3.low.size; (try simp at h9); omega))
    (try go_wp2_with fail)
    refine hK.out _ _ ?_ (fun hHeld2 => ?_)
    · (try dsimp only); omega
    clear hK K hHeld
    have hHeld := hHeld2
    clear hHeld2
    try simp only [Act.put, List.setIfInBounds_toArray, List.set_cons_zero, List.set_cons_succ]
    have kA : Kp R (w5.setCell ⟨g, k * 5 + 1, none⟩ (.int .i64 dt)) v3 := ((((kp_dr R _).trans kv0).trans kv1).trans kv2).trans kv3
    refine wpAnyH_ready (rs := [9, 11]) (by kernel_rfl) (by simp) ?_
    refine AllReadyH.cons (by simp only [List.getElem?_toArray, List.getElem?_cons_zero, List.getElem?_cons_succ]; rfl) (fun K hK => ?_) ?_
    · go_simp
      refine hK.out _ _ ?_ (fun hHeld2 => ?_)
      · (try dsimp only); (first | omega | (simp; omega))
      clear hK K hHeld
      have hHeld := hHeld2
      clear hHeld2
      try simp only [Act.put, List.setIfInBounds_toArray, List.set_cons_zero, List.set_cons_succ]
      refine wpAnyH_ready (rs := [11]) (by kernel_rfl) (by simp) ?_
      refine AllReadyH.cons (by simp only [List.getElem?_toArray, List.getElem?_cons_zero, List.getElem?_cons_succ]; rfl) (fun K hK => ?_) AllReadyH.nil
      go_simp
      (go_at_call 18; (with_reducible refine (pick_any R a len cap ((p2 + 1 + 1 + 1) + 4) 8 _ (by omega) (by omega) ((unhide rv3).kpS hRv3 (by repeat (first | (with_reducible exact Below.refl _ _) | (with_reducible refine Below.setCell ?_ (by first | (simp; omega) | omega) _) | (with_reducible refine up_alloc ?_ (by first | omega | (simp; omega)) _) | (with_reducible refine Below.drew ?_))))).mono ?_); rintro e v4 ⟨y, rfl, by1, by2, kv4, qv4⟩; have rv4 := hide (qv4 (by omega)); clear qv4; have hRv4 : R < v4.heap.size := (by have h9 := kv4.low.size; (try simp at h9); omega))
      (try go_wp2_with fail)
      refine hK.out _ _ ?_ (fun hHeld2 => ?_)
      · (try dsimp only); omega
      clear hK K hHeld
      have hHeld := hHeld2
      clear hHeld2
      try simp only [Act.put, List.setIfInBounds_toArray, List.set_cons_zero, List.set_cons_succ]
      obtain ⟨lt, hl0, hl1, hl2, bl1, bl2⟩ := el8p x0 (by omega) (by omega) x1 (by omega) (by omega) x2 (by omega) (by omega) x3 (by omega) (by omega) y by1 by2
      have hcl : v4.cell? ⟨v3.heap.size, y.toNat, none⟩ = some (.int .i64 lt) := (kv4.cell (by simp) (by omega)).trans (by simp [go_sem, *])
      have kB : Kp R (w5.setCell ⟨g, k * 5 + 1, none⟩ (.int .i64 dt)) v4 := kA.trans ((kp_alloc hRv3 (Kp.refl _ _) _).trans kv4)
      refine wpAnyH_take (i := 14) (v := ?_) (by simp only [List.getElem?_toArray, List.getElem?_cons_zero, List.getElem?_cons_succ]; rfl) (by kernel_rfl) (by kernel_rfl) (by kernel_rfl) (by intro _ _ _ h; exact h) (Or.inl ⟨by rfl, ?_⟩) (by assumption) ?_
      rotate_left
      · (intro w9 hSw; (try dsimp only at hSw); go_simp <;> with_reducible rfl)
      try simp only [Act.put, List.setIfInBounds_toArray, List.set_cons_zero, List.set_cons_succ]
      refine wpAnyH_take (i := 12) (v := ?_) (by simp only [List.getElem?_toArray, List.getElem?_cons_zero, List.getElem?_cons_succ]; rfl) (by kernel_rfl) (by kernel_rfl) (by kernel_rfl) (by intro _ _ _ h; exact h) (Or.inl ⟨by rfl, ?_⟩) (by assumption) ?_
      rotate_left
      · (intro w9 hSw; (try dsimp only at hSw); go_simp <;> with_reducible rfl)
      try simp only [Act.put, List.setIfInBounds_toArray, List.set_cons_zero, List.set_cons_succ]
      refine wpAnyH_ready (rs := [13]) (by kernel_rfl) (by simp) ?_
      refine AllReadyH.cons (by simp only [List.getElem?_toArray, List.getElem?_cons_zero, List.getElem?_cons_succ]; rfl) (fun K hK => ?_) AllReadyH.nil
      go_simp
      refine hK.out _ _ ?_ (fun hHeld2 => ?_)
      · (try dsimp only); (first | omega | (simp; omega))
      clear hK K hHeld
      have hHeld := hHeld2
      clear hHeld2
      try simp only [Act.put, List.setIfInBounds_toArray, List.set_cons_zero, List.set_cons_succ]
      refine wpAnyH_take (i := 15) (v := ?_) (by simp only [List.getElem?_toArray, List.getElem?_cons_zero, List.getElem?_cons_succ]; rfl) (by kernel_rfl) (by kernel_rfl) (by kernel_rfl) (by intro _ _ _ h; exact h) (Or.inl ⟨by rfl, ?_⟩) (by assumption) ?_
      rotate_left
      · (intro w9 hSw; (try dsimp only at hSw); go_simp <;> with_reducible rfl)
      try simp only [Act.put, List.setIfInBounds_toArray, List.set_cons_zero, List.set_cons_succ]
      refine wpAnyH_done (by kernel_rfl) ?_ _
      go_wp2
      obtain ⟨hI, hcap⟩ := own_itsS (ownK (unhide HP) h2 kB) (by omega)
      refine bodyPost_ret (v := .tuple #[.slice (some ⟨g, 0, none⟩) (xs.set k ⟨x.q, dt, x.k, x.v, x.n⟩).length c2, .int .i64 lt]) (by simp (maxDischargeDepth := 9) [results, Try.results5, go_sem, *]) rfl ⟨_, c2, (xs.set k ⟨x.q, dt, x.k, x.v, x.n⟩), lt, rfl, hI, hcap, (by omega), hBd.tokset ⟨by omega, by omega⟩, ⟨by omega, by omega⟩, hbF.trans (kB.low.mono (by omega))⟩
    refine AllReadyH.cons (by simp only [List.getElem?_toArray, List.getElem?_cons_zero, List.getElem?_cons_succ]; rfl) (fun K hK => ?_) AllReadyH.nil
    go_simp
    (go_at_call 18; (with_reducible refine (pick_any R a len cap ((p2 + 1 + 1 + 1) + 4) 8 _ (by omega) (by omega) (unhide rv3)).mono ?_); rintro e v4 ⟨y, rfl, by1, by2, kv4, qv4⟩; have rv4 := hide (qv4 (by omega)); clear qv4; have hRv4 : R < v4.heap.size := (by have h9 := kv4.low.size; (try simp at h9); omega))
    (try go_wp2_with fail)
    refine hK.out _ _ ?_ (fun hHeld2 => ?_)
    · (try dsimp only); omega
    clear hK K hHeld
    have hHeld := hHeld2
    clear hHeld2
    try simp only [Act.put, List.setIfInBounds_toArray, List.set_cons_zero, List.set_cons_succ]
    obtain ⟨lt, hl0, hl1, hl2, bl1, bl2⟩ := el8p x0 (by omega) (by omega) x1 (by omega) (by omega) x2 (by omega) (by omega) x3 (by omega) (by omega) y by1 by2
    refine wpAnyH_take (i := 14) (v := ?_) (by simp only [List.getElem?_toArray, List.getElem?_cons_zero, List.getElem?_cons_succ]; rfl) (by kernel_rfl) (by kernel_rfl) (by kernel_rfl) (by intro _ _ _ h; exact h) (Or.inl ⟨by rfl, ?_⟩) (by assumption) ?_
    rotate_left
    · (intro w9 hSw; (try dsimp only at hSw); go_simp <;> with_reducible rfl)
    try simp only [Act.put, List.setIfInBounds_toArray, List.set_cons_zero, List.set_cons_succ]
    refine wpAnyH_ready (rs := [9]) (by kernel_rfl) (by simp) ?_
    refine AllReadyH.cons (by simp only [List.getElem?_toArray, List.getElem?_cons_zero, List.getElem?_cons_succ]; rfl) (fun K hK => ?_) AllReadyH.nil
    go_simp
    refine hK.out _ _ ?_ (fun hHeld2 => ?_)
    · (try dsimp only); (first | omega | (simp; omega))
    clear hK K hHeld
    have hHeld := hHeld2
    clear hHeld2
    try simp only [Act.put, List.setIfInBounds_toArray, List.set_cons_zero, List.set_cons_succ]
    have hcl : (v4.alloc (.cells #[.int .i64 x0, .int .i64 x1, .int .i64 x2, .int .i64 x3, .int .i64 1000, .int .i64 1001, .int .i64 (-1), .int .i64 (-9223372036854775808)] 3)).cell? ⟨v4.heap.size, y.toNat, none⟩ = some (.int .i64 lt) := by simp [go_sem, *]
    refine wpAnyH_take (i := 12) (v := ?_) (by simp only [List.getElem?_toArray, List.getElem?_cons_zero, List.getElem?_cons_succ]; rfl) (by kernel_rfl) (by kernel_rfl) (by kernel_rfl) (by intro _ _ _ h; exact h) (Or.inl ⟨by rfl, ?_⟩) (by assumption) ?_
    rotate_left
    · (intro w9 hSw; (try dsimp only at hSw); go_simp <;> with_reducible rfl)
    try simp only [Act.put, List.setIfInBounds_toArray, List.set_cons_zero, List.set_cons_succ]
    refine wpAnyH_ready (rs := [13]) (by kernel_rfl) (by simp) ?_
    refine AllReadyH.cons (by simp only [List.getElem?_toArray, List.getElem?_cons_zero, List.getElem?_cons_succ]; rfl) (fun K hK => ?_) AllReadyH.nil
    go_simp
    refine hK.out _ _ ?_ (fun hHeld2 => ?_)
    · (try dsimp only); (first | omega | (simp; omega))
    clear hK K hHeld
    have hHeld := hHeld2
    clear hHeld2
    try simp only [Act.put, List.setIfInBounds_toArray, List.set_cons_zero, List.set_cons_succ]
    refine wpAnyH_take (i := 15) (v := ?_) (by simp only [List.getElem?_toArray, List.getElem?_cons_zero, List.getElem?_cons_succ]; rfl) (by kernel_rfl) (by kernel_rfl) (by kernel_rfl) (by intro _ _ _ h; exact h) (Or.inl ⟨by rfl, ?_⟩) (by assumption) ?_
    rotate_left
    · (intro w9 hSw; (try dsimp only at hSw); go_simp <;> with_reducible rfl)
    try simp only [Act.put, List.setIfInBounds_toArray, List.set_cons_zero, List.set_cons_succ]
    have kB : Kp R (w5.setCell ⟨g, k * 5 + 1, none⟩ (.int .i64 dt)) (v4.alloc (.cells #[.int .i64 x0, .int .i64 x1, .int .i64 x2, .int .i64 x3, .int .i64 1000, .int .i64 1001, .int .i64 (-1), .int .i64 (-9223372036854775808)] 3)) := kA.trans (kp_alloc hRv3 kv4 _)
    refine wpAnyH_done (by kernel_rfl) ?_ _
    go_wp2
    obtain ⟨hI, hcap⟩ := own_itsS (ownK (unhide HP) h2 kB) (by omega)
    refine bodyPost_ret (v := .tuple #[.slice (some ⟨g, 0, none⟩) (xs.set k ⟨x.q, dt, x.k, x.v, x.n⟩).length c2, .int .i64 lt]) (by simp (maxDischargeDepth := 9) [results, Try.results5, go_sem, *]) rfl ⟨_, c2, (xs.set k ⟨x.q, dt, x.k, x.v, x.n⟩), lt, rfl, hI, hcap, (by omega), hBd.tokset ⟨by omega, by omega⟩, ⟨by omega, by omega⟩, hbF.trans (kB.low.mono (by omega))⟩
end Go.Proofs.Ytikhmgkoodoeoaa
