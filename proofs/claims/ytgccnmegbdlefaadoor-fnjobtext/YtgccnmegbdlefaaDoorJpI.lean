/- Proved here: the lines of a job, in the program. -/
import Derived.Test.YtgccnmegbdlefaaDoorJpB
namespace Go.Proofs.YtgccnmegbdlefaaDoor
open Go.ChangeShapes Go.WideShapes Go.ChangeAt Go.RowKit
set_option linter.unusedVariables false
set_option linter.unusedSimpArgs false

theorem hd_1 {b i : Nat} {v : Value} {W W' : World} (h : W.cell? ⟨b, i, none⟩ = some v ∧ b < W.heap.size) (hb : Below W.heap.size W W') : W'.cell? ⟨b, i, none⟩ = some v ∧ b < W'.heap.size := ⟨(hb.cell (p := ⟨b, i, none⟩) h.2).trans h.1, Nat.lt_of_lt_of_le h.2 hb.size⟩
theorem idx_nums {A : Array Value} {ix : Nat} {n : Int} (h : A[ix]? = some (.int .i64 n)) (hx : ix < 10) (w : World) : (Instr.index 45 (.agg A) (.int .i64 (ix : Int))).run Tryd.prog w = .ok (.int .i64 n) w := by
  have h1 := Tryd.underlying45
  have h2 := Tryd.underlying3
  obtain ⟨hA, h3⟩ := Array.getElem?_eq_some_iff.1 h
  simp [Instr.index, asIntOf, go_sem, hx, part, h]
/-- What the words of a job's lines hold, in memory. -/
def WordsG (w : World) : Prop := (∀ (i : Nat) (x : ByteArray), jNames[i]? = some x → w.cell? ⟨0, i, none⟩ = some (.string x)) ∧ 0 < w.heap.size
theorem WordsG.below {w w' : World} (h : WordsG w) (hb : Below w.heap.size w w') : WordsG w' := ⟨fun i x hx => (hb.cell (p := ⟨0, i, none⟩) h.2).trans (h.1 i x hx), Nat.lt_of_lt_of_le h.2 hb.size⟩
theorem implnums_any (s t k z p l e : Int) (b : Bool) (v r : Int) (w : World) : Calls Tryd.prog 24 #[.agg #[.int .i64 s, .int .i64 t, .int .i64 k, .int .i64 z, .int .i64 p, .int .i64 l, .int .i64 e, .bool b, .int .i64 v, .int .i64 r]] w fun e' w' => ∃ A : Array Value, e' = .returned (.agg A) ∧ (∀ (i : Nat) (n : Int), (jNums s t k z p l e b v r)[i]? = some n → A[i]? = some (.int .i64 n)) ∧ Below w.heap.size w w' := by
  cases b
  · go_enter Tryd.func24, Tryd.ntmps24
    go_wp2
    refine bodyPost_ret (v := .agg ((jNums s t k z p l e false v r).map (Value.int .i64)).toArray) (by simp [results, Tryd.results24, go_sem, jNums]) rfl ⟨_, rfl, fun i n hn => by rw [List.getElem?_toArray, List.getElem?_map, hn]; rfl, (by repeat (first | (with_reducible refine bel_set ?_ (by first | (simp; done) | (simp; omega)) _) | (with_reducible refine bel_alloc ?_ _) | (with_reducible exact Below.refl _ _) | (with_reducible assumption) | (with_reducible refine bel_drew ?_) | (with_reducible refine bel_drewN ?_ _) | (with_reducible refine bel_trans ?_ (by with_reducible assumption))))⟩
  · go_enter Tryd.func24, Tryd.ntmps24
    go_wp2
    refine bodyPost_ret (v := .agg ((jNums s t k z p l e true v r).map (Value.int .i64)).toArray) (by simp [results, Tryd.results24, go_sem, jNums]) rfl ⟨_, rfl, fun i n hn => by rw [List.getElem?_toArray, List.getElem?_map, hn]; rfl, (by repeat (first | (with_reducible refine bel_set ?_ (by first | (simp; done) | (simp; omega)) _) | (with_reducible refine bel_alloc ?_ _) | (with_reducible exact Below.refl _ _) | (with_reducible assumption) | (with_reducible refine bel_drew ?_) | (with_reducible refine bel_drewN ?_ _) | (with_reducible refine bel_trans ?_ (by with_reducible assumption))))⟩

set_option maxRecDepth 20000 in
set_option maxHeartbeats 4000000 in
theorem impljobprint_any (s t k z p l e : Int) (b : Bool) (v r : Int) (w : World) (hG : WordsG w) (htab : Lib.TabIs Tryd.prog w "internal/strconv.uint64pow10" .u64 Lib.pow10Tab) : Calls Tryd.prog 7 #[.agg #[.int .i64 s, .int .i64 t, .int .i64 k, .int .i64 z, .int .i64 p, .int .i64 l, .int .i64 e, .bool b, .int .i64 v, .int .i64 r]] w fun e' w' => ∃ x, e' = .returned x ∧ OwnSt w' w.heap.size x (jobLines s t k z p l e b v r) ∧ Below w.heap.size w w' := by
  obtain ⟨i0, hi, hz0, hz1, hz2⟩ := info_parts Tryd.infoStr
  cases ho : okJob s t k z p l e v r
  · rw [jobLines_no ho]
    go_enter Tryd.func7, Tryd.ntmps7
    go_wp2_with (go_at_call 23; refine (impljobok_any s t k z p l e b v r _).mono ?_; rw [ho]; rintro e9 w1 ⟨rfl, hb⟩)
    go_ret
    exact ⟨_, rfl, World.ownsRow_nil _ _ _ _, (by repeat (first | (with_reducible exact Below.refl _ _) | (with_reducible assumption) | (with_reducible refine bel_set ?_ (by first | (simp; done) | (simp; omega)) _) | (with_reducible refine bel_alloc ?_ _) | (with_reducible refine bel_drew ?_) | (with_reducible refine bel_drewN ?_ _) | (with_reducible refine bel_trans ?_ (by with_reducible assumption))))⟩
  · rw [jobLines_ok ho]
    have hbd := hide (jNums_bd s t k z p l e b v r ho)
    have hLl : (jLines (jNums s t k z p l e b v r)).length = 10 := jLines_len rfl
    go_enter Tryd.func7, Tryd.ntmps7
    go_wp2_with (first
      | (go_at_call 23; refine (impljobok_any s t k z p l e b v r _).mono ?_; rw [ho]; rintro e9 w1 ⟨rfl, hb⟩; obtain ⟨hc1, hf1, hs1⟩ := bcell hb; (try have hz0 : w.heap.size < w1.heap.size := (by have h9 := hb.size; (try simp at h9); omega)))
      | (go_at_call 24; refine (implnums_any s t k z p l e b v r _).mono ?_; rintro e9 w2 ⟨A, rfl, hA, hb2⟩))
    have hb3 : Below w.heap.size w w2 := (by repeat (first | (with_reducible exact Below.refl _ _) | (with_reducible assumption) | (with_reducible refine bel_set ?_ (by first | (simp; done) | (simp; omega)) _) | (with_reducible refine bel_alloc ?_ _) | (with_reducible refine bel_drew ?_) | (with_reducible refine bel_drewN ?_ _) | (with_reducible refine bel_trans ?_ (by with_reducible assumption))))
    have HA := hide hA
    clear hc1 hf1 hs1 hz0 hA
    go_loopw [3, 11] (fun v' i wr => ∃ ix : Nat, ix ≤ 10 ∧ i = .int .i64 ix ∧ OwnSt wr w.heap.size v' ((jLines (jNums s t k z p l e b v r)).take ix) ∧ Below w.heap.size w wr) (fun _ i _ => 10 - (intOf i).toNat)
    case atStart => exact ⟨0, Nat.zero_le _, rfl, World.ownsRow_nil _ _ _ _, hb3⟩
    case round =>
      clear hb ho hb2 hb3
      obtain ⟨ix, hk, rfl, hO, hbw⟩ := hrel
      have hws := hbw.size
      have HO := hide hO
      have hge := hide (ownSt_ge hO)
      clear hO
      by_cases hlt : ix < 10
      · obtain ⟨x, hx, hxs⟩ := jNames_at hlt
        obtain ⟨n, hn⟩ := jNums_at s t k z p l e b v r hlt
        obtain ⟨hn1, hn2⟩ := unhide hbd n (List.mem_of_getElem? hn)
        have hds := decI_sz n hn1 hn2
        have HX := hide hx
        have HY := hide (jLines_at hx hn)
        have hA := unhide HA _ _ hn
        clear hx hn
        have n0 : ¬ 9223372036854775807 < x.size + 1 := by omega
        have n1 : ¬ 9223372036854775807 < x.size + 1 + (decI n).size := by omega
        have hGr := hG.below hbw
        have cg := hGr.1 _ _ (unhide HX)
        have sg := hGr.2
        have hidx := idx_nums hA hlt wr
        go_wp2_with (simp only [hidx])
        clear hidx
        refine wp_region_held_drew (S := (fun W => W.cell? ⟨0, ix, none⟩ = some (.string x) ∧ 0 < W.heap.size)) (by kernel_rfl) ?_ (fun hHeld => ?_)
        · (try dsimp only); exact ⟨cg, sg⟩
        refine wpAnyH_take (i := 0) (v := ?_) (by simp only [List.getElem?_toArray, List.getElem?_cons_zero, List.getElem?_cons_succ]; rfl) (by kernel_rfl) (by kernel_rfl) (by kernel_rfl) (by intro _ _ _ h; exact h) (Or.inl ⟨by rfl, ?_⟩) (by assumption) ?_
        rotate_left
        · (intro w9 hSw; (try dsimp only at hSw); go_simp <;> with_reducible rfl)
        try simp only [Act.put, List.setIfInBounds_toArray, List.set_cons_zero, List.set_cons_succ]
        refine wpAnyH_take (i := 1) (v := ?_) (by simp only [List.getElem?_toArray, List.getElem?_cons_zero, List.getElem?_cons_succ]; rfl) (by kernel_rfl) (by kernel_rfl) (by kernel_rfl) (by intro _ _ _ h; exact h) (Or.inl ⟨by rfl, ?_⟩) (by assumption) ?_
        rotate_left
        · (intro w9 hSw; (try dsimp only at hSw); go_simp <;> with_reducible rfl)
        try simp only [Act.put, List.setIfInBounds_toArray, List.set_cons_zero, List.set_cons_succ]
        refine wpAnyH_take (i := 2) (v := ?_) (by simp only [List.getElem?_toArray, List.getElem?_cons_zero, List.getElem?_cons_succ]; rfl) (by kernel_rfl) (by kernel_rfl) (by kernel_rfl) (by intro _ _ _ h; exact h) (Or.inl ⟨by rfl, ?_⟩) (by assumption) ?_
        rotate_left
        · (intro w9 hSw; (try dsimp only at hSw); go_simp <;> with_reducible rfl)
        try simp only [Act.put, List.setIfInBounds_toArray, List.set_cons_zero, List.set_cons_succ]
        refine wpAnyH_take (i := 3) (v := ?_) (by simp only [List.getElem?_toArray, List.getElem?_cons_zero, List.getElem?_cons_succ]; rfl) (by kernel_rfl) (by kernel_rfl) (by kernel_rfl) (by intro _ _ _ h; exact h) (Or.inl ⟨by rfl, ?_⟩) (by assumption) ?_
        rotate_left
        · (intro w9 hSw; (try dsimp only at hSw); go_simp <;> with_reducible rfl)
        try simp only [Act.put, List.setIfInBounds_toArray, List.set_cons_zero, List.set_cons_succ]
        refine wpAnyH_take (i := 4) (v := ?_) (by simp only [List.getElem?_toArray, List.getElem?_cons_zero, List.getElem?_cons_succ]; rfl) (by kernel_rfl) (by kernel_rfl) (by kernel_rfl) (by intro _ _ _ h; exact h) (Or.inl ⟨by rfl, ?_⟩) (by assumption) ?_
        rotate_left
        · (intro w9 hSw; (try dsimp only at hSw); go_simp <;> with_reducible rfl)
        try simp only [Act.put, List.setIfInBounds_toArray, List.set_cons_zero, List.set_cons_succ]
        refine wpAnyH_take (i := 5) (v := ?_) (by simp only [List.getElem?_toArray, List.getElem?_cons_zero, List.getElem?_cons_succ]; rfl) (by kernel_rfl) (by kernel_rfl) (by kernel_rfl) (by intro _ _ _ h; exact h) (Or.inl ⟨by rfl, ?_⟩) (by assumption) ?_
        rotate_left
        · (intro w9 hSw; (try dsimp only at hSw); go_simp <;> with_reducible rfl)
        try simp only [Act.put, List.setIfInBounds_toArray, List.set_cons_zero, List.set_cons_succ]
        refine wpAnyH_ready (rs := [6]) (by kernel_rfl) (by simp) ?_
        refine AllReadyH.cons (by simp only [List.getElem?_toArray, List.getElem?_cons_zero, List.getElem?_cons_succ]; rfl) (fun K hK => ?_) AllReadyH.nil
        go_simp
        (go_at_call 25; refine (itoaI_any n _ hn1 hn2 (by exact tab_bel htab (by repeat (first | (with_reducible exact Below.refl _ _) | (with_reducible assumption) | (with_reducible refine bel_set ?_ (by first | (simp; done) | (simp; omega)) _) | (with_reducible refine bel_alloc ?_ _) | (with_reducible refine bel_drew ?_) | (with_reducible refine bel_drewN ?_ _) | (with_reducible refine bel_trans ?_ (by with_reducible assumption)))))).mono ?_; rintro e9 wd ⟨rfl, hbwd⟩)
        (try go_wp2_with fail)
        refine hK.out _ _ ?_ (fun hHeld2 => ?_)
        · (try dsimp only); exact hd_1 ⟨cg, sg⟩ (by repeat (first | (with_reducible exact Below.refl _ _) | (with_reducible assumption) | (with_reducible refine bel_set ?_ (by first | (simp; done) | (simp; omega)) _) | (with_reducible refine bel_alloc ?_ _) | (with_reducible refine bel_drew ?_) | (with_reducible refine bel_drewN ?_ _) | (with_reducible refine bel_trans ?_ (by with_reducible assumption))))
        clear hK K hHeld
        have hHeld := hHeld2
        clear hHeld2
        try simp only [Act.put, List.setIfInBounds_toArray, List.set_cons_zero, List.set_cons_succ]
        refine wpAnyH_take (i := 7) (v := ?_) (by simp only [List.getElem?_toArray, List.getElem?_cons_zero, List.getElem?_cons_succ]; rfl) (by kernel_rfl) (by kernel_rfl) (by kernel_rfl) (by intro _ _ _ h; exact h) (Or.inl ⟨by rfl, ?_⟩) (by assumption) ?_
        rotate_left
        · (intro w9 hSw; (try dsimp only at hSw); go_simp <;> with_reducible rfl)
        try simp only [Act.put, List.setIfInBounds_toArray, List.set_cons_zero, List.set_cons_succ]
        refine wpAnyH_ready (rs := [8]) (by kernel_rfl) (by simp) ?_
        refine AllReadyH.cons (by simp only [List.getElem?_toArray, List.getElem?_cons_zero, List.getElem?_cons_succ]; rfl) (fun K hK => ?_) AllReadyH.nil
        go_simp
        refine hK.out _ _ ?_ (fun hHeld2 => ?_)
        · (try dsimp only); exact hd_1 ⟨cg, sg⟩ (by repeat (first | (with_reducible exact Below.refl _ _) | (with_reducible assumption) | (with_reducible refine bel_set ?_ (by first | (simp; done) | (simp; omega)) _) | (with_reducible refine bel_alloc ?_ _) | (with_reducible refine bel_drew ?_) | (with_reducible refine bel_drewN ?_ _) | (with_reducible refine bel_trans ?_ (by with_reducible assumption))))
        clear hK K hHeld
        have hHeld := hHeld2
        clear hHeld2
        try simp only [Act.put, List.setIfInBounds_toArray, List.set_cons_zero, List.set_cons_succ]
        refine wpAnyH_ready (rs := [9]) (by kernel_rfl) (by simp) ?_
        refine AllReadyH.cons (by simp only [List.getElem?_toArray, List.getElem?_cons_zero, List.getElem?_cons_succ]; rfl) (fun K hK => ?_) AllReadyH.nil
        refine step_append_at rfl (.tmp 15) (.tmp 23) 26 rfl w.heap.size 9 i0 _ 1 16 Tryd.underlying26 hi hz0 hz1 hz2 rfl (by decide) u3 ix (flatSt ((jLines (jNums s t k z p l e b v r)).take ix)) (by simp [Act.eval]) ?own ⟨wd.heap.size, 0, none⟩ 1 1 [.string (lineOf x n).s] (by simp [Act.eval, lineOf]) rfl ?cel (by simp [Value.oneCell']) (by unfold maxLen; omega) (by omega) (by have h9 := (show Below w.heap.size w wd from (by repeat (first | (with_reducible exact Below.refl _ _) | (with_reducible assumption) | (with_reducible refine bel_set ?_ (by first | (simp; done) | (simp; omega)) _) | (with_reducible refine bel_alloc ?_ _) | (with_reducible refine bel_drew ?_) | (with_reducible refine bel_drewN ?_ _) | (with_reducible refine bel_trans ?_ (by with_reducible assumption))))).size; simp at h9 ⊢; omega) ?_
        case own => exact own_eq (by rw [hLl]; omega) (World.ownsRow.alloc (ownBel (unhide HO) (by repeat (first | (with_reducible exact Below.refl _ _) | (with_reducible assumption) | (with_reducible refine bel_set ?_ (by first | (simp; done) | (simp; omega)) _) | (with_reducible refine bel_alloc ?_ _) | (with_reducible refine bel_drew ?_) | (with_reducible refine bel_drewN ?_ _) | (with_reducible refine bel_trans ?_ (by with_reducible assumption))))) _)
        case cel => exact cells_newSt wd (lineOf x n).s _
        intro v' w1 hown' hgrow _
        have hb1 : Below w.heap.size w w1 := (show Below w.heap.size w _ from (by repeat (first | (with_reducible exact Below.refl _ _) | (with_reducible assumption) | (with_reducible refine bel_set ?_ (by first | (simp; done) | (simp; omega)) _) | (with_reducible refine bel_alloc ?_ _) | (with_reducible refine bel_drew ?_) | (with_reducible refine bel_drewN ?_ _) | (with_reducible refine bel_trans ?_ (by with_reducible assumption))))).grown hgrow (by have h9 := (show Below w.heap.size w wd from (by repeat (first | (with_reducible exact Below.refl _ _) | (with_reducible assumption) | (with_reducible refine bel_set ?_ (by first | (simp; done) | (simp; omega)) _) | (with_reducible refine bel_alloc ?_ _) | (with_reducible refine bel_drew ?_) | (with_reducible refine bel_drewN ?_ _) | (with_reducible refine bel_trans ?_ (by with_reducible assumption))))).size; simp at h9 ⊢; omega) (fun k9 h9 => by have := unhide hge _ h9; omega)
        refine hK.out _ _ ?_ (fun hHeld2 => ?_)
        · (try dsimp only); exact ⟨(hb1.cell (p := ⟨0, ix, none⟩) hG.2).trans (hG.1 _ _ (unhide HX)), by have h9 := hb1.size; have h8 := hG.2; omega⟩
        clear hK K hHeld
        have hHeld := hHeld2
        clear hHeld2
        try simp only [Act.put, List.setIfInBounds_toArray, List.set_cons_zero, List.set_cons_succ]
        refine wpAnyH_take (i := 10) (v := ?_) (by simp only [List.getElem?_toArray, List.getElem?_cons_zero, List.getElem?_cons_succ]; rfl) (by kernel_rfl) (by kernel_rfl) (by kernel_rfl) (by intro _ _ _ h; exact h) (Or.inl ⟨by rfl, ?_⟩) (by assumption) ?_
        rotate_left
        · (intro w9 hSw; (try dsimp only at hSw); go_simp <;> with_reducible rfl)
        try simp only [Act.put, List.setIfInBounds_toArray, List.set_cons_zero, List.set_cons_succ]
        refine wpAnyH_done (by kernel_rfl) ?_ _
        go_wp2
        go_roundw
        case rel => exact ⟨ix + 1, by omega, by go_num, own_snocS (by rw [hLl]; omega) (unhide HY) hown', hb1⟩
        case measure => simp [intOf]; omega
      · go_wp2
        go_ret
        have HE : (jLines (jNums s t k z p l e b v r)).take ix = jLines (jNums s t k z p l e b v r) := List.take_of_length_le (by omega)
        have h8 := unhide HO
        rw [HE] at h8
        exact ⟨_, rfl, h8, (by repeat (first | (with_reducible exact Below.refl _ _) | (with_reducible assumption) | (with_reducible refine bel_set ?_ (by first | (simp; done) | (simp; omega)) _) | (with_reducible refine bel_alloc ?_ _) | (with_reducible refine bel_drew ?_) | (with_reducible refine bel_drewN ?_ _) | (with_reducible refine bel_trans ?_ (by with_reducible assumption))))⟩
end Go.Proofs.YtgccnmegbdlefaaDoor
