/- Proved here: items without others, by the specification: one behind the other. -/
import Derived.Test.YtlokeogoneoanaaWoutM
import Derived.Test.YtlokeogoneoanaaStepA
import Derived.Test.YtlokeogoneoanaaOwnB
import Derived.BigQuiet
import Derived.Deep.Onto
namespace Go.Proofs.Ytlokeogoneoanaa
open Go.ChangeShapes Go.WideShapes Go.ChangeAt Go.RowKit
set_option linter.unusedVariables false


theorem flatIw_take (xs : List IwR) (k : Nat) : flatIw (xs.take k) = (flatIw xs).take (k * 5) := by
  induction xs generalizing k with
  | nil => simp [flatIw]
  | cons x t ih =>
    cases k with
    | zero => simp [flatIw]
    | succ k =>
      have e1 : flatIw (x :: t) = x.cells ++ flatIw t := by simp [flatIw]
      have e2 : flatIw ((x :: t).take (k + 1)) = x.cells ++ flatIw (t.take k) := by simp [flatIw]
      rw [e1, e2, ih, show (k + 1) * 5 = x.cells.length + k * 5 by simp [IwR.cells]; omega, List.take_length_add_append]
theorem flatIw_drop (xs : List IwR) (k : Nat) : flatIw (xs.drop k) = (flatIw xs).drop (k * 5) := by
  induction xs generalizing k with
  | nil => simp [flatIw]
  | cons x t ih =>
    cases k with
    | zero => simp [flatIw]
    | succ k =>
      have e1 : flatIw (x :: t) = x.cells ++ flatIw t := by simp [flatIw]
      rw [e1, List.drop_succ_cons, ih, show (k + 1) * 5 = x.cells.length + k * 5 by simp [IwR.cells]; omega, List.drop_length_add_append]
theorem flatIw_app (xs ys : List IwR) : flatIw (xs ++ ys) = flatIw xs ++ flatIw ys := by simp [flatIw]
theorem flatIw_one (xs : List IwR) : ∀ u ∈ flatIw xs, u.oneCell' = true := by
  intro u hu
  obtain ⟨x, _, hx⟩ := List.mem_flatMap.1 hu
  simp [IwR.cells] at hx
  rcases hx with rfl | rfl | rfl | rfl | rfl <;> rfl
theorem newsIw {W : World} {g o n : Nat} {xs : List IwR} (h : IwRs W (some ⟨g, o, none⟩) n xs) : ∀ j u, (flatIw xs)[j]? = some u → W.cell? ((⟨g, o, none⟩ : Addr).add j) = some u := by
  intro j u hu
  have e : ((⟨g, o, none⟩ : Addr).add j) = ⟨g, o + j, none⟩ := by
    unfold Addr.add
    split
    · rename_i h0; rw [h0]; rfl
    · rfl
  rw [e]
  have hj : j < xs.length * 5 := by
    rcases Nat.lt_or_ge j (flatIw xs).length with h' | h'
    · rw [flatIw_len] at h'; exact h'
    · rw [List.getElem?_eq_none h'] at hu; cases hu
  obtain ⟨x, hx⟩ : ∃ x, xs[j / 5]? = some x := ⟨_, List.getElem?_eq_getElem (by omega)⟩
  obtain ⟨g', o', e', hr⟩ := h.2.2.resolve_left (by have := h.1; omega)
  simp only [Option.some.injEq, Addr.mk.injEq] at e'
  obtain ⟨rfl, rfl, _⟩ := e'
  obtain ⟨d0, d1, d2, d3, d4⟩ := hr _ _ hx
  obtain ⟨f0, f1, f2, f3, f4⟩ := flatIw_get hx
  rcases (show j = j / 5 * 5 ∨ j = j / 5 * 5 + 1 ∨ j = j / 5 * 5 + 2 ∨ j = j / 5 * 5 + 3 ∨ j = j / 5 * 5 + 4 by omega) with e | e | e | e | e
  · rw [e] at hu ⊢; rw [f0] at hu; cases hu; exact d0
  · rw [e] at hu ⊢; rw [f1] at hu; cases hu; rw [← Nat.add_assoc]; exact d1
  · rw [e] at hu ⊢; rw [f2] at hu; cases hu; rw [← Nat.add_assoc]; exact d2
  · rw [e] at hu ⊢; rw [f3] at hu; cases hu; rw [← Nat.add_assoc]; exact d3
  · rw [e] at hu ⊢; rw [f4] at hu; cases hu; rw [← Nat.add_assoc]; exact d4
theorem IwRs.from {W : World} {g o n : Nat} {xs : List IwR} (h : IwRs W (some ⟨g, o, none⟩) n xs) (k : Nat) (hk : k ≤ n) : IwRs W (some ⟨g, o + k * 5, none⟩) (n - k) (xs.drop k) := by
  obtain ⟨h1, h2, h3⟩ := h
  refine ⟨by rw [List.length_drop, h1], by omega, ?_⟩
  rcases Nat.lt_or_ge k n with hlt | hge
  · obtain ⟨g', o', e', hr⟩ := h3.resolve_left (by omega)
    simp only [Option.some.injEq, Addr.mk.injEq] at e'
    obtain ⟨rfl, rfl, _⟩ := e'
    refine Or.inr ⟨_, _, rfl, fun i x hx => ?_⟩
    rw [List.getElem?_drop] at hx
    have := hr _ _ hx
    rw [show o + k * 5 + i * 5 = o + (k + i) * 5 by omega]
    exact this
  · exact Or.inl (by omega)
theorem IwRs.upto {W : World} {g o n : Nat} {xs : List IwR} (h : IwRs W (some ⟨g, o, none⟩) n xs) (k : Nat) (hk : k ≤ n) : IwRs W (some ⟨g, o, none⟩) k (xs.take k) := by
  obtain ⟨h1, h2, h3⟩ := h
  refine ⟨by rw [List.length_take, h1]; omega, by omega, ?_⟩
  rcases Nat.lt_or_ge 0 k with hlt | hge
  · obtain ⟨g', o', e', hr⟩ := h3.resolve_left (by omega)
    simp only [Option.some.injEq, Addr.mk.injEq] at e'
    obtain ⟨rfl, rfl, _⟩ := e'
    refine Or.inr ⟨_, _, rfl, fun i x hx => ?_⟩
    rw [List.getElem?_take] at hx
    split at hx
    · exact hr _ _ hx
    · cases hx
  · exact Or.inl (by omega)
theorem own_cap {W : World} {B n c : Nat} {a : Option Addr} {ys : List IwR} (h : OwnIw W B (.slice a n c) ys) : n ≤ c := by
  rcases h.2 with ⟨h, h0⟩ | ⟨g, cap, cur, h, _, _, h9, _⟩
  · cases h; exact Nat.le_refl _
  · cases h; exact h9
theorem own_geW {W : World} {B n : Nat} {v : Value} {ys : List Value} (h : W.ownsRow B 35 5 v n ys) : ∀ k, v.ownBlock = some k → B ≤ k := by
  intro k hk
  rcases h.2 with ⟨rfl, _⟩ | ⟨g, cap, cur, rfl, hg, _⟩
  · cases hk
  · simp [Value.ownBlock] at hk; omega
theorem own_litW {W : World} {B g : Nat} (h : B ≤ W.heap.size) (hg : g = W.heap.size) : OwnIw (W.alloc (.cells #[] 35)) B (.slice (some ⟨g, 0, none⟩) 0 0) [] := by
  subst hg
  exact World.ownsRow_lit (base := B) (size := 5) W #[] 0 h (by decide) (by simp)

set_option linter.unusedSimpArgs false in
set_option maxRecDepth 20000 in
set_option maxHeartbeats 4000000 in
theorem specwo_any (g o len cap : Nat) (b : Option Addr) (len2 cap2 : Nat) (xs gs : List IwR) (w : World) (h : IwRs w (some ⟨g, o, none⟩) len xs) (h2 : IwRs w b len2 gs) (hl : len ≤ 1048576) (hl2 : len2 ≤ 1048576) : Calls Try.prog 7 #[.slice (some ⟨g, o, none⟩) len cap, .slice b len2 cap2] w fun e w' => ∃ v, e = .returned v ∧ OwnIw w' w.heap.size v (woS xs gs) ∧ Below w.heap.size w w' := by
  have hm := h.2.1
  have hm2 := h2.2.1
  unfold maxLen at hm hm2
  have hxl := h.1
  have hgl := h2.1
  obtain ⟨i0, hi, hz0', hz1', hz2'⟩ := info_parts Try.infoIw
  go_enter Try.func7, Try.ntmps7
  go_wp2_with (at_builtin; go_loud (refine wpList_append_own _ rfl _ _ 23 rfl w.heap.size 35 i0 _ 5 40 Try.underlying23 hi hz0' hz1' hz2' rfl (by decide) (.slice (some ⟨w.heap.size, 0, none⟩) 0 0) 0 [] rfl (own_litW (Nat.le_refl _) rfl) ⟨g, o, none⟩ len cap (flatIw xs) rfl (by rw [flatIw_len, hxl]) (newsIw (h.below (bel_one _ _))) (flatIw_one xs) (by unfold maxLen; omega) (by omega) (by simp) ?_); intro v1 w1 hown1 hgrow1 _)
  have hO1 : OwnIw w1 w.heap.size v1 xs := by
    have h9 := hown1
    rw [List.nil_append, Nat.zero_add] at h9
    unfold OwnIw
    rw [hxl]
    exact h9
  have HO1 := hide hO1
  have hb1 : Below w.heap.size w w1 := (bel_one _ _).grown hgrow1 (by simp) (fun k hk => by cases hk; exact Nat.le_refl _)
  clear hown1 hgrow1 hO1
  go_loopw [5, 6] (fun ov iv wr => ∃ i : Nat, i ≤ len2 ∧ iv = .int .i64 i ∧ Hid (OwnIw wr w.heap.size ov (woS xs (gs.take i))) ∧ Below w.heap.size w wr) (fun _ iv _ => len2 - (intOf iv).toNat)
  case atStart => exact ⟨0, Nat.zero_le _, rfl, HO1, hb1⟩
  case round =>
    clear HO1 hb1
    obtain ⟨i, hil, rfl, HO, hbw⟩ := hrel
    rename World => wo
    by_cases hlt : i < len2
    · obtain ⟨_, _, hy⟩ := h2
      obtain ⟨g2, o2, rfl, hr⟩ := hy.resolve_left (by omega)
      obtain ⟨y, hyk⟩ : ∃ y, gs[i]? = some y := ⟨_, List.getElem?_eq_getElem (by omega)⟩
      have HY := hide hyk
      have hY := (hr i _ hyk).below hbw (hr.lt (by omega))
      have hg2 : g2 < wo.heap.size := hY.lt
      have hzl := woS_len xs (gs.take i)
      obtain ⟨zs, hzs⟩ : ∃ zs, woS xs (gs.take i) = zs := ⟨_, rfl⟩
      have HZS := hide hzs
      rw [hzs] at hzl HO
      obtain ⟨av, cv, rfl, hS, -, -⟩ := holdIw (unhide HO) (by omega)
      obtain ⟨n, hn⟩ : ∃ n, zs.length = n := ⟨_, rfl⟩
      have HYA := hide hY
      have HS := hide hS
      have HNN := hide hn
      rw [hn] at hS hzl HS HO ⊢
      clear hyk hr hy hY hzs hn hS
      have hbs := hbw.size
      go_wp2
      go_loopw [5, 7] (fun ov kv wz => ∃ k : Nat, k ≤ n ∧ ov = .slice av n cv ∧ kv = .int .i64 k ∧ Hid (∀ m z, m < k → zs[m]? = some z → z ≠ y) ∧ Below wo.heap.size wo wz) (fun _ kv _ => n - (intOf kv).toNat)
      case atStart => exact ⟨0, Nat.zero_le _, rfl, rfl, hide (fun m z h9 => absurd h9 (by omega)), Below.refl _ _⟩
      case round =>
        obtain ⟨k, hkn, rfl, rfl, HN, hzr⟩ := hrel
        by_cases hlt2 : k < n
        · obtain ⟨x, hxk⟩ : ∃ x, zs[k]? = some x := ⟨_, List.getElem?_eq_getElem (by have := unhide HNN; omega)⟩
          have HX := hide hxk
          obtain ⟨g3, o3, rfl, hr3⟩ := (unhide HS).2.2.resolve_left (by omega)
          have hg3 : g3 < wo.heap.size := hr3.lt (by have := unhide HNN; omega)
          obtain ⟨d0, d1, d2, d3, d4⟩ := (hr3 k _ hxk).below hzr hg3
          obtain ⟨e0, e1, e2, e3, e4⟩ := (unhide HYA).below hzr hg2
          clear hxk hr3
          by_cases k0 : x.kd = y.kd
          case neg =>
            have k0' : (x.kd == y.kd) = false := by simpa using k0
            have HN2 : Hid (∀ m z, m < k + 1 → zs[m]? = some z → z ≠ y) := hide (fun m z hm hz => by
              rcases Nat.lt_or_ge m k with h9 | h9
              · exact unhide HN m z h9 hz
              · obtain rfl : m = k := by omega
                rw [unhide HX] at hz
                cases hz
                intro e9; exact k0 (by rw [e9]))
            clear HN
            go_wp2
            go_quiet (fail)
            go_wp2
            refine ⟨⟨k + 1, by omega, rfl, by first | rfl | (simp; done), HN2, (by repeat (first | (with_reducible exact Below.refl _ _) | (with_reducible assumption) | (with_reducible refine bel_set ?_ (by first | (simp; done) | (simp; omega)) _) | (with_reducible refine bel_alloc ?_ _) | (with_reducible refine bel_drew ?_) | (with_reducible refine bel_drewN ?_ _) | (with_reducible refine bel_trans ?_ (by with_reducible assumption))))⟩, ?_⟩
            simp [intOf]; omega
          by_cases k1 : x.tm = y.tm
          case neg =>
            have k1' : (x.tm == y.tm) = false := by simpa using k1
            have HN2 : Hid (∀ m z, m < k + 1 → zs[m]? = some z → z ≠ y) := hide (fun m z hm hz => by
              rcases Nat.lt_or_ge m k with h9 | h9
              · exact unhide HN m z h9 hz
              · obtain rfl : m = k := by omega
                rw [unhide HX] at hz
                cases hz
                intro e9; exact k1 (by rw [e9]))
            clear HN
            go_wp2
            go_quiet (fail)
            go_wp2
            refine ⟨⟨k + 1, by omega, rfl, by first | rfl | (simp; done), HN2, (by repeat (first | (with_reducible exact Below.refl _ _) | (with_reducible assumption) | (with_reducible refine bel_set ?_ (by first | (simp; done) | (simp; omega)) _) | (with_reducible refine bel_alloc ?_ _) | (with_reducible refine bel_drew ?_) | (with_reducible refine bel_drewN ?_ _) | (with_reducible refine bel_trans ?_ (by with_reducible assumption))))⟩, ?_⟩
            simp [intOf]; omega
          by_cases k2 : x.ke = y.ke
          case neg =>
            have k2' : (x.ke == y.ke) = false := by simpa using k2
            have HN2 : Hid (∀ m z, m < k + 1 → zs[m]? = some z → z ≠ y) := hide (fun m z hm hz => by
              rcases Nat.lt_or_ge m k with h9 | h9
              · exact unhide HN m z h9 hz
              · obtain rfl : m = k := by omega
                rw [unhide HX] at hz
                cases hz
                intro e9; exact k2 (by rw [e9]))
            clear HN
            go_wp2
            go_quiet (fail)
            go_wp2
            refine ⟨⟨k + 1, by omega, rfl, by first | rfl | (simp; done), HN2, (by repeat (first | (with_reducible exact Below.refl _ _) | (with_reducible assumption) | (with_reducible refine bel_set ?_ (by first | (simp; done) | (simp; omega)) _) | (with_reducible refine bel_alloc ?_ _) | (with_reducible refine bel_drew ?_) | (with_reducible refine bel_drewN ?_ _) | (with_reducible refine bel_trans ?_ (by with_reducible assumption))))⟩, ?_⟩
            simp [intOf]; omega
          by_cases k3 : x.va = y.va
          case neg =>
            have k3' : (x.va == y.va) = false := by simpa using k3
            have HN2 : Hid (∀ m z, m < k + 1 → zs[m]? = some z → z ≠ y) := hide (fun m z hm hz => by
              rcases Nat.lt_or_ge m k with h9 | h9
              · exact unhide HN m z h9 hz
              · obtain rfl : m = k := by omega
                rw [unhide HX] at hz
                cases hz
                intro e9; exact k3 (by rw [e9]))
            clear HN
            go_wp2
            go_quiet (fail)
            go_wp2
            refine ⟨⟨k + 1, by omega, rfl, by first | rfl | (simp; done), HN2, (by repeat (first | (with_reducible exact Below.refl _ _) | (with_reducible assumption) | (with_reducible refine bel_set ?_ (by first | (simp; done) | (simp; omega)) _) | (with_reducible refine bel_alloc ?_ _) | (with_reducible refine bel_drew ?_) | (with_reducible refine bel_drewN ?_ _) | (with_reducible refine bel_trans ?_ (by with_reducible assumption))))⟩, ?_⟩
            simp [intOf]; omega
          by_cases k4 : x.nn = y.nn
          case neg =>
            have k4' : (x.nn == y.nn) = false := by simpa using k4
            have HN2 : Hid (∀ m z, m < k + 1 → zs[m]? = some z → z ≠ y) := hide (fun m z hm hz => by
              rcases Nat.lt_or_ge m k with h9 | h9
              · exact unhide HN m z h9 hz
              · obtain rfl : m = k := by omega
                rw [unhide HX] at hz
                cases hz
                intro e9; exact k4 (by rw [e9]))
            clear HN
            go_wp2
            go_quiet (fail)
            go_wp2
            refine ⟨⟨k + 1, by omega, rfl, by first | rfl | (simp; done), HN2, (by repeat (first | (with_reducible exact Below.refl _ _) | (with_reducible assumption) | (with_reducible refine bel_set ?_ (by first | (simp; done) | (simp; omega)) _) | (with_reducible refine bel_alloc ?_ _) | (with_reducible refine bel_drew ?_) | (with_reducible refine bel_drewN ?_ _) | (with_reducible refine bel_trans ?_ (by with_reducible assumption))))⟩, ?_⟩
            simp [intOf]; omega
          obtain rfl : x = y := iw_ext k0 k1 k2 k3 k4
          have hOut : Hid (outW x zs = zs.take k ++ zs.drop (k + 1)) := hide (outW_at x zs k (fun m z hm hz => unhide HN m z hm hz) (unhide HX))
          have HSz : IwRs (wr.alloc (.cells #[] 35)) (some ⟨g3, o3, none⟩) n zs := ((unhide HS).below hzr).below (bel_one _ _)
          have hk1 : IntKind.i64.wrap ((k : Int) + 1) = (k : Int) + 1 := IntWalk.i64_in _ ⟨by omega, by omega⟩
          have hcn : n ≤ cv := own_cap (unhide HO)
          have hzs := hzr.size
          clear k0 k1 k2 k3 k4 HN
          go_wp2
          go_quiet (fail)
          go_wp2_with fail
          have hq : Below wr.heap.size wr (wr.drewN nq) := bel_drewN (Below.refl _ _) _
          generalize wr.drewN nq = wq at hq ⊢
          have hqs := hq.size
          have hkc : k ≤ cv := by omega
          have hk2 : (0 : Int) ≤ (k : Int) + 1 := by omega
          have hk3 : (k : Int) + 1 ≤ (n : Int) := by omega
          obtain ⟨oA, hA, hoA⟩ : ∃ oA, (if cv = k + 1 then some (⟨g3, o3, none⟩ : Addr) else some ⟨g3, o3 + (k + 1) * 5, none⟩) = some ⟨g3, oA, none⟩ ∧ (n - (k + 1) = 0 ∨ oA = o3 + (k + 1) * 5) := by
            by_cases hcv : cv = k + 1
            · exact ⟨o3, if_pos hcv, Or.inl (by omega)⟩
            · exact ⟨_, if_neg hcv, Or.inr rfl⟩
          have HSq := ((unhide HS).below hzr).below hq
          have hTk := HSq.upto k (by omega)
          have hDr : IwRs wq (some ⟨g3, oA, none⟩) (n - (k + 1)) (zs.drop (k + 1)) := by
            rcases hoA with h9 | h9
            · exact ⟨by rw [List.length_drop]; have := unhide HNN; omega, by omega, Or.inl h9⟩
            · rw [h9]; exact HSq.from (k + 1) (by omega)
          have HTk := hide (hTk.below (bel_alloc (bel_drew (Below.refl _ _)) (.cells #[] 35)))
          have HDr := hide (hDr.below (bel_alloc (bel_drew (Below.refl _ _)) (.cells #[] 35)))
          have hg3q : g3 < wq.heap.size := Nat.lt_of_lt_of_le hg3 (Nat.le_trans hzs hqs)
          have hnl := unhide HNN
          have hl1 : (zs.take k).length = k := by rw [List.length_take]; omega
          have hl2' : (zs.drop (k + 1)).length = n - (k + 1) := by rw [List.length_drop]; omega
          have HL1 := hide hl1
          have HL2 := hide hl2'
          clear hTk hDr HSq hoA hnl hl1 hl2' HSz
          refine wp_region_held_drew (S := (fun _ => True)) (by kernel_rfl) ?_ (fun hHeld => ?_)
          · (try dsimp only); (try trivial)
          refine wpAnyH_take (i := 1) (v := ?_) (by simp only [List.getElem?_toArray, List.getElem?_cons_zero, List.getElem?_cons_succ]; rfl) (by kernel_rfl) (by kernel_rfl) (by kernel_rfl) (by intro _ _ _ h; exact h) (Or.inl ⟨by rfl, ?_⟩) (by assumption) ?_
          rotate_left
          · (intro w9 hSw; (try dsimp only at hSw); go_simp <;> with_reducible rfl)
          try simp only [Act.put, List.setIfInBounds_toArray, List.set_cons_zero, List.set_cons_succ]
          refine wpAnyH_take (i := 2) (v := ?_) (by simp only [List.getElem?_toArray, List.getElem?_cons_zero, List.getElem?_cons_succ]; rfl) (by kernel_rfl) (by kernel_rfl) (by kernel_rfl) (by intro _ _ _ h; exact h) (Or.inl ⟨by rfl, ?_⟩) (by assumption) ?_
          rotate_left
          · (intro w9 hSw; (try dsimp only at hSw); go_simp <;> with_reducible rfl)
          try simp only [Act.put, List.setIfInBounds_toArray, List.set_cons_zero, List.set_cons_succ]
          refine wpAnyH_take (i := 3) (v := ?_) (by simp only [List.getElem?_toArray, List.getElem?_cons_zero, List.getElem?_cons_succ]; rfl) (by kernel_rfl) (by kernel_rfl) (by kernel_rfl) (by intro _ _ _ h; exact h) (Or.inl ⟨by rfl, ?_⟩) (by assumption) ?_
          rotate_left
          · (intro w9 hSw; (try dsimp only at hSw); go_simp <;> with_reducible rfl)
          try simp only [Act.put, List.setIfInBounds_toArray, List.set_cons_zero, List.set_cons_succ]
          refine wpAnyH_take (i := 5) (v := ?_) (by simp only [List.getElem?_toArray, List.getElem?_cons_zero, List.getElem?_cons_succ]; rfl) (by kernel_rfl) (by kernel_rfl) (by kernel_rfl) (by intro _ _ _ h; exact h) (Or.inl ⟨by rfl, ?_⟩) (by assumption) ?_
          rotate_left
          · (intro w9 hSw; (try dsimp only at hSw); go_simp <;> with_reducible rfl)
          try simp only [Act.put, List.setIfInBounds_toArray, List.set_cons_zero, List.set_cons_succ]
          refine wpAnyH_take (i := 6) (v := ?_) (by simp only [List.getElem?_toArray, List.getElem?_cons_zero, List.getElem?_cons_succ]; rfl) (by kernel_rfl) (by kernel_rfl) (by kernel_rfl) (by intro _ _ _ h; exact h) (Or.inl ⟨by rfl, ?_⟩) (by assumption) ?_
          rotate_left
          · (intro w9 hSw; (try dsimp only at hSw); go_simp <;> with_reducible rfl)
          try simp only [Act.put, List.setIfInBounds_toArray, List.set_cons_zero, List.set_cons_succ]
          refine wpAnyH_take (i := 7) (v := ?_) (by simp only [List.getElem?_toArray, List.getElem?_cons_zero, List.getElem?_cons_succ]; rfl) (by kernel_rfl) (by kernel_rfl) (by kernel_rfl) (by intro _ _ _ h; exact h) (Or.inl ⟨by rfl, ?_⟩) (by assumption) ?_
          rotate_left
          · (intro w9 hSw; (try dsimp only at hSw); go_simp <;> with_reducible rfl)
          try simp only [Act.put, List.setIfInBounds_toArray, List.set_cons_zero, List.set_cons_succ]
          refine wpAnyH_take (i := 8) (v := ?_) (by simp only [List.getElem?_toArray, List.getElem?_cons_zero, List.getElem?_cons_succ]; rfl) (by kernel_rfl) (by kernel_rfl) (by kernel_rfl) (by intro _ _ _ h; exact h) (Or.inl ⟨by rfl, ?_⟩) (by assumption) ?_
          rotate_left
          · (intro w9 hSw; (try dsimp only at hSw); go_simp <;> with_reducible rfl)
          try simp only [Act.put, List.setIfInBounds_toArray, List.set_cons_zero, List.set_cons_succ]
          refine wpAnyH_ready (rs := [0]) (by kernel_rfl) (by simp) ?_
          refine AllReadyH.cons (by simp only [List.getElem?_toArray, List.getElem?_cons_zero, List.getElem?_cons_succ]; rfl) (fun K hK => ?_) AllReadyH.nil
          go_simp
          refine hK.out _ _ ?_ (fun hHeld2 => ?_)
          · (try dsimp only); (try trivial)
          clear hK K hHeld
          have hHeld := hHeld2
          clear hHeld2
          try simp only [Act.put, List.setIfInBounds_toArray, List.set_cons_zero, List.set_cons_succ]
          refine wpAnyH_ready (rs := [4]) (by kernel_rfl) (by simp) ?_
          refine AllReadyH.cons (by simp only [List.getElem?_toArray, List.getElem?_cons_zero, List.getElem?_cons_succ]; rfl) (fun K hK => ?_) AllReadyH.nil
          refine step_append_at rfl _ _ 23 rfl w.heap.size 35 i0 _ 5 40 Try.underlying23 hi hz0' hz1' hz2' rfl (by decide) (.slice (some ⟨wq.heap.size, 0, none⟩) 0 0) 0 [] rfl (own_litW (W := wq.drew) (by simp; omega) (by simp)) ⟨g3, o3, none⟩ k cv (flatIw (zs.take k)) rfl (by rw [flatIw_len, unhide HL1]) (newsIw (unhide HTk)) (flatIw_one _) (by unfold maxLen; omega) (by omega) (by simp; omega) ?_
          intro v8 w8 hown8 hgrow8 _
          refine hK.out _ _ ?_ (fun hHeld2 => ?_)
          · (try dsimp only); (try trivial)
          clear hK K hHeld
          have hHeld := hHeld2
          clear hHeld2
          try simp only [Act.put, List.setIfInBounds_toArray, List.set_cons_zero, List.set_cons_succ]
          have hDr8 : IwRs w8 (some ⟨g3, oA, none⟩) (n - (k + 1)) (zs.drop (k + 1)) := (unhide HDr).grown hgrow8 (fun g9 o9 _ e9 e8 => by cases e9; simp [Value.ownBlock] at e8; omega)
          refine wpAnyH_ready (rs := [9]) (by kernel_rfl) (by simp) ?_
          refine AllReadyH.cons (by simp only [List.getElem?_toArray, List.getElem?_cons_zero, List.getElem?_cons_succ]; rfl) (fun K hK => ?_) AllReadyH.nil
          refine step_append_at rfl _ _ 23 rfl w.heap.size 35 i0 _ 5 40 Try.underlying23 hi hz0' hz1' hz2' rfl (by decide) v8 (0 + k) ([] ++ flatIw (zs.take k)) rfl hown8 ⟨g3, oA, none⟩ (n - (k + 1)) (cv - (k + 1)) (flatIw (zs.drop (k + 1))) rfl (by rw [flatIw_len, unhide HL2]) (newsIw hDr8) (flatIw_one _) (by unfold maxLen; omega) (by omega) (by have h9 := hgrow8.size; simp at h9; omega) ?_
          intro v9 w9 hown9 hgrow9 _
          refine hK.out _ _ ?_ (fun hHeld2 => ?_)
          · (try dsimp only); (try trivial)
          clear hK K hHeld
          have hHeld := hHeld2
          clear hHeld2
          try simp only [Act.put, List.setIfInBounds_toArray, List.set_cons_zero, List.set_cons_succ]
          refine wpAnyH_take (i := 10) (v := ?_) (by simp only [List.getElem?_toArray, List.getElem?_cons_zero, List.getElem?_cons_succ]; rfl) (by kernel_rfl) (by kernel_rfl) (by kernel_rfl) (by intro _ _ _ h; exact h) (Or.inl ⟨by rfl, ?_⟩) (by assumption) ?_
          rotate_left
          · (intro w9 hSw; (try dsimp only at hSw); go_simp <;> with_reducible rfl)
          try simp only [Act.put, List.setIfInBounds_toArray, List.set_cons_zero, List.set_cons_succ]
          refine wpAnyH_done (by kernel_rfl) ?_ _
          have hbq : Below w.heap.size w wq := bel_trans (bel_trans hbw hzr) hq
          have hb8 : Below w.heap.size w w8 := (bel_alloc (bel_drew hbq) _).grown hgrow8 (by have := hbq.size; simp; omega) (fun k9 hk => by simp [Value.ownBlock] at hk; have := hbq.size; omega)
          have hb9 : Below w.heap.size w w9 := hb8.grown hgrow9 hb8.size (own_geW hown8)
          have HO2 : Hid (OwnIw w9 w.heap.size v9 (woS xs (gs.take (i + 1)))) := hide (by
            rw [take_iw (unhide HY), woS_snoc, unhide HZS, unhide hOut]
            have h9 := hown9
            rw [List.nil_append, ← flatIw_app] at h9
            unfold OwnIw
            rw [List.length_append, unhide HL1, unhide HL2]
            rw [Nat.zero_add] at h9
            exact h9)
          clear hown9 hown8 hgrow8 hgrow9
          go_wp2
          refine ⟨⟨i + 1, by omega, by first | rfl | (simp; done), HO2, hb9⟩, ?_⟩
          simp [intOf]; omega
        · have hOut : Hid (outW y zs = zs) := hide (outW_none y zs (fun m z hm hz => unhide HN m z (by have := unhide HNN; omega) hz))
          have HO2 : Hid (OwnIw wr w.heap.size (.slice av n cv) (woS xs (gs.take (i + 1)))) := hide (by
            rw [take_iw (unhide HY), woS_snoc, unhide HZS, unhide hOut]
            exact ownBel (unhide HO) hzr)
          have hb2 : Below w.heap.size w wr := bel_trans hbw hzr
          clear HN
          go_wp2
          refine ⟨⟨i + 1, by omega, by first | rfl | (simp; done), HO2, hb2⟩, ?_⟩
          simp [intOf]; omega
    · have HQ : Hid (OwnIw wo w.heap.size u5 (woS xs gs)) := hide (by have h9 := unhide HO; rw [List.take_of_length_le (by omega)] at h9; exact h9)
      go_wp2
      go_ret
      exact ⟨_, rfl, unhide HQ, hbw⟩
end Go.Proofs.Ytlokeogoneoanaa
