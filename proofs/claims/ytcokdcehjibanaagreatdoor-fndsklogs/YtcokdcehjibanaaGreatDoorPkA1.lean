/- Laid together: texts that were built one by one. -/
import Derived.Test.YtcokdcehjibanaaGreatDoorPkA0
import Derived.RangeFuncBox
import Derived.Test.YtcokdcehjibanaaGreatDoorDrawItm
import Derived.Test.YtcokdcehjibanaaGreatDoorLogSpec
import Derived.Deep.Onto
import Derived.Deep.RegionHeld3
import Derived.Test.YtcokdcehjibanaaGreatDoorWin
/- Proved here: the logs of lines, in the specification. -/
namespace Go.Proofs.YtcokdcehjibanaaGreatDoor
open Go.ChangeShapes Go.WideShapes Go.ChangeAt Go.RowKit
set_option linter.unusedVariables false

set_option linter.unusedSimpArgs false
theorem Tryz.infoLg : (Tryz.prog.info? 40).map (fun i => (i.zero, i.size, i.bytes)) = some (some (.slice none 0 0), 1, 24) := by kernel_rfl
theorem cell_al (W : World) (o : Obj) {g k : Nat} (h : g < W.heap.size) : (W.alloc o).cell? ⟨g, k, none⟩ = W.cell? ⟨g, k, none⟩ := World.cell?_of_block (w := W) (Below.heap_alloc W o g h)
theorem lgh_lt {W : World} {B : Nat} {o : Obj} (h : W.heap[B]? = some o) : B < W.heap.size := (Array.getElem?_eq_some_iff.1 h).1
theorem cell_new1L (w : World) {g : Nat} (hg : g = w.heap.size) (u : Value) (ty : Nat) : ∀ j x, ([u] : List Value)[j]? = some x → (w.alloc (.cells #[u] ty)).cell? ((⟨g, 0, none⟩ : Addr).add j) = some x := by
  subst hg
  intro j x hx
  cases j with
  | zero => simp at hx; subst hx; simp [go_sem, Addr.add]
  | succ j => simp at hx
/-- What DskLogs answers. -/
def DsP (rs : List (Option (Option It))) (w : World) (e : Ending) (w' : World) : Prop := ∃ v us, e = .returned (.tuple #[v, .int .i64 (dskL rs).2]) ∧ LgO w' w.heap.size v us (dskL rs).1 ∧ Below w.heap.size w w'
theorem dsp_no {rs : List (Option (Option It))} {w w1 : World} {g : Nat} {c : Int} (h : dskL rs = ([], c)) (hb : Below w.heap.size w w1) (hg : g = w1.heap.size) : DsP rs w (.returned (.tuple #[.slice (some ⟨g, 0, none⟩) 0 0, .int .i64 c])) (w1.alloc (.cells #[] 40)) := by
  unfold DsP
  rw [h]
  exact ⟨_, [], rfl, LgO.nil0 (ownLit _ _ hb.size hg), bel_alloc hb _⟩
theorem dsp_nil {rs : List (Option (Option It))} {w w1 : World} {c : Int} (h : dskL rs = ([], c)) (hb : Below w.heap.size w w1) : DsP rs w (.returned (.tuple #[.slice none 0 0, .int .i64 c])) w1 := by
  unfold DsP
  rw [h]
  exact ⟨_, [], rfl, LgO.nil0 (World.ownsRow_nil _ _ _ _), hb⟩
theorem dsp_ok {rs : List (Option (Option It))} {w w1 : World} {v : Value} {us : List Value} {Ls : List (List It)} (h : dskL rs = (Ls, 0)) (hO : LgO w1 w.heap.size v us Ls) (hb : Below w.heap.size w w1) : DsP rs w (.returned (.tuple #[v, .int .i64 0])) w1 := by
  unfold DsP
  rw [h]
  exact ⟨_, us, rfl, hO, hb⟩
/-- The last log, ahead of its next item. -/
theorem LgO.tip {W : World} {B : Nat} {v : Value} {us : List Value} {Ls : List (List It)} (h : LgO W B v us Ls) (hp : 0 < Ls.length) (hl : ∀ l ∈ Ls, l.length ≤ 1000) : ∃ k g cap l b d, Ls.length = k + 1 ∧ v = .slice (some ⟨g, 0, none⟩) (k + 1) cap ∧ Ls[k]? = some l ∧ us[k]? = some (.slice b l.length d) ∧ l.length ≤ 1000 ∧ W.cell? ⟨g, k, none⟩ = some (.slice b l.length d) ∧ g < W.heap.size ∧ OwnIts W B (.slice b l.length d) l ∧ W.frozen? ⟨g, k, none⟩ = false ∧ (Value.slice b l.length d).ownBlock ≠ some g := by
  obtain ⟨k, hk⟩ : ∃ k, Ls.length = k + 1 := ⟨Ls.length - 1, by omega⟩
  obtain ⟨g, cap, e, _, hg, _⟩ := h.shape hp
  obtain ⟨l, hlk⟩ : ∃ l, Ls[k]? = some l := ⟨_, List.getElem?_eq_getElem (by omega)⟩
  have hll := hl l (List.mem_of_getElem? hlk)
  subst e
  obtain ⟨b, d, hu, hc, _⟩ := h.at_ hlk (Nat.le_trans hll (by decide))
  have hO := h.own k _ l hu hlk
  refine ⟨k, g, cap, l, b, d, hk, by rw [hk], hlk, hu, hll, hc, hg, hO, h.frozen k, fun e9 => ?_⟩
  rcases lg_ne hO h.row (by decide) with h1 | h1
  · rw [h1] at e9; cases e9
  · exact h1 e9
/-- Behind the store. -/
theorem LgO.tipped {W w9 : World} {o : Obj} {B g cap k : Nat} {v9 : Value} {us : List Value} {Ls : List (List It)} {l : List It} {b : Option Addr} {d : Nat} {x : It} (h : LgO W B (.slice (some ⟨g, 0, none⟩) (k + 1) cap) us Ls) (hB : B ≤ W.heap.size) (hk : Ls.length = k + 1) (hu : us[k]? = some (.slice b l.length d)) (hl : Ls[k]? = some l) (hown : w9.ownsRow B 45 5 v9 (l.length + 1) (flat l ++ x.cells)) (hg : (W.alloc o).grownBy w9 (Value.slice b l.length d).ownBlock) (hn : v9.ownBlock = (Value.slice b l.length d).ownBlock ∨ v9.ownBlock = some (W.alloc o).heap.size) : LgO (w9.setCell ⟨g, k, none⟩ v9) B (.slice (some ⟨g, 0, none⟩) (putL Ls (some x)).length cap) (us.set k v9) (putL Ls (some x)) := by
  have e : Ls.length - 1 = k := by omega
  rw [← hk] at h
  have h1 := h.last hB hu hl hown hg hn
  have h2 : putL Ls (some x) = Ls.set k (l ++ [x]) := by rw [put_last (by rw [e]; exact hl), e]
  rw [h2, List.length_set]
  exact h1
theorem own_empty {W : World} {B g : Nat} (h : B ≤ W.heap.size) (hg : g = W.heap.size) : OwnIts (W.alloc (.cells #[] 45)) B (.slice (some ⟨g, 0, none⟩) 0 0) [] := ownLit 45 5 h hg
theorem putL_len {Ls : List (List It)} {x : It} : (putL Ls (some x)).length = Ls.length := by show (Ls.set _ _).length = _; rw [List.length_set]
theorem lg_cast {W : World} {B g cap n m : Nat} {us : List Value} {Ls : List (List It)} (e : n = m) (h : LgO W B (.slice (some ⟨g, 0, none⟩) n cap) us Ls) : LgO W B (.slice (some ⟨g, 0, none⟩) m cap) us Ls := by rw [← e]; exact h
theorem lg_start (w : World) : LgO ((w.alloc (.cells #[] 45)).alloc (.cells #[.slice (some ⟨w.heap.size, 0, none⟩) 0 0] 40)) w.heap.size (.slice (some ⟨w.heap.size + 1, 0, none⟩) 1 1) [.slice (some ⟨w.heap.size, 0, none⟩) 0 0] [[]] := by
  refine LgO.one ?_ (World.ownsRow.alloc (own_empty (Nat.le_refl _) rfl) _)
  have h1 := World.ownsRow_lit (base := w.heap.size) (e := 40) (size := 1) (w.alloc (.cells #[] 45)) #[.slice (some ⟨w.heap.size, 0, none⟩) 0 0] 1 (by simp) (by decide) (by simp)
  rw [World.size_alloc] at h1
  exact h1
set_option maxRecDepth 20000 in
set_option maxHeartbeats 4000000 in
theorem specdsk_any (a : Option Addr) (len cap : Nat) (L : List ByteArray) (rs : List (Option (Option It))) (w : World) (h : StRs w a len (stL L)) (hs : ∀ x ∈ L, x.size ≤ 1048576) (hl : len ≤ 1048576) (hr : LnAll L rs) : Calls Tryz.prog 8 #[.slice a len cap] w fun e w' => DsP rs w e w' := by
  obtain ⟨i0, hi, hz0, hz1, hz2⟩ := info_parts Tryz.infoLg
  obtain ⟨i5, hi5, hz50, hz51, hz52⟩ := info_parts Tryz.infoItm
  have hLl : L.length = len := by have := h.1; rw [stL_len] at this; exact this
  have hRl : rs.length = len := hr.1.trans hLl
  have HS := hide hs
  have HR := hide hr.2
  clear hs hr
  go_enter Tryz.func8, Tryz.ntmps8
  by_cases hlong : 400 < len
  · have HD := hide (dskL_long (rs := rs) (by omega))
    have hd1 : decide ((400 : Int) < (len : Int)) = true := by simp; omega
    go_wp2
    refine bodyPost_ret (v := .tuple #[_, _]) (by simp (maxDischargeDepth := 9) [results, Tryz.results8, go_sem, *]; exact ⟨rfl, rfl⟩) rfl ?_
    exact dsp_no (unhide HD) (Below.refl _ _) rfl
  have hd1 : decide ((400 : Int) < (len : Int)) = false := by simp; omega
  go_wp2
  go_loopw [4, 5] (fun v i wr => ∃ (ix : Nat) (us : List Value) (Ls : List (List It)), ix ≤ len ∧ i = .int .i64 ix ∧ Hid (LgO wr w.heap.size v us Ls) ∧ Hid (DInv rs ix Ls) ∧ Below w.heap.size w wr) (fun _ i _ => len - (intOf i).toNat)
  case atStart => exact ⟨0, [.slice (some ⟨w.heap.size, 0, none⟩) 0 0], [[]], Nat.zero_le _, rfl, hide (lg_start w), hide (DInv.start rs), bel_alloc (bel_one _ _) _⟩
  case round =>
    obtain ⟨ix, us, Ls, hk, rfl, HO, HI, hbw⟩ := hrel
    have hws := hbw.size
    by_cases hlt : ix < len
    · obtain ⟨x0, hx0⟩ : ∃ x0, L[ix]? = some x0 := ⟨_, List.getElem?_eq_getElem (by omega)⟩
      obtain ⟨r, hr⟩ : ∃ r, rs[ix]? = some r := ⟨_, List.getElem?_eq_getElem (by omega)⟩
      have HLn := hide (unhide HR ix x0 r hx0 hr)
      have HRr := hide hr
      obtain ⟨g0, o0, rfl⟩ : ∃ g o, a = some ⟨g, o, none⟩ := by
        obtain ⟨g, o, ha, _⟩ := h.2.2.resolve_left (by omega)
        exact ⟨g, o, ha⟩
      obtain ⟨d0, hg0⟩ := st_at (h.below hbw) hx0
      have hsz := unhide HS x0 (List.mem_of_getElem? hx0)
      clear hx0 hr
      by_cases hda : x0 = dashB
      · have ty := toL_yes (x := x0) (l := [45]) hda
        have e1 := (unhide HLn).dash hda
        subst e1
        obtain ⟨av, cv, rfl⟩ := (unhide HO).slice
        have hpp := (unhide HI).pos
        have hle := (unhide HI).le
        have hLL : Ls.length ≤ 401 := by omega
        have hO1 : Hid (LgO (wr.alloc (.cells #[] 45)) w.heap.size (.slice av Ls.length cv) us Ls) := hide ((unhide HO).bel (bel_one _ _))
        have hls : ∀ (i : Nat) (u' : Value) (b : Nat), us[i]? = some u' → u'.ownBlock = some b → (Value.slice (some ⟨wr.heap.size, 0, none⟩) 0 0).ownBlock ≠ some b := fun i u' b hu hb e9 => by
          have h1 := ((unhide HO).lts hu hb).2
          have h2 : wr.heap.size = b := Option.some.inj e9
          omega
        have HLS := hide hls
        clear hls hda
        go_wp2_with (at_builtin; go_loud (refine wpList_append_own _ rfl _ _ 23 rfl w.heap.size 40 i0 _ 1 24 Tryz.underlying23 hi hz0 hz1 hz2 rfl (by decide) (.slice av Ls.length cv) _ _ rfl (World.ownsRow.alloc (unhide hO1).row _) ⟨wr.heap.size + 1, 0, none⟩ 1 1 [.slice (some ⟨wr.heap.size, 0, none⟩) 0 0] rfl rfl (cell_new1L (wr.alloc (.cells #[] 45)) (by simp) _ _) (by simp [Value.oneCell']) (by unfold maxLen; omega) (by omega) (by simp; omega) ?_); intro v' w5 hown hgrow _)
        have hge := (unhide hO1).row.lt
        go_roundw
        case rel =>
          refine ⟨ix + 1, us ++ [.slice (some ⟨wr.heap.size, 0, none⟩) 0 0], Ls ++ [[]], by omega, by go_num, hide ((unhide hO1).push (own_empty hws rfl) (unhide HLS) hown hgrow), hide ((unhide HI).step (unhide HRr)), ?_⟩
          exact (bel_alloc (bel_alloc hbw _) _).grown hgrow (by simp; omega) (fun k9 h9 => (hge k9 h9).1)
        case measure => simp [intOf]; omega
      · have ty := toL_no (x := x0) (l := [45]) hda
        have HDa := hide hda
        clear hda
        go_wp2_with fail
        refine (specitmread_any x0 _ hsz).mono ?_
        rintro e wq ⟨q, t, kk, v, nn, c, rfl, hRd, hbq⟩
        have e1 := (unhide HLn).itm (unhide HDa) hRd
        clear hRd
        have hbW : Below w.heap.size w wq := bel_trans hbw hbq
        have HOq := hide ((unhide HO).bel hbq)
        have hwq := hbq.size
        clear d0 hg0 HO
        have hlo : rs.length ≤ 400 := by omega
        cases c with
        | false =>
          have HD := hide ((unhide HI).bad (ix := ix) (by rw [unhide HRr, e1]; rfl) hlo)
          go_wp2
          refine bodyPost_ret (v := .tuple #[_, _]) (by simp (maxDischargeDepth := 9) [results, Tryz.results8, go_sem, *]; exact ⟨rfl, rfl⟩) rfl ?_
          exact dsp_no (unhide HD) (by repeat (first | (with_reducible exact Below.refl _ _) | (with_reducible assumption) | (with_reducible refine bel_set ?_ (by first | (simp; done) | (simp; omega)) _) | (with_reducible refine bel_alloc ?_ _) | (with_reducible refine bel_drew ?_) | (with_reducible refine bel_drewN ?_ _) | (with_reducible refine bel_trans ?_ (by with_reducible assumption)))) (by simp)
        | true =>
          by_cases hq : q = 3
          · have HD := hide ((unhide HI).bad (ix := ix) (by rw [unhide HRr, e1, if_neg (by simp [hq])]) hlo)
            subst hq
            go_wp2
            refine bodyPost_ret (v := .tuple #[_, _]) (by simp (maxDischargeDepth := 9) [results, Tryz.results8, go_sem, *]; exact ⟨rfl, rfl⟩) rfl ?_
            exact dsp_no (unhide HD) (by repeat (first | (with_reducible exact Below.refl _ _) | (with_reducible assumption) | (with_reducible refine bel_set ?_ (by first | (simp; done) | (simp; omega)) _) | (with_reducible refine bel_alloc ?_ _) | (with_reducible refine bel_drew ?_) | (with_reducible refine bel_drewN ?_ _) | (with_reducible refine bel_trans ?_ (by with_reducible assumption)))) (by simp)
          · have hq3 : (q == 3) = false := by simpa using hq
            have e2 : r = some (some ⟨q, t, kk, v, nn⟩) := by rw [e1, if_pos ⟨rfl, hq⟩]
            subst e2
            have HST := hide ((unhide HI).step (unhide HRr))
            have hpp := (unhide HI).pos
            have hles := (unhide HI).les
            have hwn : (wq.alloc (.cells #[.int .i64 q, .int .i64 t, .int .i64 kk, .int .i64 v, .int .i64 nn] 45)).heap.size = wq.heap.size + 1 := by simp
            obtain ⟨k, g, cap9, l, b, d, hkl, rfl, hlk, huk, hll, hcl, hg, hOu, hfz, hne⟩ := ((unhide HOq).bel (bel_one wq (.cells #[.int .i64 q, .int .i64 t, .int .i64 kk, .int .i64 v, .int .i64 nn] 45))).tip hpp (fun l h9 => by have := hles l h9; omega)
            have HO2 := hide ((unhide HOq).bel (bel_one wq (.cells #[.int .i64 q, .int .i64 t, .int .i64 kk, .int .i64 v, .int .i64 nn] 45)))
            have HU := hide hOu
            have hke : k ≤ 400 := by have := (unhide HI).le; omega
            have hwk : IntKind.i64.wrap (k : Int) = (k : Int) := IntWalk.i64_in _ ⟨by omega, by omega⟩
            have hki : (k : Int) < (k : Int) + 1 := by omega
            have hwk2 : IntKind.i64.wrap ((k : Int) + 1 - 1) = (k : Int) := by rw [show (k : Int) + 1 - 1 = (k : Int) by omega]; exact hwk
            have bX := World.alloc_heap_new wq (.cells #[.int .i64 q, .int .i64 t, .int .i64 kk, .int .i64 v, .int .i64 nn] 45)
            have HW := hide (show Below w.heap.size w (wq.alloc (.cells #[.int .i64 q, .int .i64 t, .int .i64 kk, .int .i64 v, .int .i64 nn] 45)) from bel_alloc hbW _)
            have HLK := hide hlk
            have HUK := hide huk
            have HKL := hide hkl
            have hub : ∀ y, (Value.slice b l.length d).ownBlock = some y → y < wq.heap.size := fun y hy => ((unhide HOq).lts huk hy).2
            clear hOu hlk huk hles hkl HOq HI e1 HLn
            go_upto_region 12 with fail
            have HX : Hid ((wq.alloc (.cells #[.int .i64 q, .int .i64 t, .int .i64 kk, .int .i64 v, .int .i64 nn] 45)).heap[wq.heap.size]? = some (.cells #[.int .i64 q, .int .i64 t, .int .i64 kk, .int .i64 v, .int .i64 nn] 45 (0, 0))) := hide bX
            have hneX : some wq.heap.size ≠ (Value.slice b l.length d).ownBlock := fun e9 => by have := hub _ e9.symm; omega
            have hneG : some g ≠ (Value.slice b l.length d).ownBlock := fun e9 => hne e9.symm
            have hzW := (unhide HW).size
            clear hub hne bX hwn hbW hbq
            generalize hXB : wq.heap.size = XB at HX hneX ⊢
            clear hXB
            generalize wq.alloc (.cells #[.int .i64 q, .int .i64 t, .int .i64 kk, .int .i64 v, .int .i64 nn] 45) = wz at HX HW HO2 HU hcl hg hfz hzW ⊢
            have bX := unhide HX
            have bG := hcl
            have hzG := hg
            have HF : Hid (∀ (w9 : World) (v9 : Value), w9.ownsRow w.heap.size 45 5 v9 (l.length + 1) (flat l ++ [.int .i64 q, .int .i64 t, .int .i64 kk, .int .i64 v, .int .i64 nn]) → (wz.alloc (.cells #[.int .i64 q, .int .i64 t, .int .i64 kk, .int .i64 v, .int .i64 nn] 45)).grownBy w9 (Value.slice b l.length d).ownBlock → w9.frozen? ⟨g, k, none⟩ = false) := hide (fun w9 v9 _ hg9 => by
              rw [World.frozen?_of_block (w := wz) (a := ⟨g, k, none⟩) ((hg9.block g (by simp; omega) hneG).trans (Below.heap_alloc wz _ g hg))]
              exact hfz)
            refine wp_region_P [14] (fun W => W.cell? ⟨g, k, none⟩ = some (.slice b l.length d) ∧ (W.heap[XB]? = some (.cells #[.int .i64 q, .int .i64 t, .int .i64 kk, .int .i64 v, .int .i64 nn] 45 (0, 0)) ∧ g < W.heap.size)) (by kernel_rfl) ?_ (fun hHeld => ?_)
            · (try dsimp only); exact ⟨bG, bX, hzG⟩
            refine wpAnyP_take (i := 0) (v := ?_) (by simp only [List.getElem?_toArray, List.getElem?_cons_zero, List.getElem?_cons_succ]; rfl) (by kernel_rfl) (by kernel_rfl) (by kernel_rfl) (by kernel_rfl) (by intro _ _ _ h; exact h) (Or.inl ⟨by rfl, ?_⟩) (by assumption) ?_
            rotate_left
            · (intro w9 hSw; (try dsimp only at hSw); obtain ⟨hk1, hk2, hk3⟩ := hSw; have x0 := Joins.cell_of_block hk2 0; have x1 := Joins.cell_of_block hk2 1; have x2 := Joins.cell_of_block hk2 2; have x3 := Joins.cell_of_block hk2 3; have x4 := Joins.cell_of_block hk2 4; simp only [List.getElem?_toArray, List.getElem?_cons_zero, List.getElem?_cons_succ] at x0 x1 x2 x3 x4; have hx := lgh_lt hk2; go_simp <;> with_reducible rfl)
            try simp only [Act.put, List.setIfInBounds_toArray, List.set_cons_zero, List.set_cons_succ]
            refine wpAnyP_take (i := 1) (v := ?_) (by simp only [List.getElem?_toArray, List.getElem?_cons_zero, List.getElem?_cons_succ]; rfl) (by kernel_rfl) (by kernel_rfl) (by kernel_rfl) (by kernel_rfl) (by intro _ _ _ h; exact h) (Or.inl ⟨by rfl, ?_⟩) (by assumption) ?_
            rotate_left
            · (intro w9 hSw; (try dsimp only at hSw); obtain ⟨hk1, hk2, hk3⟩ := hSw; have x0 := Joins.cell_of_block hk2 0; have x1 := Joins.cell_of_block hk2 1; have x2 := Joins.cell_of_block hk2 2; have x3 := Joins.cell_of_block hk2 3; have x4 := Joins.cell_of_block hk2 4; simp only [List.getElem?_toArray, List.getElem?_cons_zero, List.getElem?_cons_succ] at x0 x1 x2 x3 x4; have hx := lgh_lt hk2; go_simp <;> with_reducible rfl)
            try simp only [Act.put, List.setIfInBounds_toArray, List.set_cons_zero, List.set_cons_succ]
            refine wpAnyP_take (i := 2) (v := ?_) (by simp only [List.getElem?_toArray, List.getElem?_cons_zero, List.getElem?_cons_succ]; rfl) (by kernel_rfl) (by kernel_rfl) (by kernel_rfl) (by kernel_rfl) (by intro _ _ _ h; exact h) (Or.inl ⟨by rfl, ?_⟩) (by assumption) ?_
            rotate_left
            · (intro w9 hSw; (try dsimp only at hSw); obtain ⟨hk1, hk2, hk3⟩ := hSw; have x0 := Joins.cell_of_block hk2 0; have x1 := Joins.cell_of_block hk2 1; have x2 := Joins.cell_of_block hk2 2; have x3 := Joins.cell_of_block hk2 3; have x4 := Joins.cell_of_block hk2 4; simp only [List.getElem?_toArray, List.getElem?_cons_zero, List.getElem?_cons_succ] at x0 x1 x2 x3 x4; have hx := lgh_lt hk2; go_simp <;> with_reducible rfl)
            try simp only [Act.put, List.setIfInBounds_toArray, List.set_cons_zero, List.set_cons_succ]
            refine wpAnyP_take (i := 3) (v := ?_) (by simp only [List.getElem?_toArray, List.getElem?_cons_zero, List.getElem?_cons_succ]; rfl) (by kernel_rfl) (by kernel_rfl) (by kernel_rfl) (by kernel_rfl) (by intro _ _ _ h; exact h) (Or.inl ⟨by rfl, ?_⟩) (by assumption) ?_
            rotate_left
            · (intro w9 hSw; (try dsimp only at hSw); obtain ⟨hk1, hk2, hk3⟩ := hSw; have x0 := Joins.cell_of_block hk2 0; have x1 := Joins.cell_of_block hk2 1; have x2 := Joins.cell_of_block hk2 2; have x3 := Joins.cell_of_block hk2 3; have x4 := Joins.cell_of_block hk2 4; simp only [List.getElem?_toArray, List.getElem?_cons_zero, List.getElem?_cons_succ] at x0 x1 x2 x3 x4; have hx := lgh_lt hk2; go_simp <;> with_reducible rfl)
            try simp only [Act.put, List.setIfInBounds_toArray, List.set_cons_zero, List.set_cons_succ]
            refine wpAnyP_take (i := 4) (v := ?_) (by simp only [List.getElem?_toArray, List.getElem?_cons_zero, List.getElem?_cons_succ]; rfl) (by kernel_rfl) (by kernel_rfl) (by kernel_rfl) (by kernel_rfl) (by intro _ _ _ h; exact h) (Or.inl ⟨by rfl, ?_⟩) (by assumption) ?_
            rotate_left
            · (intro w9 hSw; (try dsimp only at hSw); obtain ⟨hk1, hk2, hk3⟩ := hSw; have x0 := Joins.cell_of_block hk2 0; have x1 := Joins.cell_of_block hk2 1; have x2 := Joins.cell_of_block hk2 2; have x3 := Joins.cell_of_block hk2 3; have x4 := Joins.cell_of_block hk2 4; simp only [List.getElem?_toArray, List.getElem?_cons_zero, List.getElem?_cons_succ] at x0 x1 x2 x3 x4; have hx := lgh_lt hk2; go_simp <;> with_reducible rfl)
            try simp only [Act.put, List.setIfInBounds_toArray, List.set_cons_zero, List.set_cons_succ]
            refine wpAnyP_take (i := 5) (v := ?_) (by simp only [List.getElem?_toArray, List.getElem?_cons_zero, List.getElem?_cons_succ]; rfl) (by kernel_rfl) (by kernel_rfl) (by kernel_rfl) (by kernel_rfl) (by intro _ _ _ h; exact h) (Or.inl ⟨by rfl, ?_⟩) (by assumption) ?_
            rotate_left
            · (intro w9 hSw; (try dsimp only at hSw); obtain ⟨hk1, hk2, hk3⟩ := hSw; have x0 := Joins.cell_of_block hk2 0; have x1 := Joins.cell_of_block hk2 1; have x2 := Joins.cell_of_block hk2 2; have x3 := Joins.cell_of_block hk2 3; have x4 := Joins.cell_of_block hk2 4; simp only [List.getElem?_toArray, List.getElem?_cons_zero, List.getElem?_cons_succ] at x0 x1 x2 x3 x4; have hx := lgh_lt hk2; go_simp <;> with_reducible rfl)
            try simp only [Act.put, List.setIfInBounds_toArray, List.set_cons_zero, List.set_cons_succ]
            refine wpAnyP_take (i := 6) (v := ?_) (by simp only [List.getElem?_toArray, List.getElem?_cons_zero, List.getElem?_cons_succ]; rfl) (by kernel_rfl) (by kernel_rfl) (by kernel_rfl) (by kernel_rfl) (by intro _ _ _ h; exact h) (Or.inl ⟨by rfl, ?_⟩) (by assumption) ?_
            rotate_left
            · (intro w9 hSw; (try dsimp only at hSw); obtain ⟨hk1, hk2, hk3⟩ := hSw; have x0 := Joins.cell_of_block hk2 0; have x1 := Joins.cell_of_block hk2 1; have x2 := Joins.cell_of_block hk2 2; have x3 := Joins.cell_of_block hk2 3; have x4 := Joins.cell_of_block hk2 4; simp only [List.getElem?_toArray, List.getElem?_cons_zero, List.getElem?_cons_succ] at x0 x1 x2 x3 x4; have hx := lgh_lt hk2; go_simp <;> with_reducible rfl)
            try simp only [Act.put, List.setIfInBounds_toArray, List.set_cons_zero, List.set_cons_succ]
            refine wpAnyP_take (i := 7) (v := ?_) (by simp only [List.getElem?_toArray, List.getElem?_cons_zero, List.getElem?_cons_succ]; rfl) (by kernel_rfl) (by kernel_rfl) (by kernel_rfl) (by kernel_rfl) (by intro _ _ _ h; exact h) (Or.inl ⟨by rfl, ?_⟩) (by assumption) ?_
            rotate_left
            · (intro w9 hSw; (try dsimp only at hSw); obtain ⟨hk1, hk2, hk3⟩ := hSw; have x0 := Joins.cell_of_block hk2 0; have x1 := Joins.cell_of_block hk2 1; have x2 := Joins.cell_of_block hk2 2; have x3 := Joins.cell_of_block hk2 3; have x4 := Joins.cell_of_block hk2 4; simp only [List.getElem?_toArray, List.getElem?_cons_zero, List.getElem?_cons_succ] at x0 x1 x2 x3 x4; have hx := lgh_lt hk2; go_simp <;> with_reducible rfl)
            try simp only [Act.put, List.setIfInBounds_toArray, List.set_cons_zero, List.set_cons_succ]
            refine wpAnyP_take (i := 8) (v := ?_) (by simp only [List.getElem?_toArray, List.getElem?_cons_zero, List.getElem?_cons_succ]; rfl) (by kernel_rfl) (by kernel_rfl) (by kernel_rfl) (by kernel_rfl) (by intro _ _ _ h; exact h) (Or.inl ⟨by rfl, ?_⟩) (by assumption) ?_
            rotate_left
            · (intro w9 hSw; (try dsimp only at hSw); obtain ⟨hk1, hk2, hk3⟩ := hSw; have x0 := Joins.cell_of_block hk2 0; have x1 := Joins.cell_of_block hk2 1; have x2 := Joins.cell_of_block hk2 2; have x3 := Joins.cell_of_block hk2 3; have x4 := Joins.cell_of_block hk2 4; simp only [List.getElem?_toArray, List.getElem?_cons_zero, List.getElem?_cons_succ] at x0 x1 x2 x3 x4; have hx := lgh_lt hk2; go_simp <;> with_reducible rfl)
            try simp only [Act.put, List.setIfInBounds_toArray, List.set_cons_zero, List.set_cons_succ]
            refine wpAnyP_take (i := 9) (v := ?_) (by simp only [List.getElem?_toArray, List.getElem?_cons_zero, List.getElem?_cons_succ]; rfl) (by kernel_rfl) (by kernel_rfl) (by kernel_rfl) (by kernel_rfl) (by intro _ _ _ h; exact h) (Or.inl ⟨by rfl, ?_⟩) (by assumption) ?_
            rotate_left
            · (intro w9 hSw; (try dsimp only at hSw); obtain ⟨hk1, hk2, hk3⟩ := hSw; have x0 := Joins.cell_of_block hk2 0; have x1 := Joins.cell_of_block hk2 1; have x2 := Joins.cell_of_block hk2 2; have x3 := Joins.cell_of_block hk2 3; have x4 := Joins.cell_of_block hk2 4; simp only [List.getElem?_toArray, List.getElem?_cons_zero, List.getElem?_cons_succ] at x0 x1 x2 x3 x4; have hx := lgh_lt hk2; go_simp <;> with_reducible rfl)
            try simp only [Act.put, List.setIfInBounds_toArray, List.set_cons_zero, List.set_cons_succ]
            refine wpAnyP_take (i := 10) (v := ?_) (by simp only [List.getElem?_toArray, List.getElem?_cons_zero, List.getElem?_cons_succ]; rfl) (by kernel_rfl) (by kernel_rfl) (by kernel_rfl) (by kernel_rfl) (by intro _ _ _ h; exact h) (Or.inl ⟨by rfl, ?_⟩) (by assumption) ?_
            rotate_left
            · (intro w9 hSw; (try dsimp only at hSw); obtain ⟨hk1, hk2, hk3⟩ := hSw; have x0 := Joins.cell_of_block hk2 0; have x1 := Joins.cell_of_block hk2 1; have x2 := Joins.cell_of_block hk2 2; have x3 := Joins.cell_of_block hk2 3; have x4 := Joins.cell_of_block hk2 4; simp only [List.getElem?_toArray, List.getElem?_cons_zero, List.getElem?_cons_succ] at x0 x1 x2 x3 x4; have hx := lgh_lt hk2; go_simp <;> with_reducible rfl)
            try simp only [Act.put, List.setIfInBounds_toArray, List.set_cons_zero, List.set_cons_succ]
            refine wpAnyP_ready (rs := [11]) (by kernel_rfl) (by simp) ?_
            refine AllReadyP.cons (by simp only [List.getElem?_toArray, List.getElem?_cons_zero, List.getElem?_cons_succ]; rfl) (fun K hK => ?_) AllReadyP.nil
            go_simp
            refine hK.out _ _ ?_ (fun hHeld2 => ?_)
            · (try dsimp only); exact ⟨(cell_al wz _ hzG).trans bG, (Below.heap_alloc wz _ _ (lgh_lt bX)).trans bX, by simp; omega⟩
            clear hK K hHeld
            have hHeld := hHeld2
            clear hHeld2
            try simp only [Act.put, List.setIfInBounds_toArray, List.set_cons_zero, List.set_cons_succ]
            refine wpAnyP_ready (rs := [12]) (by kernel_rfl) (by simp) ?_
            refine AllReadyP.cons (by simp only [List.getElem?_toArray, List.getElem?_cons_zero, List.getElem?_cons_succ]; rfl) (fun K hK => ?_) AllReadyP.nil
            refine step_append_at rfl (.tmp 57) (.tmp 59) 40 rfl w.heap.size 45 i5 _ 5 40 Tryz.underlying40 hi5 hz50 hz51 hz52 rfl (by decide) (.slice b l.length d) l.length (flat l) (by simp [Act.eval]) (World.ownsRow.alloc (unhide HU) _) ⟨wz.heap.size, 0, none⟩ 1 1 [.int .i64 q, .int .i64 t, .int .i64 kk, .int .i64 v, .int .i64 nn] (by simp [Act.eval]) rfl (cells_new5 wz q t kk v nn _) (by simp [Value.oneCell']) (by unfold maxLen; omega) (by omega) (by simp; omega) ?_
            intro v9 w9 hown9 hgrow9 hwh9
            obtain ⟨g9, c9, rfl⟩ := Go.ownsRow_succ hown9
            replace hgrow9 : (wz.alloc (.cells #[.int .i64 q, .int .i64 t, .int .i64 kk, .int .i64 v, .int .i64 nn] 45)).grownBy w9 (Value.slice b l.length d).ownBlock := ⟨hgrow9.os, hgrow9.tape, hgrow9.output, hgrow9.size, hgrow9.block⟩
            refine hK.out _ _ ?_ (fun hHeld2 => ?_)
            · (try dsimp only); exact ⟨(World.grownBy.cell (w := wz.alloc _) hgrow9 ((cell_al wz _ hzG).trans bG) hneG), (hgrow9.block XB (by simp; have := lgh_lt bX; omega) hneX).trans ((Below.heap_alloc wz _ _ (lgh_lt bX)).trans bX), Nat.lt_of_lt_of_le (by simp; omega) hgrow9.size⟩
            clear hK K hHeld
            have hHeld := hHeld2
            clear hHeld2
            try simp only [Act.put, List.setIfInBounds_toArray, List.set_cons_zero, List.set_cons_succ]
            refine wpAnyP_take (i := 13) (v := ?_) (by simp only [List.getElem?_toArray, List.getElem?_cons_zero, List.getElem?_cons_succ]; rfl) (by kernel_rfl) (by kernel_rfl) (by kernel_rfl) (by kernel_rfl) (by intro _ _ _ h; exact h) (Or.inl ⟨by rfl, ?_⟩) (by assumption) ?_
            rotate_left
            · (intro w9 hSw; (try dsimp only at hSw); obtain ⟨hk1, hk2, hk3⟩ := hSw; have x0 := Joins.cell_of_block hk2 0; have x1 := Joins.cell_of_block hk2 1; have x2 := Joins.cell_of_block hk2 2; have x3 := Joins.cell_of_block hk2 3; have x4 := Joins.cell_of_block hk2 4; simp only [List.getElem?_toArray, List.getElem?_cons_zero, List.getElem?_cons_succ] at x0 x1 x2 x3 x4; have hx := lgh_lt hk2; go_simp <;> with_reducible rfl)
            try simp only [Act.put, List.setIfInBounds_toArray, List.set_cons_zero, List.set_cons_succ]
            have hc9 : w9.cell? ⟨g, k, none⟩ = some (.slice b l.length d) := World.grownBy.cell (w := wz.alloc _) hgrow9 ((cell_al wz _ hzG).trans bG) hneG
            have hf9 : w9.frozen? ⟨g, k, none⟩ = false := unhide HF w9 _ hown9 hgrow9
            have hg9 : g < w9.heap.size := World.block_lt_of_cell? w9 ⟨g, k, none⟩ hc9
            refine wpAnyP_ready (rs := [14]) (by kernel_rfl) (by simp) ?_
            refine AllReadyP.consS (by simp only [List.getElem?_toArray, List.getElem?_cons_zero, List.getElem?_cons_succ]; rfl) (by kernel_rfl) (fun K hK => ?_) AllReadyP.nil
            go_simp
            refine hK.out _ _ ?_
            clear hK K
            try simp only [Act.put, List.setIfInBounds_toArray, List.set_cons_zero, List.set_cons_succ]
            refine wpAnyP_done (by kernel_rfl) ?_ _
            have HN := hide (LgO.tipped (x := ⟨q, t, kk, v, nn⟩) (unhide HO2) hzW (unhide HKL) (unhide HUK) (unhide HLK) hown9 hgrow9 hwh9)
            have hge := (unhide HU).lt
            have hbN : Below w.heap.size w w9 := (bel_alloc (unhide HW) _).grown hgrow9 (by simp; omega) (fun k9 h9 => (hge k9 h9).1)
            have hgg := (unhide HO2).row.lt g rfl
            clear hown9 hgrow9 hwh9 HF hc9 hf9 bX bG hcl
            go_wp2
            go_roundw
            case rel => exact ⟨ix + 1, us.set k (.slice (some ⟨g9, 0, none⟩) (l.length + 1) c9), putL Ls (some ⟨q, t, kk, v, nn⟩), by omega, by go_num, hide (lg_cast (by rw [putL_len]; exact unhide HKL) (unhide HN)), HST, bel_set hbN (by show w.heap.size ≤ g; omega) _⟩
            case measure => simp [intOf]; omega
    · obtain rfl : ix = len := by omega
      have HD := hide ((unhide HI).all (by omega) (by omega))
      have hpp := (unhide HI).pos
      have hles := (unhide HI).les
      have hlll := (unhide HI).le
      obtain ⟨g, cap9, rfl, _, hg, _⟩ := (unhide HO).shape hpp
      clear HI
      obtain ⟨wo, hwo⟩ : ∃ wo, wo = wr := ⟨_, rfl⟩
      subst hwo
      go_wp2
      go_loopw [8] (fun i wt => ∃ k : Nat, k ≤ Ls.length ∧ i = .int .i64 k ∧ Hid ((Ls.take k).all okLog = true) ∧ Below wo.heap.size wo wt) (fun i _ => Ls.length - (intOf i).toNat)
      case atStart => exact ⟨0, Nat.zero_le _, rfl, hide (by simp), Below.refl _ _⟩
      case round =>
        obtain ⟨k, hk, rfl, hA, hbt⟩ := hrel
        by_cases hlt : k < Ls.length
        · obtain ⟨l, hlk⟩ : ∃ l, Ls[k]? = some l := ⟨_, List.getElem?_eq_getElem (by omega)⟩
          have hll := hles l (List.mem_of_getElem? hlk)
          obtain ⟨b, d, _, hc, hI⟩ := ((unhide HO).bel hbt).at_ hlk (by unfold maxLen; omega)
          have HII := hide hI
          have HLK := hide hlk
          have hgt : g < wr.heap.size := Nat.lt_of_lt_of_le hg hbt.size
          clear hI hlk hles
          obtain ⟨ob, hob⟩ : ∃ ob, okLog l = ob := ⟨_, rfl⟩
          have HOB := hide hob
          cases ob with
          | false =>
            have HE := hide (show dskL rs = ([], (rs.length : Int) + 1) by rw [unhide HD, all_ffL (unhide HLK) (unhide HOB)]; rfl)
            rw [hRl] at HE
            clear hob
            go_wp2_with (go_at_call 24; refine (speclog_any b l.length d l _ (unhide HII)).mono ?_; rw [unhide HOB]; rintro e wf ⟨rfl, hb⟩)
            refine bodyPost_ret (v := .tuple #[_, _]) (by simp (maxDischargeDepth := 9) [results, Tryz.results8, go_sem, *]; exact ⟨rfl, rfl⟩) rfl ?_
            exact dsp_no (unhide HE) (by repeat (first | (with_reducible exact Below.refl _ _) | (with_reducible assumption) | (with_reducible refine bel_set ?_ (by first | (simp; done) | (simp; omega)) _) | (with_reducible refine bel_alloc ?_ _) | (with_reducible refine bel_drew ?_) | (with_reducible refine bel_drewN ?_ _) | (with_reducible refine bel_trans ?_ (by with_reducible assumption)))) (by simp)
          | true =>
            have HE := hide (all_ttL (unhide hA) (unhide HLK) (unhide HOB))
            clear hob
            go_wp2_with (go_at_call 24; refine (speclog_any b l.length d l _ (unhide HII)).mono ?_; rw [unhide HOB]; rintro e wf ⟨rfl, hb⟩)
            go_roundw
            case rel => exact ⟨k + 1, by omega, by go_num, HE, (by repeat (first | (with_reducible exact Below.refl _ _) | (with_reducible assumption) | (with_reducible refine bel_set ?_ (by first | (simp; done) | (simp; omega)) _) | (with_reducible refine bel_alloc ?_ _) | (with_reducible refine bel_drew ?_) | (with_reducible refine bel_drewN ?_ _) | (with_reducible refine bel_trans ?_ (by with_reducible assumption))))⟩
            case measure => simp [intOf]; omega
        · have HE : Hid (dskL rs = (Ls, 0)) := hide (by
            have h1 := unhide hA
            rw [List.take_of_length_le (by omega)] at h1
            rw [unhide HD, h1]; rfl)
          have HB := hide (bel_trans hbw hbt)
          have HOF := hide ((unhide HO).bel hbt)
          clear HD
          go_wp2
          refine bodyPost_ret (v := .tuple #[_, _]) (by simp (maxDischargeDepth := 9) [results, Tryz.results8, go_sem, *]; exact ⟨rfl, rfl⟩) rfl ?_
          exact dsp_ok (unhide HE) (unhide HOF) (unhide HB)
end Go.Proofs.YtcokdcehjibanaaGreatDoor
/- Proved here: a log is drawn: items in new memory; but for the reader's place nothing turns. -/
namespace Go.Proofs.YtcokdcehjibanaaGreatDoor
open Go.ChangeShapes Go.WideShapes Go.ChangeAt Go.RowKit
set_option linter.unusedVariables false

theorem el6b  (y : Int) (h3 : 0 ≤ y) (h4 : y < 6) : ∃ t : Int, (#[Value.int .i64 0, .int .i64 0, .int .i64 1, .int .i64 3, .int .i64 7, .int .i64 12] : Array Value)[y.toNat]? = some (.int .i64 t) ∧ ([Value.int .i64 0, .int .i64 0, .int .i64 1, .int .i64 3, .int .i64 7, .int .i64 12] : List Value)[y.toNat]? = some (.int .i64 t) ∧ (∀ h, ([Value.int .i64 0, .int .i64 0, .int .i64 1, .int .i64 3, .int .i64 7, .int .i64 12] : List Value)[y.toNat]'h = .int .i64 t) ∧ 0 ≤ t ∧ t ≤ 12 := by
  have : y = 0 ∨ y = 1 ∨ y = 2 ∨ y = 3 ∨ y = 4 ∨ y = 5 := by omega
  rcases this with rfl | rfl | rfl | rfl | rfl | rfl
  · exact ⟨0, rfl, rfl, fun _ => rfl, by omega, by omega⟩
  · exact ⟨0, rfl, rfl, fun _ => rfl, by omega, by omega⟩
  · exact ⟨1, rfl, rfl, fun _ => rfl, by omega, by omega⟩
  · exact ⟨3, rfl, rfl, fun _ => rfl, by omega, by omega⟩
  · exact ⟨7, rfl, rfl, fun _ => rfl, by omega, by omega⟩
  · exact ⟨12, rfl, rfl, fun _ => rfl, by omega, by omega⟩
theorem el7d (x : Int) (bx1 : 0 ≤ x) (bx2 : x ≤ 20) (y : Int) (h3 : 0 ≤ y) (h4 : y < 7) : ∃ t : Int, (#[Value.int .i64 0, .int .i64 0, .int .i64 1, .int .i64 2, .int .i64 4, .int .i64 8, .int .i64 x] : Array Value)[y.toNat]? = some (.int .i64 t) ∧ ([Value.int .i64 0, .int .i64 0, .int .i64 1, .int .i64 2, .int .i64 4, .int .i64 8, .int .i64 x] : List Value)[y.toNat]? = some (.int .i64 t) ∧ (∀ h, ([Value.int .i64 0, .int .i64 0, .int .i64 1, .int .i64 2, .int .i64 4, .int .i64 8, .int .i64 x] : List Value)[y.toNat]'h = .int .i64 t) ∧ 0 ≤ t ∧ t ≤ 20 := by
  have : y = 0 ∨ y = 1 ∨ y = 2 ∨ y = 3 ∨ y = 4 ∨ y = 5 ∨ y = 6 := by omega
  rcases this with rfl | rfl | rfl | rfl | rfl | rfl | rfl
  · exact ⟨0, rfl, rfl, fun _ => rfl, by omega, by omega⟩
  · exact ⟨0, rfl, rfl, fun _ => rfl, by omega, by omega⟩
  · exact ⟨1, rfl, rfl, fun _ => rfl, by omega, by omega⟩
  · exact ⟨2, rfl, rfl, fun _ => rfl, by omega, by omega⟩
  · exact ⟨4, rfl, rfl, fun _ => rfl, by omega, by omega⟩
  · exact ⟨8, rfl, rfl, fun _ => rfl, by omega, by omega⟩
  · exact ⟨x, rfl, rfl, fun _ => rfl, by omega, by omega⟩
theorem ownK {R : Nat} {W W' : World} {B : Nat} {e : TypeId} {size n : Nat} {v : Value} {xs : List Value} (h : W.ownsRow B e size v n xs) (hB : R < B) (hb : Kp R W W') : W'.ownsRow B e size v n xs := by
  rcases h with ⟨hl, h | ⟨g, cap, cur, hv, hB', hblk, r⟩⟩
  · exact ⟨hl, Or.inl h⟩
  · exact ⟨hl, Or.inr ⟨g, cap, cur, hv, hB', (hb.all g (Array.getElem?_eq_some_iff.1 hblk).1 (by omega)).trans hblk, r⟩⟩
theorem kp_up {R : Nat} {w W W' : World} (hR : R < w.heap.size) (h : Kp R w W) (hb : Below w.heap.size W W') : Kp R w W' := ⟨h.low.trans (hb.mono (Nat.le_of_lt hR)), fun b hb' hn => (hb.block b hb').trans (h.all b hb' hn)⟩
theorem its_snoc {W : World} {B : Nat} {v' : Value} {xs : List It} {q t k v n : Int} (h : W.ownsRow B 45 5 v' (xs.length + 1) (flat xs ++ [.int .i64 q, .int .i64 t, .int .i64 k, .int .i64 v, .int .i64 n])) : OwnIts W B v' (xs ++ [⟨q, t, k, v, n⟩]) := by
  unfold OwnIts
  rw [flat_snoc]
  simpa [It.cells] using h
theorem cells_new5g (w : World) {g : Nat} (hg : g = w.heap.size) (q t k v n : Int) (ty : Nat) : ∀ j u, ([.int .i64 q, .int .i64 t, .int .i64 k, .int .i64 v, .int .i64 n] : List Value)[j]? = some u → (w.alloc (.cells #[.int .i64 q, .int .i64 t, .int .i64 k, .int .i64 v, .int .i64 n] ty)).cell? ((⟨g, 0, none⟩ : Addr).add j) = some u := by
  subst hg
  exact cells_new5 w q t k v n ty
/-- A log that is drawn, ahead of its end: its last mark. -/
def logM : List It → Int → Int
  | [], m => m
  | x :: r, m => logM r (if x.q = 2 then x.t else m)
theorem logGo_app : ∀ (xs ys : List It) (m : Int), logGo (xs ++ ys) m = (logGo xs m && logGo ys (logM xs m))
  | [], ys, m => by simp [logGo, logM]
  | x :: r, ys, m => by
    show (x.okB && !(x.q == 3) && (if x.q = 2 then decide (m < x.t) && logGo (r ++ ys) x.t else logGo (r ++ ys) m)) = ((x.okB && !(x.q == 3) && (if x.q = 2 then decide (m < x.t) && logGo r x.t else logGo r m)) && logGo ys (logM r (if x.q = 2 then x.t else m)))
    by_cases h : x.q = 2
    · simp only [if_pos h, logGo_app r ys x.t, Bool.and_assoc]
    · simp only [if_neg h, logGo_app r ys m, Bool.and_assoc]
theorem logM_app : ∀ (xs ys : List It) (m : Int), logM (xs ++ ys) m = logM ys (logM xs m)
  | [], ys, m => rfl
  | x :: r, ys, m => logM_app r ys _
structure LgK (xs : List It) (mm : Int) : Prop where
  go : logGo xs 0 = true
  last : logM xs 0 = mm
  itm : ∀ x ∈ xs, (x.q = 1 ∧ 0 ≤ x.t ∧ x.t ≤ 60 ∧ 0 ≤ x.k ∧ x.k ≤ 2) ∨ (x.q = 2 ∧ 1 ≤ x.t ∧ x.t ≤ 60)
theorem LgK.nil : LgK [] 0 := ⟨rfl, rfl, fun x hx => by simp at hx⟩
theorem LgK.recd {xs : List It} {mm t k v : Int} (h : LgK xs mm) (h1 : 0 ≤ t) (h2 : t ≤ 60) (h3 : 0 ≤ k) (h4 : k ≤ 2) (h5 : -9 ≤ v) (h6 : v ≤ 9) : LgK (xs ++ [⟨1, t, k, v, 0⟩]) mm := by
  refine ⟨?_, by rw [logM_app, h.last]; rfl, fun x hx => ?_⟩
  · rw [logGo_app, h.go, h.last]
    have : okItm 1 t k v 0 = true := by
      show okRec t k v 0 = true
      simp [okRec, inB]; omega
    show (true && ((okItm 1 t k v 0 && !((1 : Int) == 3)) && _)) = true
    rw [this]; rfl
  · rcases List.mem_append.1 hx with hx | hx
    · exact h.itm x hx
    · simp at hx; subst hx; exact Or.inl ⟨rfl, h1, h2, h3, h4⟩
theorem LgK.mark {xs : List It} {mm t : Int} (h : LgK xs mm) (h1 : mm < t) (h2 : 1 ≤ t) (h3 : t ≤ 60) : LgK (xs ++ [⟨2, t, 0, 0, 0⟩]) t := by
  refine ⟨?_, by rw [logM_app, h.last]; rfl, fun x hx => ?_⟩
  · rw [logGo_app, h.go, h.last]
    have e : okItm 2 t 0 0 0 = true := by
      show okMark t 0 0 0 = true
      simp [okMark, inB]; omega
    show (true && ((okItm 2 t 0 0 0 && !((2 : Int) == 3)) && (decide (mm < t) && true))) = true
    rw [e, decide_eq_true h1]; rfl
  · rcases List.mem_append.1 hx with hx | hx
    · exact h.itm x hx
    · simp at hx; subst hx; exact Or.inr ⟨rfl, h2, h3⟩
theorem LgK.fin {xs : List It} {mm : Int} (h : LgK xs mm) (hl : xs.length ≤ 39) (hm : mm ≤ 60) : okLog (xs ++ [⟨2, 1000, 0, 0, 0⟩]) = true := by
  unfold okLog
  have e1 : inB ((xs ++ [(⟨2, 1000, 0, 0, 0⟩ : It)]).length : Int) 1 40 = true := by simp [inB]; omega
  rw [e1, List.getLast?_append, logGo_app, h.go, h.last]
  have e2 : decide (mm < 1000) = true := decide_eq_true (by omega)
  show (true && true && (true && ((okItm 2 1000 0 0 0 && !((2 : Int) == 3)) && (decide (mm < 1000) && true)))) = true
  rw [e2]; rfl
/-- What a drawn log is. -/
def LogK (R : Nat) (w : World) (a : Option Addr) (len cap p n : Nat) (e : Ending) (w' : World) : Prop := ∃ (v : Value) (xs : List It), e = .returned v ∧ OwnIts w' w.heap.size v (xs ++ [⟨2, 1000, 0, 0, 0⟩]) ∧ (n ≤ 39 → okLog (xs ++ [⟨2, 1000, 0, 0, 0⟩]) = true) ∧ (∃ mm, mm ≤ 60 ∧ LgK xs mm) ∧ xs.length ≤ n ∧ Kp R w w' ∧ ∃ p', p' ≤ p + 2 + 10 * n ∧ Rd R w' a len cap p'
/-- What a drawn log is. -/
def LogD (R : Nat) (w : World) (a : Option Addr) (len cap p n : Nat) (e : Ending) (w' : World) : Prop := ∃ (v : Value) (xs : List It), e = .returned v ∧ OwnIts w' w.heap.size v xs ∧ (1 ≤ xs.length ∧ xs.length ≤ n + 1) ∧ Kp R w w' ∧ ∃ p', p' ≤ p + 2 + 10 * n ∧ Rd R w' a len cap p'

set_option maxRecDepth 20000 in
set_option maxHeartbeats 16000000 in
theorem logK_any (R : Nat) (a : Option Addr) (len cap p n : Nat) (w : World) (hn : n ≤ 1000) (hp : p ≤ 500000) (hR : R < w.heap.size) (h : Rd R w a len cap p) : Calls Tryz.prog 16 #[.pointer (some ⟨R, 0, none⟩), .int .i64 n] w fun e w' => LogK R w a len cap p n e w' := by
  obtain ⟨i0, hi, hz0, hz1, hz2⟩ := info_parts Tryz.infoItm
  have r0 := hide h
  have hn0 : w.heap.size ≠ R := by omega
  have hO0 : OwnIts (w.alloc (.cells #[] 45)) w.heap.size (.slice (some ⟨w.heap.size, 0, none⟩) 0 0) [] := World.ownsRow_lit (base := w.heap.size) (size := 5) w #[] 0 (Nat.le_refl _) (Nat.zero_le _) rfl
  have HO0 := hide hO0
  clear h hO0
  go_enter Tryz.func16, Tryz.ntmps16
  go_wp2_with fail
  (with_reducible refine (pick_any R a len cap p 5 _ (by omega) (by omega) ((unhide r0).kpS hR (by repeat (first | (with_reducible exact Below.refl _ _) | (with_reducible refine Below.setCell ?_ (by first | (simp; omega) | omega) _) | (with_reducible refine up_alloc ?_ (by first | omega | (simp; omega)) _) | (with_reducible refine Below.drew ?_))))).mono ?_)
  rintro e wa ⟨t0, rfl, bt01, bt02, kwa, qwa⟩
  have rwa := hide (qwa (by omega))
  clear qwa
  have zwa := kwa.low.size
  have hRwa : R < wa.heap.size := (by have h9 := kwa.low.size; (try simp at h9); omega)
  have hnwa : wa.heap.size ≠ R := (by omega)
  have hcwa := (fun b o hb hn => kwa.cell (b := b) (o := o) hb hn)
  have hfwa := (fun b o hb hn => kwa.frozen (b := b) (o := o) hb hn)
  have hn2wa : wa.heap.size + 1 ≠ R := (by omega)
  go_wp2_with fail
  (with_reducible refine (pick_any R a len cap (p + 1) 6 _ (by omega) (by omega) ((unhide rwa).kpS hRwa (by repeat (first | (with_reducible exact Below.refl _ _) | (with_reducible refine Below.setCell ?_ (by first | (simp; omega) | omega) _) | (with_reducible refine up_alloc ?_ (by first | omega | (simp; omega)) _) | (with_reducible refine Below.drew ?_))))).mono ?_)
  rintro e wb ⟨y, rfl, by1, by2, kwb, qwb⟩
  have rwb := hide (qwb (by omega))
  clear qwb
  have zwb := kwb.low.size
  have hRwb : R < wb.heap.size := (by have h9 := kwb.low.size; (try simp at h9); omega)
  have hnwb : wb.heap.size ≠ R := (by omega)
  have hcwb := (fun b o hb hn => kwb.cell (b := b) (o := o) hb hn)
  have hfwb := (fun b o hb hn => kwb.frozen (b := b) (o := o) hb hn)
  have yzwb : wa.heap.size < wb.heap.size := (by (try simp at zwb); omega)
  have yywb : wa.heap.size ≤ wb.heap.size := (by omega)
  have y0wb : wb.cell? ⟨wa.heap.size, 0, none⟩ = some (.int .i64 0) := ((hcwb _ 0 (by first | (with_reducible assumption) | (simp; done) | (simp; omega)) hnwa).trans (by first | (with_reducible assumption) | (simp (maxDischargeDepth := 9) [go_sem, *]; done)))
  have yf0wb : wb.frozen? ⟨wa.heap.size, 0, none⟩ = false := ((hfwb _ 0 (by first | (with_reducible assumption) | (simp; done) | (simp; omega)) hnwa).trans (by first | (with_reducible assumption) | (simp (maxDischargeDepth := 9) [go_sem, *]; done)))
  have y1wb : wb.cell? ⟨wa.heap.size, 1, none⟩ = some (.int .i64 0) := ((hcwb _ 1 (by first | (with_reducible assumption) | (simp; done) | (simp; omega)) hnwa).trans (by first | (with_reducible assumption) | (simp (maxDischargeDepth := 9) [go_sem, *]; done)))
  have yf1wb : wb.frozen? ⟨wa.heap.size, 1, none⟩ = false := ((hfwb _ 1 (by first | (with_reducible assumption) | (simp; done) | (simp; omega)) hnwa).trans (by first | (with_reducible assumption) | (simp (maxDischargeDepth := 9) [go_sem, *]; done)))
  have y2wb : wb.cell? ⟨wa.heap.size, 2, none⟩ = some (.int .i64 1) := ((hcwb _ 2 (by first | (with_reducible assumption) | (simp; done) | (simp; omega)) hnwa).trans (by first | (with_reducible assumption) | (simp (maxDischargeDepth := 9) [go_sem, *]; done)))
  have yf2wb : wb.frozen? ⟨wa.heap.size, 2, none⟩ = false := ((hfwb _ 2 (by first | (with_reducible assumption) | (simp; done) | (simp; omega)) hnwa).trans (by first | (with_reducible assumption) | (simp (maxDischargeDepth := 9) [go_sem, *]; done)))
  have y3wb : wb.cell? ⟨wa.heap.size, 3, none⟩ = some (.int .i64 3) := ((hcwb _ 3 (by first | (with_reducible assumption) | (simp; done) | (simp; omega)) hnwa).trans (by first | (with_reducible assumption) | (simp (maxDischargeDepth := 9) [go_sem, *]; done)))
  have yf3wb : wb.frozen? ⟨wa.heap.size, 3, none⟩ = false := ((hfwb _ 3 (by first | (with_reducible assumption) | (simp; done) | (simp; omega)) hnwa).trans (by first | (with_reducible assumption) | (simp (maxDischargeDepth := 9) [go_sem, *]; done)))
  have y4wb : wb.cell? ⟨wa.heap.size, 4, none⟩ = some (.int .i64 7) := ((hcwb _ 4 (by first | (with_reducible assumption) | (simp; done) | (simp; omega)) hnwa).trans (by first | (with_reducible assumption) | (simp (maxDischargeDepth := 9) [go_sem, *]; done)))
  have yf4wb : wb.frozen? ⟨wa.heap.size, 4, none⟩ = false := ((hfwb _ 4 (by first | (with_reducible assumption) | (simp; done) | (simp; omega)) hnwa).trans (by first | (with_reducible assumption) | (simp (maxDischargeDepth := 9) [go_sem, *]; done)))
  have y5wb : wb.cell? ⟨wa.heap.size, 5, none⟩ = some (.int .i64 12) := ((hcwb _ 5 (by first | (with_reducible assumption) | (simp; done) | (simp; omega)) hnwa).trans (by first | (with_reducible assumption) | (simp (maxDischargeDepth := 9) [go_sem, *]; done)))
  have yf5wb : wb.frozen? ⟨wa.heap.size, 5, none⟩ = false := ((hfwb _ 5 (by first | (with_reducible assumption) | (simp; done) | (simp; omega)) hnwa).trans (by first | (with_reducible assumption) | (simp (maxDischargeDepth := 9) [go_sem, *]; done)))
  have hn2wb : wb.heap.size + 1 ≠ R := (by omega)
  obtain ⟨bh, hm, hm', hm'', bm1, bm2⟩ := el6b y by1 by2
  have hRe : R < (w.alloc (.cells #[] 45)).heap.size := by simp; omega
  have hOb : Hid (OwnIts wb w.heap.size (.slice (some ⟨w.heap.size, 0, none⟩) 0 0) []) := hide (ownK (unhide HO0) hR (by repeat (first | (with_reducible refine kp_setN ?_ (by first | (simp; done) | (simp; omega)) (by with_reducible assumption) _) | (with_reducible assumption) | (with_reducible exact Kp.refl _ _) | (with_reducible refine kp_set ?_ _) | (with_reducible refine kp_alloc (by with_reducible assumption) ?_ _) | (with_reducible refine kp_drew ?_) | (with_reducible refine kp_drewN ?_ _) | (with_reducible refine Kp.trans ?_ (by with_reducible assumption)))))
  have kb : Kp R w wb := (by repeat (first | (with_reducible refine kp_setN ?_ (by first | (simp; done) | (simp; omega)) (by with_reducible assumption) _) | (with_reducible assumption) | (with_reducible exact Kp.refl _ _) | (with_reducible refine kp_set ?_ _) | (with_reducible refine kp_alloc (by with_reducible assumption) ?_ _) | (with_reducible refine kp_drew ?_) | (with_reducible refine kp_drewN ?_ _) | (with_reducible refine Kp.trans ?_ (by with_reducible assumption))))
  go_wp2
  clear hm hm' hm'' hcwa hfwa hcwb hfwb y0wb yf0wb y1wb yf1wb y2wb yf2wb y3wb yf3wb y4wb yf4wb y5wb yf5wb
  go_loopw [5, 6, 7, 9] (fun v' tv mv iv wr => ∃ (j : Nat) (xs : List It) (p' : Nat) (tt mm : Int), tv = .int .i64 tt ∧ mv = .int .i64 mm ∧ iv = .int .i64 j ∧ j ≤ n ∧ xs.length ≤ j ∧ (0 ≤ tt ∧ tt ≤ 4 + 5 * (j : Int)) ∧ (0 ≤ mm ∧ mm ≤ 60) ∧ p' ≤ p + 2 + 10 * j ∧ LgK xs mm ∧ OwnIts wr w.heap.size v' xs ∧ Hid (Rd R wr a len cap p') ∧ Kp R w wr) (fun _ _ _ i _ => n - (intOf i).toNat)
  case atStart => exact ⟨0, [], p + 2, t0, 0, rfl, rfl, rfl, by omega, by simp, ⟨by omega, by omega⟩, ⟨by omega, by omega⟩, by omega, LgK.nil, unhide hOb, rwb, kb⟩
  case round =>
    obtain ⟨j, xs, p', tt, mm, rfl, rfl, rfl, hj, hxl, ⟨ht1, ht2⟩, ⟨hm1, hm2⟩, hp', hLg, hO, rwr, kwr⟩ := hrel
    clear hOb kb HO0 r0 rwa rwb kwa kwb
    have HO := hide hO
    have hge := hide (own_ge hO)
    clear hO
    have zwr := kwr.low.size
    have hwr : w.heap.size ≤ wr.heap.size := zwr
    have hRwr : R < wr.heap.size := by omega
    by_cases hlt : (j : Int) < (n : Int)
    · skip
      go_wp2_with fail
      (with_reducible refine (pick_any R a len cap p' 6 _ (by omega) (by omega) ((unhide rwr).kpS hRwr (by repeat (first | (with_reducible exact Below.refl _ _) | (with_reducible refine Below.setCell ?_ (by first | (simp; omega) | omega) _) | (with_reducible refine up_alloc ?_ (by first | omega | (simp; omega)) _) | (with_reducible refine Below.drew ?_))))).mono ?_)
      rintro e wc ⟨x, rfl, bx1, bx2, kwc, qwc⟩
      have rwc := hide (qwc (by omega))
      clear qwc
      have zwc := kwc.low.size
      have hRwc : R < wc.heap.size := (by have h9 := kwc.low.size; (try simp at h9); omega)
      have hnwc : wc.heap.size ≠ R := (by omega)
      have hcwc := (fun b o hb hn => kwc.cell (b := b) (o := o) hb hn)
      have hfwc := (fun b o hb hn => kwc.frozen (b := b) (o := o) hb hn)
      have hn2wc : wc.heap.size + 1 ≠ R := (by omega)
      clear hcwc hfwc
      go_wp2_with fail
      (with_reducible refine (pick_any R a len cap (p' + 1) 4 _ (by omega) (by omega) ((unhide rwc).kpS hRwc (by repeat (first | (with_reducible exact Below.refl _ _) | (with_reducible refine Below.setCell ?_ (by first | (simp; omega) | omega) _) | (with_reducible refine up_alloc ?_ (by first | omega | (simp; omega)) _) | (with_reducible refine Below.drew ?_))))).mono ?_)
      rintro e wd ⟨z, rfl, bz1, bz2, kwd, qwd⟩
      have rwd := hide (qwd (by omega))
      clear qwd
      have zwd := kwd.low.size
      have hRwd : R < wd.heap.size := (by have h9 := kwd.low.size; (try simp at h9); omega)
      have hnwd : wd.heap.size ≠ R := (by omega)
      have hcwd := (fun b o hb hn => kwd.cell (b := b) (o := o) hb hn)
      have hfwd := (fun b o hb hn => kwd.frozen (b := b) (o := o) hb hn)
      have hn2wd : wd.heap.size + 1 ≠ R := (by omega)
      clear hcwd hfwd
      have hwd : w.heap.size ≤ wd.heap.size := by (try simp at zwc zwd); omega
      by_cases hz : z = 0
      · subst hz
        by_cases q1 : 60 < tt + x - bh
        · skip
          by_cases q2 : mm < 60
          · go_wp2_with (first | (at_builtin; go_loud (refine wpList_append_own _ rfl _ _ 40 rfl w.heap.size 45 i0 _ 5 40 Tryz.underlying40 hi hz0 hz1 hz2 rfl (by decide) u5 _ _ rfl (World.ownsRow.alloc (ownK (unhide HO) hR (by repeat (first | (with_reducible refine kp_setN ?_ (by first | (simp; done) | (simp; omega)) (by with_reducible assumption) _) | (with_reducible assumption) | (with_reducible exact Kp.refl _ _) | (with_reducible refine kp_set ?_ _) | (with_reducible refine kp_alloc (by with_reducible assumption) ?_ _) | (with_reducible refine kp_drew ?_) | (with_reducible refine kp_drewN ?_ _) | (with_reducible refine Kp.trans ?_ (by with_reducible assumption))))) _) ⟨wd.heap.size, 0, none⟩ 1 1 [.int .i64 2, .int .i64 60, .int .i64 0, .int .i64 0, .int .i64 0] rfl rfl (cells_new5g _ (by simp) (2) (60) (0) (0) (0) _) (by simp [Value.oneCell']) (by unfold maxLen; omega) (by omega) (by simp; omega) ?_); intro v' w5 hown' hgrow _))
            have hO5 := its_snoc hown'
            have hb5 : Below w.heap.size _ w5 := (Below.refl _ _).grown hgrow (by simp; omega) (unhide hge)
            have k5 : Kp R w w5 := kp_up hR (by repeat (first | (with_reducible refine kp_setN ?_ (by first | (simp; done) | (simp; omega)) (by with_reducible assumption) _) | (with_reducible assumption) | (with_reducible exact Kp.refl _ _) | (with_reducible refine kp_set ?_ _) | (with_reducible refine kp_alloc (by with_reducible assumption) ?_ _) | (with_reducible refine kp_drew ?_) | (with_reducible refine kp_drewN ?_ _) | (with_reducible refine Kp.trans ?_ (by with_reducible assumption)))) hb5
            have r5 : Hid (Rd R w5 a len cap (p' + 2)) := hide (((unhide rwd).up (by repeat (first | (with_reducible exact Below.refl _ _) | (with_reducible refine Below.setCell ?_ (by first | (simp; omega) | omega) _) | (with_reducible refine up_alloc ?_ (by first | omega | (simp; omega)) _) | (with_reducible refine Below.drew ?_)))).up (hb5.mono (by omega)))
            go_roundw
            case rel => exact ⟨j + 1, _, (p' + 2), (tt + x), 60, by go_num, by go_num, by go_num, by omega, by simp; omega, ⟨by omega, by omega⟩, ⟨by omega, by omega⟩, by omega, hLg.mark (by omega) (by omega) (by omega), hO5, r5, k5⟩
            case measure => simp [intOf]; omega
          · go_wp2
            go_roundw
            case rel => exact ⟨j + 1, xs, (p' + 2), (tt + x), mm, by go_num, by go_num, by go_num, by omega, by omega, ⟨by omega, by omega⟩, ⟨by omega, by omega⟩, by omega, hLg, ownK (unhide HO) hR (by repeat (first | (with_reducible refine kp_setN ?_ (by first | (simp; done) | (simp; omega)) (by with_reducible assumption) _) | (with_reducible assumption) | (with_reducible exact Kp.refl _ _) | (with_reducible refine kp_set ?_ _) | (with_reducible refine kp_alloc (by with_reducible assumption) ?_ _) | (with_reducible refine kp_drew ?_) | (with_reducible refine kp_drewN ?_ _) | (with_reducible refine Kp.trans ?_ (by with_reducible assumption)))), rwd, (by repeat (first | (with_reducible refine kp_setN ?_ (by first | (simp; done) | (simp; omega)) (by with_reducible assumption) _) | (with_reducible assumption) | (with_reducible exact Kp.refl _ _) | (with_reducible refine kp_set ?_ _) | (with_reducible refine kp_alloc (by with_reducible assumption) ?_ _) | (with_reducible refine kp_drew ?_) | (with_reducible refine kp_drewN ?_ _) | (with_reducible refine Kp.trans ?_ (by with_reducible assumption))))⟩
            case measure => simp [intOf]; omega
        · skip
          by_cases q2 : mm < (tt + x - bh)
          · go_wp2_with (first | (at_builtin; go_loud (refine wpList_append_own _ rfl _ _ 40 rfl w.heap.size 45 i0 _ 5 40 Tryz.underlying40 hi hz0 hz1 hz2 rfl (by decide) u5 _ _ rfl (World.ownsRow.alloc (ownK (unhide HO) hR (by repeat (first | (with_reducible refine kp_setN ?_ (by first | (simp; done) | (simp; omega)) (by with_reducible assumption) _) | (with_reducible assumption) | (with_reducible exact Kp.refl _ _) | (with_reducible refine kp_set ?_ _) | (with_reducible refine kp_alloc (by with_reducible assumption) ?_ _) | (with_reducible refine kp_drew ?_) | (with_reducible refine kp_drewN ?_ _) | (with_reducible refine Kp.trans ?_ (by with_reducible assumption))))) _) ⟨wd.heap.size, 0, none⟩ 1 1 [.int .i64 2, .int .i64 (tt + x - bh), .int .i64 0, .int .i64 0, .int .i64 0] rfl rfl (cells_new5g _ (by simp) (2) ((tt + x - bh)) (0) (0) (0) _) (by simp [Value.oneCell']) (by unfold maxLen; omega) (by omega) (by simp; omega) ?_); intro v' w5 hown' hgrow _))
            have hO5 := its_snoc hown'
            have hb5 : Below w.heap.size _ w5 := (Below.refl _ _).grown hgrow (by simp; omega) (unhide hge)
            have k5 : Kp R w w5 := kp_up hR (by repeat (first | (with_reducible refine kp_setN ?_ (by first | (simp; done) | (simp; omega)) (by with_reducible assumption) _) | (with_reducible assumption) | (with_reducible exact Kp.refl _ _) | (with_reducible refine kp_set ?_ _) | (with_reducible refine kp_alloc (by with_reducible assumption) ?_ _) | (with_reducible refine kp_drew ?_) | (with_reducible refine kp_drewN ?_ _) | (with_reducible refine Kp.trans ?_ (by with_reducible assumption)))) hb5
            have r5 : Hid (Rd R w5 a len cap (p' + 2)) := hide (((unhide rwd).up (by repeat (first | (with_reducible exact Below.refl _ _) | (with_reducible refine Below.setCell ?_ (by first | (simp; omega) | omega) _) | (with_reducible refine up_alloc ?_ (by first | omega | (simp; omega)) _) | (with_reducible refine Below.drew ?_)))).up (hb5.mono (by omega)))
            go_roundw
            case rel => exact ⟨j + 1, _, (p' + 2), (tt + x), (tt + x - bh), by go_num, by go_num, by go_num, by omega, by simp; omega, ⟨by omega, by omega⟩, ⟨by omega, by omega⟩, by omega, hLg.mark (by omega) (by omega) (by omega), hO5, r5, k5⟩
            case measure => simp [intOf]; omega
          · go_wp2
            go_roundw
            case rel => exact ⟨j + 1, xs, (p' + 2), (tt + x), mm, by go_num, by go_num, by go_num, by omega, by omega, ⟨by omega, by omega⟩, ⟨by omega, by omega⟩, by omega, hLg, ownK (unhide HO) hR (by repeat (first | (with_reducible refine kp_setN ?_ (by first | (simp; done) | (simp; omega)) (by with_reducible assumption) _) | (with_reducible assumption) | (with_reducible exact Kp.refl _ _) | (with_reducible refine kp_set ?_ _) | (with_reducible refine kp_alloc (by with_reducible assumption) ?_ _) | (with_reducible refine kp_drew ?_) | (with_reducible refine kp_drewN ?_ _) | (with_reducible refine Kp.trans ?_ (by with_reducible assumption)))), rwd, (by repeat (first | (with_reducible refine kp_setN ?_ (by first | (simp; done) | (simp; omega)) (by with_reducible assumption) _) | (with_reducible assumption) | (with_reducible exact Kp.refl _ _) | (with_reducible refine kp_set ?_ _) | (with_reducible refine kp_alloc (by with_reducible assumption) ?_ _) | (with_reducible refine kp_drew ?_) | (with_reducible refine kp_drewN ?_ _) | (with_reducible refine Kp.trans ?_ (by with_reducible assumption))))⟩
            case measure => simp [intOf]; omega
      · have hz' : (z == 0) = false := beq_eq_false_iff_ne.2 hz
        go_wp2_with fail
        (with_reducible refine (rec_any R a len cap (p' + 2) _ (by omega) (by first | (with_reducible assumption) | (simp; done) | (simp; omega)) ((unhide rwd).kpS hRwd (by repeat (first | (with_reducible exact Below.refl _ _) | (with_reducible refine Below.setCell ?_ (by first | (simp; omega) | omega) _) | (with_reducible refine up_alloc ?_ (by first | omega | (simp; omega)) _) | (with_reducible refine Below.drew ?_))))).mono ?_)
        rintro e we ⟨t1, k1, v, rfl, ⟨bt1, bt2⟩, bk, bv, kwe, qwe⟩
        have rwe := hide qwe
        clear qwe
        have zwe := kwe.low.size
        have hRwe : R < we.heap.size := (by have h9 := kwe.low.size; (try simp at h9); omega)
        have hnwe : we.heap.size ≠ R := (by omega)
        have hcwe := (fun b o hb hn => kwe.cell (b := b) (o := o) hb hn)
        have hfwe := (fun b o hb hn => kwe.frozen (b := b) (o := o) hb hn)
        have hn2we : we.heap.size + 1 ≠ R := (by omega)
        clear hcwe hfwe
        go_wp2_with fail
        (with_reducible refine (pick_any R a len cap (p' + 6) 20 _ (by omega) (by omega) ((unhide rwe).kpS hRwe (by repeat (first | (with_reducible exact Below.refl _ _) | (with_reducible refine Below.setCell ?_ (by first | (simp; omega) | omega) _) | (with_reducible refine up_alloc ?_ (by first | omega | (simp; omega)) _) | (with_reducible refine Below.drew ?_))))).mono ?_)
        rintro e wf ⟨d0, rfl, bd01, bd02, kwf, qwf⟩
        have rwf := hide (qwf (by omega))
        clear qwf
        have zwf := kwf.low.size
        have hRwf : R < wf.heap.size := (by have h9 := kwf.low.size; (try simp at h9); omega)
        have hnwf : wf.heap.size ≠ R := (by omega)
        have hcwf := (fun b o hb hn => kwf.cell (b := b) (o := o) hb hn)
        have hfwf := (fun b o hb hn => kwf.frozen (b := b) (o := o) hb hn)
        have xzwf : we.heap.size < wf.heap.size := (by (try simp at zwf); omega)
        have xywf : we.heap.size ≤ wf.heap.size := (by omega)
        have x0wf : wf.cell? ⟨we.heap.size, 0, none⟩ = some (.int .i64 1) := ((hcwf _ 0 (by first | (with_reducible assumption) | (simp; done) | (simp; omega)) hnwe).trans (by first | (with_reducible assumption) | (simp (maxDischargeDepth := 9) [go_sem, *]; done)))
        have xf0wf : wf.frozen? ⟨we.heap.size, 0, none⟩ = false := ((hfwf _ 0 (by first | (with_reducible assumption) | (simp; done) | (simp; omega)) hnwe).trans (by first | (with_reducible assumption) | (simp (maxDischargeDepth := 9) [go_sem, *]; done)))
        have x1wf : wf.cell? ⟨we.heap.size, 1, none⟩ = some (.int .i64 t1) := ((hcwf _ 1 (by first | (with_reducible assumption) | (simp; done) | (simp; omega)) hnwe).trans (by first | (with_reducible assumption) | (simp (maxDischargeDepth := 9) [go_sem, *]; done)))
        have xf1wf : wf.frozen? ⟨we.heap.size, 1, none⟩ = false := ((hfwf _ 1 (by first | (with_reducible assumption) | (simp; done) | (simp; omega)) hnwe).trans (by first | (with_reducible assumption) | (simp (maxDischargeDepth := 9) [go_sem, *]; done)))
        have x2wf : wf.cell? ⟨we.heap.size, 2, none⟩ = some (.int .i64 k1) := ((hcwf _ 2 (by first | (with_reducible assumption) | (simp; done) | (simp; omega)) hnwe).trans (by first | (with_reducible assumption) | (simp (maxDischargeDepth := 9) [go_sem, *]; done)))
        have xf2wf : wf.frozen? ⟨we.heap.size, 2, none⟩ = false := ((hfwf _ 2 (by first | (with_reducible assumption) | (simp; done) | (simp; omega)) hnwe).trans (by first | (with_reducible assumption) | (simp (maxDischargeDepth := 9) [go_sem, *]; done)))
        have x3wf : wf.cell? ⟨we.heap.size, 3, none⟩ = some (.int .i64 v) := ((hcwf _ 3 (by first | (with_reducible assumption) | (simp; done) | (simp; omega)) hnwe).trans (by first | (with_reducible assumption) | (simp (maxDischargeDepth := 9) [go_sem, *]; done)))
        have xf3wf : wf.frozen? ⟨we.heap.size, 3, none⟩ = false := ((hfwf _ 3 (by first | (with_reducible assumption) | (simp; done) | (simp; omega)) hnwe).trans (by first | (with_reducible assumption) | (simp (maxDischargeDepth := 9) [go_sem, *]; done)))
        have x4wf : wf.cell? ⟨we.heap.size, 4, none⟩ = some (.int .i64 0) := ((hcwf _ 4 (by first | (with_reducible assumption) | (simp; done) | (simp; omega)) hnwe).trans (by first | (with_reducible assumption) | (simp (maxDischargeDepth := 9) [go_sem, *]; done)))
        have xf4wf : wf.frozen? ⟨we.heap.size, 4, none⟩ = false := ((hfwf _ 4 (by first | (with_reducible assumption) | (simp; done) | (simp; omega)) hnwe).trans (by first | (with_reducible assumption) | (simp (maxDischargeDepth := 9) [go_sem, *]; done)))
        have hn2wf : wf.heap.size + 1 ≠ R := (by omega)
        go_wp2_with fail
        (with_reducible refine (pick_any R a len cap (p' + 7) 7 _ (by omega) (by omega) ((unhide rwf).kpS hRwf (by repeat (first | (with_reducible exact Below.refl _ _) | (with_reducible refine Below.setCell ?_ (by first | (simp; omega) | omega) _) | (with_reducible refine up_alloc ?_ (by first | omega | (simp; omega)) _) | (with_reducible refine Below.drew ?_))))).mono ?_)
        rintro e wg ⟨d1, rfl, bd11, bd12, kwg, qwg⟩
        have rwg := hide (qwg (by omega))
        clear qwg
        have zwg := kwg.low.size
        have hRwg : R < wg.heap.size := (by have h9 := kwg.low.size; (try simp at h9); omega)
        have hnwg : wg.heap.size ≠ R := (by omega)
        have hcwg := (fun b o hb hn => kwg.cell (b := b) (o := o) hb hn)
        have hfwg := (fun b o hb hn => kwg.frozen (b := b) (o := o) hb hn)
        have xzwg : we.heap.size < wg.heap.size := (by (try simp at zwg); omega)
        have xywg : we.heap.size ≤ wg.heap.size := (by omega)
        have x0wg : wg.cell? ⟨we.heap.size, 0, none⟩ = some (.int .i64 1) := ((hcwg _ 0 (by first | (with_reducible assumption) | (simp; done) | (simp; omega)) hnwe).trans (by first | (with_reducible assumption) | (simp (maxDischargeDepth := 9) [go_sem, *]; done)))
        have xf0wg : wg.frozen? ⟨we.heap.size, 0, none⟩ = false := ((hfwg _ 0 (by first | (with_reducible assumption) | (simp; done) | (simp; omega)) hnwe).trans (by first | (with_reducible assumption) | (simp (maxDischargeDepth := 9) [go_sem, *]; done)))
        have x1wg : wg.cell? ⟨we.heap.size, 1, none⟩ = some (.int .i64 t1) := ((hcwg _ 1 (by first | (with_reducible assumption) | (simp; done) | (simp; omega)) hnwe).trans (by first | (with_reducible assumption) | (simp (maxDischargeDepth := 9) [go_sem, *]; done)))
        have xf1wg : wg.frozen? ⟨we.heap.size, 1, none⟩ = false := ((hfwg _ 1 (by first | (with_reducible assumption) | (simp; done) | (simp; omega)) hnwe).trans (by first | (with_reducible assumption) | (simp (maxDischargeDepth := 9) [go_sem, *]; done)))
        have x2wg : wg.cell? ⟨we.heap.size, 2, none⟩ = some (.int .i64 k1) := ((hcwg _ 2 (by first | (with_reducible assumption) | (simp; done) | (simp; omega)) hnwe).trans (by first | (with_reducible assumption) | (simp (maxDischargeDepth := 9) [go_sem, *]; done)))
        have xf2wg : wg.frozen? ⟨we.heap.size, 2, none⟩ = false := ((hfwg _ 2 (by first | (with_reducible assumption) | (simp; done) | (simp; omega)) hnwe).trans (by first | (with_reducible assumption) | (simp (maxDischargeDepth := 9) [go_sem, *]; done)))
        have x3wg : wg.cell? ⟨we.heap.size, 3, none⟩ = some (.int .i64 v) := ((hcwg _ 3 (by first | (with_reducible assumption) | (simp; done) | (simp; omega)) hnwe).trans (by first | (with_reducible assumption) | (simp (maxDischargeDepth := 9) [go_sem, *]; done)))
        have xf3wg : wg.frozen? ⟨we.heap.size, 3, none⟩ = false := ((hfwg _ 3 (by first | (with_reducible assumption) | (simp; done) | (simp; omega)) hnwe).trans (by first | (with_reducible assumption) | (simp (maxDischargeDepth := 9) [go_sem, *]; done)))
        have x4wg : wg.cell? ⟨we.heap.size, 4, none⟩ = some (.int .i64 0) := ((hcwg _ 4 (by first | (with_reducible assumption) | (simp; done) | (simp; omega)) hnwe).trans (by first | (with_reducible assumption) | (simp (maxDischargeDepth := 9) [go_sem, *]; done)))
        have xf4wg : wg.frozen? ⟨we.heap.size, 4, none⟩ = false := ((hfwg _ 4 (by first | (with_reducible assumption) | (simp; done) | (simp; omega)) hnwe).trans (by first | (with_reducible assumption) | (simp (maxDischargeDepth := 9) [go_sem, *]; done)))
        have hn2wg : wg.heap.size + 1 ≠ R := (by omega)
        obtain ⟨d, hd, hd', hd'', bd1, bd2⟩ := el7d d0 bd01 (by omega) d1 bd11 bd12
        have hwd1 : IntKind.i64.wrap (tt + x - d) = tt + x - d := IntWalk.i64_in _ (by omega)
        · skip
          go_wp2_with fail
          (with_reducible refine (pick_any R a len cap (p' + 8) 3 _ (by omega) (by omega) ((unhide rwg).kpS hRwg (by repeat (first | (with_reducible exact Below.refl _ _) | (with_reducible refine Below.setCell ?_ (by first | (simp; omega) | omega) _) | (with_reducible refine up_alloc ?_ (by first | omega | (simp; omega)) _) | (with_reducible refine Below.drew ?_))))).mono ?_)
          rintro e wh ⟨kk, rfl, bkk1, bkk2, kwh, qwh⟩
          have rwh := hide (qwh (by omega))
          clear qwh
          have zwh := kwh.low.size
          have hRwh : R < wh.heap.size := (by have h9 := kwh.low.size; (try simp at h9); omega)
          have hnwh : wh.heap.size ≠ R := (by omega)
          have hcwh := (fun b o hb hn => kwh.cell (b := b) (o := o) hb hn)
          have hfwh := (fun b o hb hn => kwh.frozen (b := b) (o := o) hb hn)
          have xzwh : we.heap.size < wh.heap.size := (by (try simp at zwh); omega)
          have xywh : we.heap.size ≤ wh.heap.size := (by omega)
          have x0wh : wh.cell? ⟨we.heap.size, 0, none⟩ = some (.int .i64 1) := ((hcwh _ 0 (by first | (with_reducible assumption) | (simp; done) | (simp; omega)) hnwe).trans (by first | (with_reducible assumption) | (simp (maxDischargeDepth := 9) [go_sem, *]; done)))
          have xf0wh : wh.frozen? ⟨we.heap.size, 0, none⟩ = false := ((hfwh _ 0 (by first | (with_reducible assumption) | (simp; done) | (simp; omega)) hnwe).trans (by first | (with_reducible assumption) | (simp (maxDischargeDepth := 9) [go_sem, *]; done)))
          have x1wh : wh.cell? ⟨we.heap.size, 1, none⟩ = some (.int .i64 (tt + x - d)) := ((hcwh _ 1 (by first | (with_reducible assumption) | (simp; done) | (simp; omega)) hnwe).trans (by first | (with_reducible assumption) | (simp (maxDischargeDepth := 9) [go_sem, *]; done)))
          have xf1wh : wh.frozen? ⟨we.heap.size, 1, none⟩ = false := ((hfwh _ 1 (by first | (with_reducible assumption) | (simp; done) | (simp; omega)) hnwe).trans (by first | (with_reducible assumption) | (simp (maxDischargeDepth := 9) [go_sem, *]; done)))
          have x2wh : wh.cell? ⟨we.heap.size, 2, none⟩ = some (.int .i64 k1) := ((hcwh _ 2 (by first | (with_reducible assumption) | (simp; done) | (simp; omega)) hnwe).trans (by first | (with_reducible assumption) | (simp (maxDischargeDepth := 9) [go_sem, *]; done)))
          have xf2wh : wh.frozen? ⟨we.heap.size, 2, none⟩ = false := ((hfwh _ 2 (by first | (with_reducible assumption) | (simp; done) | (simp; omega)) hnwe).trans (by first | (with_reducible assumption) | (simp (maxDischargeDepth := 9) [go_sem, *]; done)))
          have x3wh : wh.cell? ⟨we.heap.size, 3, none⟩ = some (.int .i64 v) := ((hcwh _ 3 (by first | (with_reducible assumption) | (simp; done) | (simp; omega)) hnwe).trans (by first | (with_reducible assumption) | (simp (maxDischargeDepth := 9) [go_sem, *]; done)))
          have xf3wh : wh.frozen? ⟨we.heap.size, 3, none⟩ = false := ((hfwh _ 3 (by first | (with_reducible assumption) | (simp; done) | (simp; omega)) hnwe).trans (by first | (with_reducible assumption) | (simp (maxDischargeDepth := 9) [go_sem, *]; done)))
          have x4wh : wh.cell? ⟨we.heap.size, 4, none⟩ = some (.int .i64 0) := ((hcwh _ 4 (by first | (with_reducible assumption) | (simp; done) | (simp; omega)) hnwe).trans (by first | (with_reducible assumption) | (simp (maxDischargeDepth := 9) [go_sem, *]; done)))
          have xf4wh : wh.frozen? ⟨we.heap.size, 4, none⟩ = false := ((hfwh _ 4 (by first | (with_reducible assumption) | (simp; done) | (simp; omega)) hnwe).trans (by first | (with_reducible assumption) | (simp (maxDischargeDepth := 9) [go_sem, *]; done)))
          have hn2wh : wh.heap.size + 1 ≠ R := (by omega)
          have hwh : w.heap.size ≤ wh.heap.size := by (try simp at zwe zwf zwg zwh); omega
          by_cases q3 : tt + x - d < 0
          · skip
            go_wp2_with (first | (at_builtin; go_loud (refine wpList_append_own _ rfl _ _ 40 rfl w.heap.size 45 i0 _ 5 40 Tryz.underlying40 hi hz0 hz1 hz2 rfl (by decide) u5 _ _ rfl (World.ownsRow.alloc (ownK (unhide HO) hR (by repeat (first | (with_reducible refine kp_setN ?_ (by first | (simp; done) | (simp; omega)) (by with_reducible assumption) _) | (with_reducible assumption) | (with_reducible exact Kp.refl _ _) | (with_reducible refine kp_set ?_ _) | (with_reducible refine kp_alloc (by with_reducible assumption) ?_ _) | (with_reducible refine kp_drew ?_) | (with_reducible refine kp_drewN ?_ _) | (with_reducible refine Kp.trans ?_ (by with_reducible assumption))))) _) ⟨wh.heap.size, 0, none⟩ 1 1 [.int .i64 1, .int .i64 0, .int .i64 kk, .int .i64 v, .int .i64 0] rfl rfl (cells_new5g _ (by simp) (1) (0) (kk) (v) (0) _) (by simp [Value.oneCell']) (by unfold maxLen; omega) (by omega) (by simp; omega) ?_); intro v' w5 hown' hgrow _))
            have hO5 := its_snoc hown'
            have hb5 : Below w.heap.size _ w5 := (Below.refl _ _).grown hgrow (by simp; omega) (unhide hge)
            have k5 : Kp R w w5 := kp_up hR (by repeat (first | (with_reducible refine kp_setN ?_ (by first | (simp; done) | (simp; omega)) (by with_reducible assumption) _) | (with_reducible assumption) | (with_reducible exact Kp.refl _ _) | (with_reducible refine kp_set ?_ _) | (with_reducible refine kp_alloc (by with_reducible assumption) ?_ _) | (with_reducible refine kp_drew ?_) | (with_reducible refine kp_drewN ?_ _) | (with_reducible refine Kp.trans ?_ (by with_reducible assumption)))) hb5
            have r5 : Hid (Rd R w5 a len cap (p' + 9)) := hide (((unhide rwh).up (by repeat (first | (with_reducible exact Below.refl _ _) | (with_reducible refine Below.setCell ?_ (by first | (simp; omega) | omega) _) | (with_reducible refine up_alloc ?_ (by first | omega | (simp; omega)) _) | (with_reducible refine Below.drew ?_)))).up (hb5.mono (by omega)))
            go_roundw
            case rel => exact ⟨j + 1, _, (p' + 9), (tt + x), mm, by go_num, by go_num, by go_num, by omega, by simp; omega, ⟨by omega, by omega⟩, ⟨by omega, by omega⟩, by omega, hLg.recd (by omega) (by omega) (by omega) (by omega) (by omega) (by omega), hO5, r5, k5⟩
            case measure => simp [intOf]; omega
          · by_cases q4 : 60 < tt + x - d
            · skip
              go_wp2_with (first | (at_builtin; go_loud (refine wpList_append_own _ rfl _ _ 40 rfl w.heap.size 45 i0 _ 5 40 Tryz.underlying40 hi hz0 hz1 hz2 rfl (by decide) u5 _ _ rfl (World.ownsRow.alloc (ownK (unhide HO) hR (by repeat (first | (with_reducible refine kp_setN ?_ (by first | (simp; done) | (simp; omega)) (by with_reducible assumption) _) | (with_reducible assumption) | (with_reducible exact Kp.refl _ _) | (with_reducible refine kp_set ?_ _) | (with_reducible refine kp_alloc (by with_reducible assumption) ?_ _) | (with_reducible refine kp_drew ?_) | (with_reducible refine kp_drewN ?_ _) | (with_reducible refine Kp.trans ?_ (by with_reducible assumption))))) _) ⟨wh.heap.size, 0, none⟩ 1 1 [.int .i64 1, .int .i64 60, .int .i64 kk, .int .i64 v, .int .i64 0] rfl rfl (cells_new5g _ (by simp) (1) (60) (kk) (v) (0) _) (by simp [Value.oneCell']) (by unfold maxLen; omega) (by omega) (by simp; omega) ?_); intro v' w5 hown' hgrow _))
              have hO5 := its_snoc hown'
              have hb5 : Below w.heap.size _ w5 := (Below.refl _ _).grown hgrow (by simp; omega) (unhide hge)
              have k5 : Kp R w w5 := kp_up hR (by repeat (first | (with_reducible refine kp_setN ?_ (by first | (simp; done) | (simp; omega)) (by with_reducible assumption) _) | (with_reducible assumption) | (with_reducible exact Kp.refl _ _) | (with_reducible refine kp_set ?_ _) | (with_reducible refine kp_alloc (by with_reducible assumption) ?_ _) | (with_reducible refine kp_drew ?_) | (with_reducible refine kp_drewN ?_ _) | (with_reducible refine Kp.trans ?_ (by with_reducible assumption)))) hb5
              have r5 : Hid (Rd R w5 a len cap (p' + 9)) := hide (((unhide rwh).up (by repeat (first | (with_reducible exact Below.refl _ _) | (with_reducible refine Below.setCell ?_ (by first | (simp; omega) | omega) _) | (with_reducible refine up_alloc ?_ (by first | omega | (simp; omega)) _) | (with_reducible refine Below.drew ?_)))).up (hb5.mono (by omega)))
              go_roundw
              case rel => exact ⟨j + 1, _, (p' + 9), (tt + x), mm, by go_num, by go_num, by go_num, by omega, by simp; omega, ⟨by omega, by omega⟩, ⟨by omega, by omega⟩, by omega, hLg.recd (by omega) (by omega) (by omega) (by omega) (by omega) (by omega), hO5, r5, k5⟩
              case measure => simp [intOf]; omega
            · skip
              go_wp2_with (first | (at_builtin; go_loud (refine wpList_append_own _ rfl _ _ 40 rfl w.heap.size 45 i0 _ 5 40 Tryz.underlying40 hi hz0 hz1 hz2 rfl (by decide) u5 _ _ rfl (World.ownsRow.alloc (ownK (unhide HO) hR (by repeat (first | (with_reducible refine kp_setN ?_ (by first | (simp; done) | (simp; omega)) (by with_reducible assumption) _) | (with_reducible assumption) | (with_reducible exact Kp.refl _ _) | (with_reducible refine kp_set ?_ _) | (with_reducible refine kp_alloc (by with_reducible assumption) ?_ _) | (with_reducible refine kp_drew ?_) | (with_reducible refine kp_drewN ?_ _) | (with_reducible refine Kp.trans ?_ (by with_reducible assumption))))) _) ⟨wh.heap.size, 0, none⟩ 1 1 [.int .i64 1, .int .i64 (tt + x - d), .int .i64 kk, .int .i64 v, .int .i64 0] rfl rfl (cells_new5g _ (by simp) (1) ((tt + x - d)) (kk) (v) (0) _) (by simp [Value.oneCell']) (by unfold maxLen; omega) (by omega) (by simp; omega) ?_); intro v' w5 hown' hgrow _))
              have hO5 := its_snoc hown'
              have hb5 : Below w.heap.size _ w5 := (Below.refl _ _).grown hgrow (by simp; omega) (unhide hge)
              have k5 : Kp R w w5 := kp_up hR (by repeat (first | (with_reducible refine kp_setN ?_ (by first | (simp; done) | (simp; omega)) (by with_reducible assumption) _) | (with_reducible assumption) | (with_reducible exact Kp.refl _ _) | (with_reducible refine kp_set ?_ _) | (with_reducible refine kp_alloc (by with_reducible assumption) ?_ _) | (with_reducible refine kp_drew ?_) | (with_reducible refine kp_drewN ?_ _) | (with_reducible refine Kp.trans ?_ (by with_reducible assumption)))) hb5
              have r5 : Hid (Rd R w5 a len cap (p' + 9)) := hide (((unhide rwh).up (by repeat (first | (with_reducible exact Below.refl _ _) | (with_reducible refine Below.setCell ?_ (by first | (simp; omega) | omega) _) | (with_reducible refine up_alloc ?_ (by first | omega | (simp; omega)) _) | (with_reducible refine Below.drew ?_)))).up (hb5.mono (by omega)))
              go_roundw
              case rel => exact ⟨j + 1, _, (p' + 9), (tt + x), mm, by go_num, by go_num, by go_num, by omega, by simp; omega, ⟨by omega, by omega⟩, ⟨by omega, by omega⟩, by omega, hLg.recd (by omega) (by omega) (by omega) (by omega) (by omega) (by omega), hO5, r5, k5⟩
              case measure => simp [intOf]; omega
    · have hjn : j = n := by omega
      subst hjn
      go_wp2_with (first | (at_builtin; go_loud (refine wpList_append_own _ rfl _ _ 40 rfl w.heap.size 45 i0 _ 5 40 Tryz.underlying40 hi hz0 hz1 hz2 rfl (by decide) u5 _ _ rfl (World.ownsRow.alloc (ownK (unhide HO) hR (by repeat (first | (with_reducible refine kp_setN ?_ (by first | (simp; done) | (simp; omega)) (by with_reducible assumption) _) | (with_reducible assumption) | (with_reducible exact Kp.refl _ _) | (with_reducible refine kp_set ?_ _) | (with_reducible refine kp_alloc (by with_reducible assumption) ?_ _) | (with_reducible refine kp_drew ?_) | (with_reducible refine kp_drewN ?_ _) | (with_reducible refine Kp.trans ?_ (by with_reducible assumption))))) _) ⟨wr.heap.size, 0, none⟩ 1 1 [.int .i64 2, .int .i64 1000, .int .i64 0, .int .i64 0, .int .i64 0] rfl rfl (cells_new5g _ (by simp) (2) (1000) (0) (0) (0) _) (by simp [Value.oneCell']) (by unfold maxLen; omega) (by omega) (by simp; omega) ?_); intro v' w5 hown' hgrow _))
      have hO5 := its_snoc hown'
      have hb5 : Below w.heap.size _ w5 := (Below.refl _ _).grown hgrow (by simp; omega) (unhide hge)
      have k5 : Kp R w w5 := kp_up hR (by repeat (first | (with_reducible refine kp_setN ?_ (by first | (simp; done) | (simp; omega)) (by with_reducible assumption) _) | (with_reducible assumption) | (with_reducible exact Kp.refl _ _) | (with_reducible refine kp_set ?_ _) | (with_reducible refine kp_alloc (by with_reducible assumption) ?_ _) | (with_reducible refine kp_drew ?_) | (with_reducible refine kp_drewN ?_ _) | (with_reducible refine Kp.trans ?_ (by with_reducible assumption)))) hb5
      have r5 : Hid (Rd R w5 a len cap p') := hide (((unhide rwr).up (by repeat (first | (with_reducible exact Below.refl _ _) | (with_reducible refine Below.setCell ?_ (by first | (simp; omega) | omega) _) | (with_reducible refine up_alloc ?_ (by first | omega | (simp; omega)) _) | (with_reducible refine Below.drew ?_)))).up (hb5.mono (by omega)))
      go_wp2
      go_ret
      exact ⟨_, xs, rfl, hO5, fun h39 => hLg.fin (by omega) hm2, ⟨mm, hm2, hLg⟩, hxl, k5, p', by omega, unhide r5⟩
theorem log_any (R : Nat) (a : Option Addr) (len cap p n : Nat) (w : World) (hn : n ≤ 1000) (hp : p ≤ 500000) (hR : R < w.heap.size) (h : Rd R w a len cap p) : Calls Tryz.prog 16 #[.pointer (some ⟨R, 0, none⟩), .int .i64 n] w fun e w' => LogD R w a len cap p n e w' := by
  refine (logK_any R a len cap p n w hn hp hR h).mono ?_
  rintro e w' ⟨v, xs, rfl, hO, _, _, hl, hk, hr⟩
  exact ⟨v, _, rfl, hO, ⟨by simp, by simp; omega⟩, hk, hr⟩
end Go.Proofs.YtcokdcehjibanaaGreatDoor
/- Proved here: a log, or what is none, is drawn: items in new memory; but for the reader's place nothing turns. -/
namespace Go.Proofs.YtcokdcehjibanaaGreatDoor
open Go.ChangeShapes Go.WideShapes Go.ChangeAt Go.RowKit
set_option linter.unusedVariables false

/-- What is drawn. -/
def AnyD (R : Nat) (w : World) (a : Option Addr) (len cap p : Nat) (e : Ending) (w' : World) : Prop := ∃ (v : Value) (xs : List It), e = .returned v ∧ OwnIts w' w.heap.size v xs ∧ xs.length ≤ 41 ∧ Kp R w w' ∧ ∃ p', p' ≤ p + 1000 ∧ Rd R w' a len cap p'
theorem Kp.up {R : Nat} {w W W' : World} (h : Kp R w W) (hR : R < w.heap.size) (hb : Below w.heap.size W W') : Kp R w W' := kp_up hR h hb
theorem grown_belA {W W' : World} {B : Nat} {row : Option Nat} (hg : W.grownBy W' row) (hB : B ≤ W.heap.size) (hr : ∀ k, row = some k → B ≤ k) : Below B W W' := (Below.refl _ _).grown hg hB hr

theorem own_slice {W : World} {B : Nat} {e : TypeId} {size n : Nat} {v : Value} {xs : List Value} (h : W.ownsRow B e size v n xs) : ∃ a c, v = .slice a n c := by
  rcases h.2 with ⟨rfl, h0⟩ | ⟨g, cap, cur, rfl, _⟩
  · exact ⟨none, 0, by rw [h0]⟩
  · exact ⟨_, _, rfl⟩
def slLen : Value → Nat
  | .slice _ n _ => n
  | _ => 0
theorem own_news_all {W : World} {B g cp : Nat} {xs : List It} (h : OwnIts W B (.slice (some ⟨g, 0, none⟩) xs.length cp) xs) : ∀ j u, (flat xs)[j]? = some u → W.cell? ((⟨g, 0, none⟩ : Addr).add j) = some u := by
  intro j u hu
  have := own_news h rfl 0 j u (by simpa using hu)
  simpa using this
theorem its_cons {W : World} {B : Nat} {v' : Value} {xs : List It} {q t k v n : Int} (h : W.ownsRow B 45 5 v' (1 + xs.length) ([.int .i64 q, .int .i64 t, .int .i64 k, .int .i64 v, .int .i64 n] ++ flat xs)) : OwnIts W B v' (⟨q, t, k, v, n⟩ :: xs) := by
  unfold OwnIts
  rw [show (⟨q, t, k, v, n⟩ :: xs : List It).length = 1 + xs.length by simp; omega]
  exact h
theorem its_mid {W : World} {B k : Nat} {v' : Value} {xs : List It} {q t kk v n : Int} (h : W.ownsRow B 45 5 v' (k + 1 + (xs.length - k)) (flat (xs.take k) ++ [.int .i64 q, .int .i64 t, .int .i64 kk, .int .i64 v, .int .i64 n] ++ flat (xs.drop k))) (hk : k ≤ xs.length) : OwnIts W B v' (xs.take k ++ [⟨q, t, kk, v, n⟩] ++ xs.drop k) := by
  unfold OwnIts
  rw [flat_app, flat_app, show (xs.take k ++ [(⟨q, t, kk, v, n⟩ : It)] ++ xs.drop k).length = k + 1 + (xs.length - k) by simp; omega]
  exact h

set_option linter.unusedSimpArgs false in
set_option maxRecDepth 20000 in
set_option maxHeartbeats 16000000 in
theorem any_any (R : Nat) (a : Option Addr) (len cap p : Nat) (n : Int) (w : World) (hn : 1 ≤ n) (hn2 : n ≤ 100000) (hp : p ≤ 400000) (hR : R < w.heap.size) (h : Rd R w a len cap p) : Calls Tryz.prog 15 #[.pointer (some ⟨R, 0, none⟩), .int .i64 n] w fun e w' => AnyD R w a len cap p e w' := by
  obtain ⟨i0, hi, hz0, hz1, hz2⟩ := info_parts Tryz.infoItm
  have r0 := hide h
  have hn0 : w.heap.size ≠ R := by omega
  clear h
  go_enter Tryz.func15, Tryz.ntmps15
  go_wp2_with fail
  (with_reducible refine (pick_any R a len cap p 16 _ (by omega) (by omega) ((unhide r0).kpS hR (by repeat (first | (with_reducible exact Below.refl _ _) | (with_reducible refine Below.setCell ?_ (by first | (simp; omega) | omega) _) | (with_reducible refine up_alloc ?_ (by first | omega | (simp; omega)) _) | (with_reducible refine Below.drew ?_))))).mono ?_)
  rintro e wa ⟨x, rfl, bx1, bx2, kwa, qwa⟩
  have rwa := hide (qwa (by omega))
  clear qwa
  have zwa := kwa.low.size
  have hRwa : R < wa.heap.size := (by have h9 := kwa.low.size; (try simp at h9); omega)
  have hnwa : wa.heap.size ≠ R := (by omega)
  have hcwa := (fun b o hb hn => kwa.cell (b := b) (o := o) hb hn)
  have hfwa := (fun b o hb hn => kwa.frozen (b := b) (o := o) hb hn)
  have hn2wa : wa.heap.size + 1 ≠ R := (by omega)
  clear hcwa hfwa
  obtain ⟨xn, rfl⟩ : ∃ xn : Nat, x = (xn : Int) := ⟨x.toNat, by omega⟩
  have kwa0 : Kp R w wa := (by repeat (first | (with_reducible refine kp_setN ?_ (by first | (simp; done) | (simp; omega)) (by with_reducible assumption) _) | (with_reducible assumption) | (with_reducible exact Kp.refl _ _) | (with_reducible refine kp_set ?_ _) | (with_reducible refine kp_alloc (by with_reducible assumption) ?_ _) | (with_reducible refine kp_drew ?_) | (with_reducible refine kp_drewN ?_ _) | (with_reducible refine Kp.trans ?_ (by with_reducible assumption))))
  go_wp2_with fail
  (with_reducible refine (log_any R a len cap (p + 1) xn _ (by omega) (by omega) hRwa (unhide rwa)).mono ?_)
  rintro e wb ⟨v, xs, rfl, hO, ⟨hl1, hl2⟩, kwb, p1, hp1, qwb⟩
  have rwb := hide qwb
  clear qwb
  have hRwb : R < wb.heap.size := by have h9 := kwb.low.size; omega
  have kb : Kp R w wb := kwa0.trans kwb
  have zb := kb.low.size
  have hwab : w.heap.size ≤ wa.heap.size := by have h9 := kwa.low.size; (try simp at h9); omega
  obtain ⟨g, cp, rfl, hBg, hgl, hcp⟩ := own_form hO hl1
  have HO := hide (World.ownsRow.mono hO hwab)
  have hgR : g ≠ R := by omega
  clear hO kwb kwa kwa0 rwa
  go_wp2_with fail
  (with_reducible refine (pick_any R a len cap p1 n _ (by omega) (by omega) ((unhide rwb).kpS hRwb (by repeat (first | (with_reducible exact Below.refl _ _) | (with_reducible refine Below.setCell ?_ (by first | (simp; omega) | omega) _) | (with_reducible refine up_alloc ?_ (by first | omega | (simp; omega)) _) | (with_reducible refine Below.drew ?_))))).mono ?_)
  rintro e wc ⟨z, rfl, bz1, bz2, kwc, qwc⟩
  have rwc := hide (qwc (by omega))
  clear qwc
  have zwc := kwc.low.size
  have hRwc : R < wc.heap.size := (by have h9 := kwc.low.size; (try simp at h9); omega)
  have hnwc : wc.heap.size ≠ R := (by omega)
  have hcwc := (fun b o hb hn => kwc.cell (b := b) (o := o) hb hn)
  have hfwc := (fun b o hb hn => kwc.frozen (b := b) (o := o) hb hn)
  have hn2wc : wc.heap.size + 1 ≠ R := (by omega)
  have kc : Kp R w wc := kb.trans kwc
  have HC : Hid (OwnIts wc w.heap.size (.slice (some ⟨g, 0, none⟩) xs.length cp) xs) := hide (ownK (unhide HO) hR (by repeat (first | (with_reducible refine kp_setN ?_ (by first | (simp; done) | (simp; omega)) (by with_reducible assumption) _) | (with_reducible assumption) | (with_reducible exact Kp.refl _ _) | (with_reducible refine kp_set ?_ _) | (with_reducible refine kp_alloc (by with_reducible assumption) ?_ _) | (with_reducible refine kp_drew ?_) | (with_reducible refine kp_drewN ?_ _) | (with_reducible refine Kp.trans ?_ (by with_reducible assumption)))))
  clear hcwc hfwc HO rwb
  have zc := kwc.low.size
  by_cases hz : 0 < z
  · go_wp2
    go_ret
    exact ⟨_, _, rfl, unhide HC, by omega, kc, p1 + 1, by omega, unhide rwc⟩
  have hz' : decide (0 < z) = false := by simp; omega
  go_wp2_with fail
  (with_reducible refine (pick_any R a len cap (p1 + 1) (xs.length : Int) _ (by omega) (by omega) ((unhide rwc).kpS hRwc (by repeat (first | (with_reducible exact Below.refl _ _) | (with_reducible refine Below.setCell ?_ (by first | (simp; omega) | omega) _) | (with_reducible refine up_alloc ?_ (by first | omega | (simp; omega)) _) | (with_reducible refine Below.drew ?_))))).mono ?_)
  rintro e wd ⟨k0, rfl, bk01, bk02, kwd, qwd⟩
  have rwd := hide (qwd (by omega))
  clear qwd
  have zwd := kwd.low.size
  have hRwd : R < wd.heap.size := (by have h9 := kwd.low.size; (try simp at h9); omega)
  have hnwd : wd.heap.size ≠ R := (by omega)
  have hcwd := (fun b o hb hn => kwd.cell (b := b) (o := o) hb hn)
  have hfwd := (fun b o hb hn => kwd.frozen (b := b) (o := o) hb hn)
  have hn2wd : wd.heap.size + 1 ≠ R := (by omega)
  obtain ⟨k, rfl⟩ : ∃ k : Nat, k0 = (k : Int) := ⟨k0.toNat, by omega⟩
  have kd : Kp R w wd := kc.trans kwd
  have HD : Hid (OwnIts wd w.heap.size (.slice (some ⟨g, 0, none⟩) xs.length cp) xs) := hide (ownK (unhide HC) hR (by repeat (first | (with_reducible refine kp_setN ?_ (by first | (simp; done) | (simp; omega)) (by with_reducible assumption) _) | (with_reducible assumption) | (with_reducible exact Kp.refl _ _) | (with_reducible refine kp_set ?_ _) | (with_reducible refine kp_alloc (by with_reducible assumption) ?_ _) | (with_reducible refine kp_drew ?_) | (with_reducible refine kp_drewN ?_ _) | (with_reducible refine Kp.trans ?_ (by with_reducible assumption)))))
  clear hcwd hfwd HC rwc
  go_wp2_with fail
  (with_reducible refine (pick_any R a len cap (p1 + 1 + 1) 5 _ (by omega) (by omega) ((unhide rwd).kpS hRwd (by repeat (first | (with_reducible exact Below.refl _ _) | (with_reducible refine Below.setCell ?_ (by first | (simp; omega) | omega) _) | (with_reducible refine up_alloc ?_ (by first | omega | (simp; omega)) _) | (with_reducible refine Below.drew ?_))))).mono ?_)
  rintro e we ⟨y, rfl, by1, by2, kwe, qwe⟩
  have rwe := hide (qwe (by omega))
  clear qwe
  have zwe := kwe.low.size
  have hRwe : R < we.heap.size := (by have h9 := kwe.low.size; (try simp at h9); omega)
  have hnwe : we.heap.size ≠ R := (by omega)
  have hcwe := (fun b o hb hn => kwe.cell (b := b) (o := o) hb hn)
  have hfwe := (fun b o hb hn => kwe.frozen (b := b) (o := o) hb hn)
  have hn2we : we.heap.size + 1 ≠ R := (by omega)
  have ke : Kp R w we := kd.trans kwe
  have HE : Hid (OwnIts we w.heap.size (.slice (some ⟨g, 0, none⟩) xs.length cp) xs) := hide (ownK (unhide HD) hR (by repeat (first | (with_reducible refine kp_setN ?_ (by first | (simp; done) | (simp; omega)) (by with_reducible assumption) _) | (with_reducible assumption) | (with_reducible exact Kp.refl _ _) | (with_reducible refine kp_set ?_ _) | (with_reducible refine kp_alloc (by with_reducible assumption) ?_ _) | (with_reducible refine kp_drew ?_) | (with_reducible refine kp_drewN ?_ _) | (with_reducible refine Kp.trans ?_ (by with_reducible assumption)))))
  clear hcwe hfwe HD rwd
  have hge : Hid (∀ q, ((.slice (some ⟨g, 0, none⟩) xs.length cp) : Value).ownBlock = some q → w.heap.size ≤ q) := hide (own_ge (unhide HE))
  have hyy : y = 0 ∨ y = 1 ∨ y = 2 ∨ y = 3 ∨ y = 4 := by omega
  rcases hyy with rfl | rfl | rfl | rfl | rfl
  · go_wp2_with fail
    (with_reducible refine (item_any R a len cap (p1 + 1 + 1 + 1) 2 _ (by omega) (by omega) (by omega) hRwe (unhide rwe)).mono ?_)
    rintro e wf ⟨q1, t1, k1, v1, n1, rfl, kwf, pf, hpf, qwf⟩
    have rwf := hide qwf
    clear qwf
    have kf : Kp R w wf := ke.trans kwf
    have HF : OwnIts wf w.heap.size (.slice (some ⟨g, 0, none⟩) xs.length cp) xs := ownK (unhide HE) hR kwf
    obtain ⟨⟨u0, d0⟩, ⟨u1, d1⟩, ⟨u2, d2⟩, ⟨u3, d3⟩, ⟨u4, d4⟩⟩ := own_cells HF rfl (k := k) (by omega)
    have f0 := own_frozen HF rfl (k * 5)
    have f1 := own_frozen HF rfl (k * 5 + 1)
    have f2 := own_frozen HF rfl (k * 5 + 2)
    have f3 := own_frozen HF rfl (k * 5 + 3)
    have f4 := own_frozen HF rfl (k * 5 + 4)
    have HP := hide (own_put HF rfl k ⟨q1, t1, k1, v1, n1⟩)
    have hlk : k < xs.length := by omega
    have zf := kf.low.size
    clear HF
    go_wp2
    go_ret
    refine ⟨_, _, rfl, unhide HP, by simp; omega, kf.up hR ?_, pf, by omega, (unhide rwf).up ?_⟩
    · exact (((((Below.refl _ _).setCell (by simp; omega) _).setCell (by simp; omega) _).setCell (by simp; omega) _).setCell (by simp; omega) _).setCell (by simp; omega) _
    · exact (((((Below.refl _ _).setCell (by simp; omega) _).setCell (by simp; omega) _).setCell (by simp; omega) _).setCell (by simp; omega) _).setCell (by simp; omega) _
  · have HT := hide (own_take (unhide HE) (xs.length - 1) (by omega))
    go_wp2
    go_ret
    exact ⟨_, _, rfl, unhide HT, by simp; omega, ke, p1 + 1 + 1 + 1, by omega, unhide rwe⟩
  · go_wp2_with fail
    (with_reducible refine (item_any R a len cap (p1 + 1 + 1 + 1) 3 _ (by omega) (by omega) (by omega) hRwe (unhide rwe)).mono ?_)
    rintro e wf ⟨q1, t1, k1, v1, n1, rfl, kwf, pf, hpf, qwf⟩
    have rwf := hide qwf
    clear qwf
    have kf : Kp R w wf := ke.trans kwf
    have HF := hide (ownK (unhide HE) hR kwf)
    have zf := kf.low.size
    go_wp2_with (at_builtin; go_loud (refine wpList_append_own _ rfl _ _ 40 rfl w.heap.size 45 i0 _ 5 40 Tryz.underlying40 hi hz0 hz1 hz2 rfl (by decide) (.slice (some ⟨g, 0, none⟩) xs.length cp) _ _ rfl (World.ownsRow.alloc (unhide HF) _) ⟨wf.heap.size, 0, none⟩ 1 1 [.int .i64 q1, .int .i64 t1, .int .i64 k1, .int .i64 v1, .int .i64 n1] rfl rfl (cells_new5g _ (by simp) _ _ _ _ _ _) (by simp [Value.oneCell']) (by unfold maxLen; omega) (by omega) (by simp; omega) ?_); intro v' w5 hown' hgrow _)
    go_ret
    refine ⟨_, _, rfl, its_snoc hown', by simp; omega, (kf.up hR (up_alloc (Below.refl _ _) (by omega) _)).up hR (grown_belA hgrow (by simp; omega) (unhide hge)), pf, by omega, ((unhide rwf).up (up_alloc (Below.refl _ _) (by omega) _)).up ((grown_belA hgrow (by simp; omega) (unhide hge)).mono (by omega))⟩
  · have hwe : w.heap.size ≤ we.heap.size := by have h9 := ke.low.size; have h8 := kwe.low.size; have h7 := kwd.low.size; have h6 := kwc.low.size; omega
    have hkc : k ≤ cp := by omega
    have hkl : k ≤ xs.length := by omega
    have hck : ¬ cp = k := by omega
    have hgw : g < we.heap.size := by have h8 := kwe.low.size; have h7 := kwd.low.size; have h6 := kwc.low.size; omega
    have HE1 := hide (World.ownsRow.drew (World.ownsRow.alloc (unhide HE) (.cells #[] 45)))
    go_wp2_with fail
    refine wp_region_held_drew (S := (fun W => R < W.heap.size)) (by kernel_rfl) ?_ (fun hHeld => ?_)
    · (try dsimp only); first | omega | (simp; omega)
    refine wpAnyH_take (i := 1) (v := ?_) (by simp only [List.getElem?_toArray, List.getElem?_cons_zero, List.getElem?_cons_succ]; rfl) (by kernel_rfl) (by kernel_rfl) (by kernel_rfl) (by intro _ _ _ h; exact h) (Or.inl ⟨by rfl, ?_⟩) (by assumption) ?_
    rotate_left
    · (intro w9 hSw; (try dsimp only at hSw); go_simp <;> with_reducible rfl)
    try simp only [Act.put, List.setIfInBounds_toArray, List.set_cons_zero, List.set_cons_succ]
    refine wpAnyH_take (i := 2) (v := ?_) (by simp only [List.getElem?_toArray, List.getElem?_cons_zero, List.getElem?_cons_succ]; rfl) (by kernel_rfl) (by kernel_rfl) (by kernel_rfl) (by intro _ _ _ h; exact h) (Or.inl ⟨by rfl, ?_⟩) (by assumption) ?_
    rotate_left
    · (intro w9 hSw; (try dsimp only at hSw); go_simp <;> with_reducible rfl)
    try simp only [Act.put, List.setIfInBounds_toArray, List.set_cons_zero, List.set_cons_succ]
    refine wpAnyH_take (i := 3) (v := ?_) (by simp only [List.getElem?_toArray, List.getElem?_cons_zero, List.getElem?_cons_succ]; rfl) (by kernel_rfl) (by kernel_rfl) (by kernel_rfl) (by intro _ _ _ h; exact h) (Or.inl ⟨by rfl, ?_⟩) (by assumption) ?_
    rotate_left
    · (intro w9 hSw; (try dsimp only at hSw); go_simp <;> with_reducible rfl)
    try simp only [Act.put, List.setIfInBounds_toArray, List.set_cons_zero, List.set_cons_succ]
    refine wpAnyH_take (i := 5) (v := ?_) (by simp only [List.getElem?_toArray, List.getElem?_cons_zero, List.getElem?_cons_succ]; rfl) (by kernel_rfl) (by kernel_rfl) (by kernel_rfl) (by intro _ _ _ h; exact h) (Or.inl ⟨by rfl, ?_⟩) (by assumption) ?_
    rotate_left
    · (intro w9 hSw; (try dsimp only at hSw); go_simp <;> with_reducible rfl)
    try simp only [Act.put, List.setIfInBounds_toArray, List.set_cons_zero, List.set_cons_succ]
    refine wpAnyH_take (i := 11) (v := ?_) (by simp only [List.getElem?_toArray, List.getElem?_cons_zero, List.getElem?_cons_succ]; rfl) (by kernel_rfl) (by kernel_rfl) (by kernel_rfl) (by intro _ _ _ h; exact h) (Or.inl ⟨by rfl, ?_⟩) (by assumption) ?_
    rotate_left
    · (intro w9 hSw; (try dsimp only at hSw); go_simp <;> with_reducible rfl)
    try simp only [Act.put, List.setIfInBounds_toArray, List.set_cons_zero, List.set_cons_succ]
    refine wpAnyH_take (i := 12) (v := ?_) (by simp only [List.getElem?_toArray, List.getElem?_cons_zero, List.getElem?_cons_succ]; rfl) (by kernel_rfl) (by kernel_rfl) (by kernel_rfl) (by intro _ _ _ h; exact h) (Or.inl ⟨by rfl, ?_⟩) (by assumption) ?_
    rotate_left
    · (intro w9 hSw; (try dsimp only at hSw); go_simp <;> with_reducible rfl)
    try simp only [Act.put, List.setIfInBounds_toArray, List.set_cons_zero, List.set_cons_succ]
    refine wpAnyH_take (i := 13) (v := ?_) (by simp only [List.getElem?_toArray, List.getElem?_cons_zero, List.getElem?_cons_succ]; rfl) (by kernel_rfl) (by kernel_rfl) (by kernel_rfl) (by intro _ _ _ h; exact h) (Or.inl ⟨by rfl, ?_⟩) (by assumption) ?_
    rotate_left
    · (intro w9 hSw; (try dsimp only at hSw); go_simp <;> with_reducible rfl)
    try simp only [Act.put, List.setIfInBounds_toArray, List.set_cons_zero, List.set_cons_succ]
    refine wpAnyH_ready (rs := [0]) (by kernel_rfl) (by simp) ?_
    refine AllReadyH.cons (by simp only [List.getElem?_toArray, List.getElem?_cons_zero, List.getElem?_cons_succ]; rfl) (fun K hK => ?_) AllReadyH.nil
    go_simp
    refine hK.out _ _ ?_ (fun hHeld2 => ?_)
    · (try dsimp only); (simp; omega)
    clear hK K hHeld
    have hHeld := hHeld2
    clear hHeld2
    try simp only [Act.put, List.setIfInBounds_toArray, List.set_cons_zero, List.set_cons_succ]
    refine wpAnyH_ready (rs := [4]) (by kernel_rfl) (by simp) ?_
    refine AllReadyH.cons (by simp only [List.getElem?_toArray, List.getElem?_cons_zero, List.getElem?_cons_succ]; rfl) (fun K hK => ?_) AllReadyH.nil
    refine step_append_at rfl _ _ 40 rfl w.heap.size 45 i0 _ 5 40 Tryz.underlying40 hi hz0 hz1 hz2 rfl (by decide) (.slice (some ⟨we.heap.size, 0, none⟩) 0 0) 0 [] rfl ?own ⟨g, 0, none⟩ k cp (flat (xs.take k)) rfl (by rw [flat_len, List.length_take, Nat.min_eq_left hkl]) (own_news_take (unhide HE1) rfl k) (flat_one _) (by unfold maxLen; omega) (by omega) (by simp; omega) ?_
    case own => exact World.ownsRow.drew (World.ownsRow_lit (base := w.heap.size) (size := 5) we #[] 0 (by omega) (Nat.zero_le _) rfl)
    intro v1 w1 hown1 hgrow1 hblk1
    rw [Nat.zero_add, List.nil_append] at hown1
    obtain ⟨a1, c1, rfl⟩ := own_slice hown1
    have hb1 : Below w.heap.size (we.alloc (.cells #[] 45)) w1 := ⟨hgrow1.os, hgrow1.tape, hgrow1.output, hgrow1.size, fun b hb => hgrow1.block b (by simp; omega) (by simp [Value.ownBlock]; omega)⟩
    have z1 := hgrow1.size
    simp at z1
    have HE2 := hide (World.ownsRow.kept (unhide HE1) hgrow1 (by right; simp [Value.ownBlock]; omega))
    have hbe : Below w.heap.size we w1 := (up_alloc (Below.refl _ _) (by omega) _).trans hb1
    have K1 : Kp R w w1 := ke.up hR hbe
    have r1 : Hid (Rd R w1 a len cap (p1 + 1 + 1 + 1)) := hide ((unhide rwe).up (hbe.mono (by omega)))
    have hne1 : ∀ q, (Value.slice a1 k c1).ownBlock = some q → we.heap.size ≤ q := fun q hq => by rcases hblk1 with h9 | h9 <;> rw [hq] at h9 <;> simp [Value.ownBlock] at h9 <;> omega
    refine hK.out _ _ ?_ (fun hHeld2 => ?_)
    · (try dsimp only); omega
    clear hK K hHeld
    have hHeld := hHeld2
    clear hHeld2
    try simp only [Act.put, List.setIfInBounds_toArray, List.set_cons_zero, List.set_cons_succ]
    refine wpAnyH_ready (rs := [6]) (by kernel_rfl) (by simp) ?_
    refine AllReadyH.cons (by simp only [List.getElem?_toArray, List.getElem?_cons_zero, List.getElem?_cons_succ]; rfl) (fun K hK => ?_) AllReadyH.nil
    go_simp
    (go_at_call 14; (with_reducible refine (pick_any R a len cap (p1 + 1 + 1 + 1) 60 _ (by omega) (by omega) (unhide r1)).mono ?_); rintro e w2 ⟨u, rfl, bu1, bu2, kw2, q2⟩; have r2 := hide (q2 (by omega)); clear q2; have hR2 : R < w2.heap.size := (by have h9 := kw2.low.size; omega))
    (try go_wp2_with fail)
    refine hK.out _ _ ?_ (fun hHeld2 => ?_)
    · (try dsimp only); omega
    clear hK K hHeld
    have hHeld := hHeld2
    clear hHeld2
    try simp only [Act.put, List.setIfInBounds_toArray, List.set_cons_zero, List.set_cons_succ]
    have hK2 : Kp R w w2 := K1.trans kw2
    have hOw2 := hide (ownK hown1 hR kw2)
    have HE3 := hide (ownK (unhide HE2) hR kw2)
    have z2 := kw2.low.size
    have hwu : IntKind.i64.wrap (1 + u) = 1 + u := IntWalk.i64_in _ (by omega)
    refine wpAnyH_take (i := 7) (v := ?_) (by simp only [List.getElem?_toArray, List.getElem?_cons_zero, List.getElem?_cons_succ]; rfl) (by kernel_rfl) (by kernel_rfl) (by kernel_rfl) (by intro _ _ _ h; exact h) (Or.inl ⟨by rfl, ?_⟩) (by assumption) ?_
    rotate_left
    · (intro w9 hSw; (try dsimp only at hSw); go_simp <;> with_reducible rfl)
    try simp only [Act.put, List.setIfInBounds_toArray, List.set_cons_zero, List.set_cons_succ]
    refine wpAnyH_take (i := 8) (v := ?_) (by simp only [List.getElem?_toArray, List.getElem?_cons_zero, List.getElem?_cons_succ]; rfl) (by kernel_rfl) (by kernel_rfl) (by kernel_rfl) (by intro _ _ _ h; exact h) (Or.inl ⟨by rfl, ?_⟩) (by assumption) ?_
    rotate_left
    · (intro w9 hSw; (try dsimp only at hSw); go_simp <;> with_reducible rfl)
    try simp only [Act.put, List.setIfInBounds_toArray, List.set_cons_zero, List.set_cons_succ]
    refine wpAnyH_ready (rs := [9]) (by kernel_rfl) (by simp) ?_
    refine AllReadyH.cons (by simp only [List.getElem?_toArray, List.getElem?_cons_zero, List.getElem?_cons_succ]; rfl) (fun K hK => ?_) AllReadyH.nil
    go_simp
    refine hK.out _ _ ?_ (fun hHeld2 => ?_)
    · (try dsimp only); (simp; omega)
    clear hK K hHeld
    have hHeld := hHeld2
    clear hHeld2
    try simp only [Act.put, List.setIfInBounds_toArray, List.set_cons_zero, List.set_cons_succ]
    refine wpAnyH_ready (rs := [10]) (by kernel_rfl) (by simp) ?_
    refine AllReadyH.cons (by simp only [List.getElem?_toArray, List.getElem?_cons_zero, List.getElem?_cons_succ]; rfl) (fun K hK => ?_) AllReadyH.nil
    refine step_append_at rfl _ _ 40 rfl w.heap.size 45 i0 _ 5 40 Tryz.underlying40 hi hz0 hz1 hz2 rfl (by decide) (.slice a1 k c1) k (flat (xs.take k)) rfl (World.ownsRow.alloc (unhide hOw2) _) ⟨w2.heap.size, 0, none⟩ 1 1 [.int .i64 2, .int .i64 (1 + u), .int .i64 0, .int .i64 0, .int .i64 0] rfl rfl (cells_new5g _ (by simp) _ _ _ _ _ _) (by simp [Value.oneCell']) (by unfold maxLen; omega) (by omega) (by simp; omega) ?_
    intro v2 w3 hown2 hgrow2 hblk2
    obtain ⟨a2, c2, rfl⟩ := own_slice hown2
    have hb2 : Below w.heap.size (w2.alloc (.cells #[.int .i64 2, .int .i64 (1 + u), .int .i64 0, .int .i64 0, .int .i64 0] 45)) w3 := grown_belA hgrow2 (by simp; omega) (fun q hq => by have h9 := hne1 q hq; omega)
    have z3 := hgrow2.size
    simp at z3
    have HE4 := hide (World.ownsRow.kept (World.ownsRow.alloc (unhide HE3) _) hgrow2 (by right; intro h9; have h8 := hne1 g h9.symm; omega))
    have hb23 : Below w.heap.size w2 w3 := (up_alloc (Below.refl _ _) (by omega) _).trans hb2
    have K3 : Kp R w w3 := hK2.up hR hb23
    have r3 : Hid (Rd R w3 a len cap (p1 + 1 + 1 + 1 + 1)) := hide ((unhide r2).up (hb23.mono (by omega)))
    have hne2 : ∀ q, (Value.slice a2 (k + 1) c2).ownBlock = some q → we.heap.size ≤ q := fun q hq => by rcases hblk2 with h9 | h9 <;> rw [hq] at h9; exact hne1 q h9.symm; simp at h9; omega
    refine hK.out _ _ ?_ (fun hHeld2 => ?_)
    · (try dsimp only); omega
    clear hK K hHeld
    have hHeld := hHeld2
    clear hHeld2
    try simp only [Act.put, List.setIfInBounds_toArray, List.set_cons_zero, List.set_cons_succ]
    refine wpAnyH_ready (rs := [14]) (by kernel_rfl) (by simp) ?_
    refine AllReadyH.cons (by simp only [List.getElem?_toArray, List.getElem?_cons_zero, List.getElem?_cons_succ]; rfl) (fun K hK => ?_) AllReadyH.nil
    refine step_append_at rfl _ _ 40 rfl w.heap.size 45 i0 _ 5 40 Tryz.underlying40 hi hz0 hz1 hz2 rfl (by decide) (.slice a2 (k + 1) c2) (k + 1) (flat (xs.take k) ++ [.int .i64 2, .int .i64 (1 + u), .int .i64 0, .int .i64 0, .int .i64 0]) rfl hown2 ⟨g, k * 5, none⟩ (xs.length - k) (cp - k) (flat (xs.drop k)) rfl (by rw [flat_len, List.length_drop]) (own_news (unhide HE4) rfl k) (flat_one _) (by unfold maxLen; omega) (by omega) (by omega) ?_
    intro v3 w4 hown3 hgrow3 hblk3
    have hb3 : Below w.heap.size w3 w4 := grown_belA hgrow3 (by omega) (fun q hq => by have h9 := hne2 q hq; omega)
    have z4 := hgrow3.size
    have K4 : Kp R w w4 := K3.up hR hb3
    have r4 : Rd R w4 a len cap (p1 + 1 + 1 + 1 + 1) := (unhide r3).up (hb3.mono (by omega))
    have hfin : OwnIts w4 w.heap.size v3 (xs.take k ++ [⟨2, 1 + u, 0, 0, 0⟩] ++ xs.drop k) := its_mid hown3 (by omega)
    refine hK.out _ _ ?_ (fun hHeld2 => ?_)
    · (try dsimp only); omega
    clear hK K hHeld
    have hHeld := hHeld2
    clear hHeld2
    try simp only [Act.put, List.setIfInBounds_toArray, List.set_cons_zero, List.set_cons_succ]
    refine wpAnyH_take (i := 15) (v := ?_) (by simp only [List.getElem?_toArray, List.getElem?_cons_zero, List.getElem?_cons_succ]; rfl) (by kernel_rfl) (by kernel_rfl) (by kernel_rfl) (by intro _ _ _ h; exact h) (Or.inl ⟨by rfl, ?_⟩) (by assumption) ?_
    rotate_left
    · (intro w9 hSw; (try dsimp only at hSw); go_simp <;> with_reducible rfl)
    try simp only [Act.put, List.setIfInBounds_toArray, List.set_cons_zero, List.set_cons_succ]
    refine wpAnyH_done (by kernel_rfl) ?_ _
    go_wp2
    go_ret
    exact ⟨_, _, rfl, hfin, by simp; omega, K4, p1 + 1 + 1 + 1 + 1, by omega, r4⟩
  · go_wp2
    go_loopw [5] (fun v' wr => ∃ (ys : List It) (p' : Nat), OwnIts wr w.heap.size v' ys ∧ (1 ≤ ys.length ∧ ys.length ≤ 41) ∧ p' + 4 * (41 - ys.length) ≤ p + 900 ∧ Hid (Rd R wr a len cap p') ∧ Kp R w wr) (fun v' _ => 41 - slLen v')
    case atStart => exact ⟨xs, p1 + 1 + 1 + 1, unhide HE, ⟨by omega, by omega⟩, by omega, rwe, ke⟩
    case round =>
      obtain ⟨ys, p', hOy, ⟨hy1, hy2⟩, hpp, rwr, kwr⟩ := hrel
      obtain ⟨g1, c1, rfl, hB1, hg1, hc1⟩ := own_form hOy hy1
      have HY := hide hOy
      have zwr := kwr.low.size
      have hwr : w.heap.size ≤ wr.heap.size := by omega
      clear hOy
      by_cases hle : (ys.length : Int) ≤ 40
      · go_wp2_with fail
        (with_reducible refine (rec_any R a len cap p' _ (by omega) (by omega) (unhide rwr)).mono ?_)
        rintro e wf ⟨t1, k1, v1, rfl, bt, bk, bv, kwf, qwf⟩
        have rwf := hide qwf
        clear qwf
        have zf := kwf.low.size
        have HF := hide (ownK (unhide HY) hR kwf)
        have HF1 := hide (World.ownsRow.alloc (unhide HF) (.cells #[.int .i64 1, .int .i64 t1, .int .i64 k1, .int .i64 v1, .int .i64 0] 45))
        go_wp2_with (at_builtin; go_loud (refine wpList_append_own _ rfl _ _ 40 rfl w.heap.size 45 i0 _ 5 40 Tryz.underlying40 hi hz0 hz1 hz2 rfl (by decide) (.slice (some ⟨wf.heap.size, 0, none⟩) 1 1) 1 [.int .i64 1, .int .i64 t1, .int .i64 k1, .int .i64 v1, .int .i64 0] rfl (World.ownsRow_lit (base := w.heap.size) (size := 5) wf #[.int .i64 1, .int .i64 t1, .int .i64 k1, .int .i64 v1, .int .i64 0] 1 (by omega) (by unfold maxLen; omega) rfl) ⟨g1, 0, none⟩ ys.length c1 (flat ys) rfl (by rw [flat_len]) (own_news_all (unhide HF1)) (flat_one _) (by unfold maxLen; omega) (by omega) (by simp; omega) ?_); intro v' w5 hown' hgrow _)
        have hO5 : OwnIts w5 w.heap.size v' (⟨1, t1, k1, v1, 0⟩ :: ys) := its_cons hown'
        have hb5 : Below w.heap.size (wf.alloc (.cells #[.int .i64 1, .int .i64 t1, .int .i64 k1, .int .i64 v1, .int .i64 0] 45)) w5 := grown_belA hgrow (by simp; omega) (fun q hq => by simp [Value.ownBlock] at hq; omega)
        have hbf : Below w.heap.size wf w5 := (up_alloc (Below.refl _ _) (by omega) _).trans hb5
        have kf : Kp R w w5 := (kwr.trans kwf).up hR hbf
        obtain ⟨g5, c5, rfl, _⟩ := own_form hO5 (by simp)
        go_roundw
        case rel => exact ⟨_, p' + 4, hO5, ⟨by simp, by simp; omega⟩, by simp; omega, hide ((unhide rwf).up (hbf.mono (by omega))), kf⟩
        case measure => simp [slLen]; omega
      · go_wp2
        go_ret
        exact ⟨_, _, rfl, unhide HY, by omega, kwr, p', by omega, unhide rwr⟩
end Go.Proofs.YtcokdcehjibanaaGreatDoor
/- Proved here: when a job is ok, and which task a key goes to, in the program and in the specification, at every argument. -/
namespace Go.Proofs.YtcokdcehjibanaaGreatDoor
open Go.ChangeShapes Go.WideShapes Go.ChangeAt Go.RowKit
set_option linter.unusedVariables false

/-- When a job's step is ok; when a job is. -/
def stepB (k z p : Int) : Bool := if k = 2 then inB p 1 z && decide (z ≤ 4 * p) else p == 0

theorem stepB_2 (z p : Int) : stepB 2 z p = (inB p 1 z && decide (z ≤ 4 * p)) := rfl

theorem stepB_n {k : Int} (h : k ≠ 2) (z p : Int) : stepB k z p = (p == 0) := if_neg h

def okJob (s t k z p l e v r : Int) : Bool := inB s 1 3 && inB t 1 2 && inB k 1 3 && inB z 1 20 && stepB k z p && inB l 0 20 && inB e 1 4 && inB v (-9) 9 && inB r 1 4

theorem okJob_t {s t k z p l e v r : Int} (h : okJob s t k z p l e v r = true) : inB t 1 2 = true := by
  simp only [okJob, Bool.and_eq_true] at h; exact h.1.1.1.1.1.1.1.2

/-- The task that a key goes to. -/
def taskI (s t k z p l e v r key : Int) : Int := if (okJob s t k z p l e v r && inB key 0 3) = true then key % t else -1

theorem taskI_tt {s t k z p l e v r key : Int} (h : okJob s t k z p l e v r = true) (h2 : inB key 0 3 = true) : taskI s t k z p l e v r key = key % t := by simp [taskI, h, h2]

theorem taskI_f1 {s t k z p l e v r key : Int} (h : okJob s t k z p l e v r = false) : taskI s t k z p l e v r key = -1 := by simp [taskI, h]

theorem taskI_f2 {s t k z p l e v r key : Int} (h2 : inB key 0 3 = false) : taskI s t k z p l e v r key = -1 := by simp [taskI, h2]

theorem ret_i' {a b : Int} (h : a = b) : Ending.returned (.int .i64 a) = .returned (.int .i64 b) := by rw [h]
end Go.Proofs.YtcokdcehjibanaaGreatDoor
