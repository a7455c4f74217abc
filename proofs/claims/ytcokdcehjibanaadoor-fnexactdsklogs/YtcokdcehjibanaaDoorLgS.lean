/- Proved here: the logs of lines, in the specification. -/
import Derived.Test.YtcokdcehjibanaaDoorLgM
import Derived.Test.YtcokdcehjibanaaDoorLgE
import Derived.Test.YtcokdcehjibanaaDoorStrTo
import Derived.Test.YtcokdcehjibanaaDoorStepA
import Derived.Test.YtcokdcehjibanaaDoorRegL
import Derived.RangeFuncBox
namespace Go.Proofs.YtcokdcehjibanaaDoor
open Go.ChangeShapes Go.WideShapes Go.ChangeAt Go.RowKit
set_option linter.unusedVariables false

set_option linter.unusedSimpArgs false
theorem Tryd.infoLg : (Tryd.prog.info? 32).map (fun i => (i.zero, i.size, i.bytes)) = some (some (.slice none 0 0), 1, 24) := by kernel_rfl
theorem cell_al (W : World) (o : Obj) {g k : Nat} (h : g < W.heap.size) : (W.alloc o).cell? ⟨g, k, none⟩ = W.cell? ⟨g, k, none⟩ := World.cell?_of_block (w := W) (Below.heap_alloc W o g h)
theorem lgh_lt {W : World} {B : Nat} {o : Obj} (h : W.heap[B]? = some o) : B < W.heap.size := (Array.getElem?_eq_some_iff.1 h).1
theorem cell_new1L (w : World) {g : Nat} (hg : g = w.heap.size) (u : Value) (ty : Nat) : ∀ j x, ([u] : List Value)[j]? = some x → (w.alloc (.cells #[u] ty)).cell? ((⟨g, 0, none⟩ : Addr).add j) = some x := by
  subst hg
  intro j x hx
  cases j with
  | zero => simp at hx; subst hx; simp [go_sem, Addr.add]
  | succ j => simp at hx
/-- What DskLogs answers. -/
def DsP (rs : List (Option (Option It))) (w : World) (e : Ending) (w' : World) : Prop := ∃ v us, e = .returned (.tuple #[v, .int .i64 (dskL rs).2]) ∧ LgO w' w.heap.size v us (dskL rs).1 ∧ Below w.heap.size w w'
theorem dsp_no {rs : List (Option (Option It))} {w w1 : World} {g : Nat} {c : Int} (h : dskL rs = ([], c)) (hb : Below w.heap.size w w1) (hg : g = w1.heap.size) : DsP rs w (.returned (.tuple #[.slice (some ⟨g, 0, none⟩) 0 0, .int .i64 c])) (w1.alloc (.cells #[] 32)) := by
  unfold DsP
  rw [h]
  exact ⟨_, [], rfl, LgO.nil0 (ownLit _ _ hb.size hg), bel_alloc hb _⟩
theorem dsp_nil {rs : List (Option (Option It))} {w w1 : World} {c : Int} (h : dskL rs = ([], c)) (hb : Below w.heap.size w w1) : DsP rs w (.returned (.tuple #[.slice none 0 0, .int .i64 c])) w1 := by
  unfold DsP
  rw [h]
  exact ⟨_, [], rfl, LgO.nil0 (World.ownsRow_nil _ _ _ _), hb⟩
theorem dsp_ok {rs : List (Option (Option It))} {w w1 : World} {v : Value} {us : List Value} {Ls : List (List It)} (h : dskL rs = (Ls, 0)) (hO : LgO w1 w.heap.size v us Ls) (hb : Below w.heap.size w w1) : DsP rs w (.returned (.tuple #[v, .int .i64 0])) w1 := by
  unfold DsP
  rw [h]
  exact ⟨_, us, rfl, hO, hb⟩
/-- The last log, ahead of its next item. -/
theorem LgO.tip {W : World} {B : Nat} {v : Value} {us : List Value} {Ls : List (List It)} (h : LgO W B v us Ls) (hp : 0 < Ls.length) (hl : ∀ l ∈ Ls, l.length ≤ 1000) : ∃ k g cap l b d, Ls.length = k + 1 ∧ v = .slice (some ⟨g, 0, none⟩) (k + 1) cap ∧ Ls[k]? = some l ∧ us[k]? = some (.slice b l.length d) ∧ l.length ≤ 1000 ∧ W.cell? ⟨g, k, none⟩ = some (.slice b l.length d) ∧ g < W.heap.size ∧ OwnIts W B (.slice b l.length d) l ∧ W.frozen? ⟨g, k, none⟩ = false ∧ (Value.slice b l.length d).ownBlock ≠ some g := by
  obtain ⟨k, hk⟩ : ∃ k, Ls.length = k + 1 := ⟨Ls.length - 1, by omega⟩
  obtain ⟨g, cap, e, _, hg, _⟩ := h.shape hp
  obtain ⟨l, hlk⟩ : ∃ l, Ls[k]? = some l := ⟨_, List.getElem?_eq_getElem (by omega)⟩
  have hll := hl l (List.mem_of_getElem? hlk)
  subst e
  obtain ⟨b, d, hu, hc, _⟩ := h.at_ hlk (Nat.le_trans hll (by decide))
  have hO := h.own k _ l hu hlk
  refine ⟨k, g, cap, l, b, d, hk, by rw [hk], hlk, hu, hll, hc, hg, hO, h.frozen k, fun e9 => ?_⟩
  rcases lg_ne hO h.row (by decide) with h1 | h1
  · rw [h1] at e9; cases e9
  · exact h1 e9
/-- Behind the store. -/
theorem LgO.tipped {W w9 : World} {o : Obj} {B g cap k : Nat} {v9 : Value} {us : List Value} {Ls : List (List It)} {l : List It} {b : Option Addr} {d : Nat} {x : It} (h : LgO W B (.slice (some ⟨g, 0, none⟩) (k + 1) cap) us Ls) (hB : B ≤ W.heap.size) (hk : Ls.length = k + 1) (hu : us[k]? = some (.slice b l.length d)) (hl : Ls[k]? = some l) (hown : w9.ownsRow B 34 5 v9 (l.length + 1) (flat l ++ x.cells)) (hg : (W.alloc o).grownBy w9 (Value.slice b l.length d).ownBlock) (hn : v9.ownBlock = (Value.slice b l.length d).ownBlock ∨ v9.ownBlock = some (W.alloc o).heap.size) : LgO (w9.setCell ⟨g, k, none⟩ v9) B (.slice (some ⟨g, 0, none⟩) (putL Ls (some x)).length cap) (us.set k v9) (putL Ls (some x)) := by
  have e : Ls.length - 1 = k := by omega
  rw [← hk] at h
  have h1 := h.last hB hu hl hown hg hn
  have h2 : putL Ls (some x) = Ls.set k (l ++ [x]) := by rw [put_last (by rw [e]; exact hl), e]
  rw [h2, List.length_set]
  exact h1
theorem own_empty {W : World} {B g : Nat} (h : B ≤ W.heap.size) (hg : g = W.heap.size) : OwnIts (W.alloc (.cells #[] 34)) B (.slice (some ⟨g, 0, none⟩) 0 0) [] := ownLit 34 5 h hg
theorem putL_len {Ls : List (List It)} {x : It} : (putL Ls (some x)).length = Ls.length := by show (Ls.set _ _).length = _; rw [List.length_set]
theorem lg_cast {W : World} {B g cap n m : Nat} {us : List Value} {Ls : List (List It)} (e : n = m) (h : LgO W B (.slice (some ⟨g, 0, none⟩) n cap) us Ls) : LgO W B (.slice (some ⟨g, 0, none⟩) m cap) us Ls := by rw [← e]; exact h
theorem lg_start (w : World) : LgO ((w.alloc (.cells #[] 34)).alloc (.cells #[.slice (some ⟨w.heap.size, 0, none⟩) 0 0] 32)) w.heap.size (.slice (some ⟨w.heap.size + 1, 0, none⟩) 1 1) [.slice (some ⟨w.heap.size, 0, none⟩) 0 0] [[]] := by
  refine LgO.one ?_ (World.ownsRow.alloc (own_empty (Nat.le_refl _) rfl) _)
  have h1 := World.ownsRow_lit (base := w.heap.size) (e := 32) (size := 1) (w.alloc (.cells #[] 34)) #[.slice (some ⟨w.heap.size, 0, none⟩) 0 0] 1 (by simp) (by decide) (by simp)
  rw [World.size_alloc] at h1
  exact h1
set_option maxRecDepth 20000 in
set_option maxHeartbeats 4000000 in
theorem specdsk_any (a : Option Addr) (len cap : Nat) (L : List ByteArray) (rs : List (Option (Option It))) (w : World) (h : StRs w a len (stL L)) (hs : ∀ x ∈ L, x.size ≤ 1048576) (hl : len ≤ 1048576) (hr : LnAll L rs) : Calls Tryd.prog 5 #[.slice a len cap] w fun e w' => DsP rs w e w' := by
  obtain ⟨i0, hi, hz0, hz1, hz2⟩ := info_parts Tryd.infoLg
  obtain ⟨i5, hi5, hz50, hz51, hz52⟩ := info_parts Tryd.infoItm
  have hLl : L.length = len := by have := h.1; rw [stL_len] at this; exact this
  have hRl : rs.length = len := hr.1.trans hLl
  have HS := hide hs
  have HR := hide hr.2
  clear hs hr
  go_enter Tryd.func5, Tryd.ntmps5
  by_cases hlong : 400 < len
  · have HD := hide (dskL_long (rs := rs) (by omega))
    have hd1 : decide ((400 : Int) < (len : Int)) = true := by simp; omega
    go_wp2
    refine bodyPost_ret (v := .tuple #[_, _]) (by simp (maxDischargeDepth := 9) [results, Tryd.results5, go_sem, *]; exact ⟨rfl, rfl⟩) rfl ?_
    exact dsp_no (unhide HD) (Below.refl _ _) rfl
  have hd1 : decide ((400 : Int) < (len : Int)) = false := by simp; omega
  go_wp2
  go_loopw [4, 5] (fun v i wr => ∃ (ix : Nat) (us : List Value) (Ls : List (List It)), ix ≤ len ∧ i = .int .i64 ix ∧ Hid (LgO wr w.heap.size v us Ls) ∧ Hid (DInv rs ix Ls) ∧ Below w.heap.size w wr) (fun _ i _ => len - (intOf i).toNat)
  case atStart => exact ⟨0, [.slice (some ⟨w.heap.size, 0, none⟩) 0 0], [[]], Nat.zero_le _, rfl, hide (lg_start w), hide (DInv.start rs), bel_alloc (bel_one _ _) _⟩
  case round =>
    obtain ⟨ix, us, Ls, hk, rfl, HO, HI, hbw⟩ := hrel
    have hws := hbw.size
    by_cases hlt : ix < len
    · obtain ⟨x0, hx0⟩ : ∃ x0, L[ix]? = some x0 := ⟨_, List.getElem?_eq_getElem (by omega)⟩
      obtain ⟨r, hr⟩ : ∃ r, rs[ix]? = some r := ⟨_, List.getElem?_eq_getElem (by omega)⟩
      have HLn := hide (unhide HR ix x0 r hx0 hr)
      have HRr := hide hr
      obtain ⟨g0, o0, rfl⟩ : ∃ g o, a = some ⟨g, o, none⟩ := by
        obtain ⟨g, o, ha, _⟩ := h.2.2.resolve_left (by omega)
        exact ⟨g, o, ha⟩
      obtain ⟨d0, hg0⟩ := st_at (h.below hbw) hx0
      have hsz := unhide HS x0 (List.mem_of_getElem? hx0)
      clear hx0 hr
      by_cases hda : x0 = dashB
      · have ty := toL_yes (x := x0) (l := [45]) hda
        have e1 := (unhide HLn).dash hda
        subst e1
        obtain ⟨av, cv, rfl⟩ := (unhide HO).slice
        have hpp := (unhide HI).pos
        have hle := (unhide HI).le
        have hLL : Ls.length ≤ 401 := by omega
        have hO1 : Hid (LgO (wr.alloc (.cells #[] 34)) w.heap.size (.slice av Ls.length cv) us Ls) := hide ((unhide HO).bel (bel_one _ _))
        have hls : ∀ (i : Nat) (u' : Value) (b : Nat), us[i]? = some u' → u'.ownBlock = some b → (Value.slice (some ⟨wr.heap.size, 0, none⟩) 0 0).ownBlock ≠ some b := fun i u' b hu hb e9 => by
          have h1 := ((unhide HO).lts hu hb).2
          have h2 : wr.heap.size = b := Option.some.inj e9
          omega
        have HLS := hide hls
        clear hls hda
        go_wp2_with (at_builtin; go_loud (refine wpList_append_own _ rfl _ _ 24 rfl w.heap.size 32 i0 _ 1 24 Tryd.underlying24 hi hz0 hz1 hz2 rfl (by decide) (.slice av Ls.length cv) _ _ rfl (World.ownsRow.alloc (unhide hO1).row _) ⟨wr.heap.size + 1, 0, none⟩ 1 1 [.slice (some ⟨wr.heap.size, 0, none⟩) 0 0] rfl rfl (cell_new1L (wr.alloc (.cells #[] 34)) (by simp) _ _) (by simp [Value.oneCell']) (by unfold maxLen; omega) (by omega) (by simp; omega) ?_); intro v' w5 hown hgrow _)
        have hge := (unhide hO1).row.lt
        go_roundw
        case rel =>
          refine ⟨ix + 1, us ++ [.slice (some ⟨wr.heap.size, 0, none⟩) 0 0], Ls ++ [[]], by omega, by go_num, hide ((unhide hO1).push (own_empty hws rfl) (unhide HLS) hown hgrow), hide ((unhide HI).step (unhide HRr)), ?_⟩
          exact (bel_alloc (bel_alloc hbw _) _).grown hgrow (by simp; omega) (fun k9 h9 => (hge k9 h9).1)
        case measure => simp [intOf]; omega
      · have ty := toL_no (x := x0) (l := [45]) hda
        have HDa := hide hda
        clear hda
        go_wp2_with fail
        refine (specitmread_any x0 _ hsz).mono ?_
        rintro e wq ⟨q, t, kk, v, nn, c, rfl, hRd, hbq⟩
        have e1 := (unhide HLn).itm (unhide HDa) hRd
        clear hRd
        have hbW : Below w.heap.size w wq := bel_trans hbw hbq
        have HOq := hide ((unhide HO).bel hbq)
        have hwq := hbq.size
        clear d0 hg0 HO
        have hlo : rs.length ≤ 400 := by omega
        cases c with
        | false =>
          have HD := hide ((unhide HI).bad (ix := ix) (by rw [unhide HRr, e1]; rfl) hlo)
          go_wp2
          refine bodyPost_ret (v := .tuple #[_, _]) (by simp (maxDischargeDepth := 9) [results, Tryd.results5, go_sem, *]; exact ⟨rfl, rfl⟩) rfl ?_
          exact dsp_no (unhide HD) (by repeat (first | (with_reducible exact Below.refl _ _) | (with_reducible assumption) | (with_reducible refine bel_set ?_ (by first | (simp; done) | (simp; omega)) _) | (with_reducible refine bel_alloc ?_ _) | (with_reducible refine bel_drew ?_) | (with_reducible refine bel_drewN ?_ _) | (with_reducible refine bel_trans ?_ (by with_reducible assumption)))) (by simp)
        | true =>
          by_cases hq : q = 3
          · have HD := hide ((unhide HI).bad (ix := ix) (by rw [unhide HRr, e1, if_neg (by simp [hq])]) hlo)
            subst hq
            go_wp2
            refine bodyPost_ret (v := .tuple #[_, _]) (by simp (maxDischargeDepth := 9) [results, Tryd.results5, go_sem, *]; exact ⟨rfl, rfl⟩) rfl ?_
            exact dsp_no (unhide HD) (by repeat (first | (with_reducible exact Below.refl _ _) | (with_reducible assumption) | (with_reducible refine bel_set ?_ (by first | (simp; done) | (simp; omega)) _) | (with_reducible refine bel_alloc ?_ _) | (with_reducible refine bel_drew ?_) | (with_reducible refine bel_drewN ?_ _) | (with_reducible refine bel_trans ?_ (by with_reducible assumption)))) (by simp)
          · have hq3 : (q == 3) = false := by simpa using hq
            have e2 : r = some (some ⟨q, t, kk, v, nn⟩) := by rw [e1, if_pos ⟨rfl, hq⟩]
            subst e2
            have HST := hide ((unhide HI).step (unhide HRr))
            have hpp := (unhide HI).pos
            have hles := (unhide HI).les
            have hwn : (wq.alloc (.cells #[.int .i64 q, .int .i64 t, .int .i64 kk, .int .i64 v, .int .i64 nn] 34)).heap.size = wq.heap.size + 1 := by simp
            obtain ⟨k, g, cap9, l, b, d, hkl, rfl, hlk, huk, hll, hcl, hg, hOu, hfz, hne⟩ := ((unhide HOq).bel (bel_one wq (.cells #[.int .i64 q, .int .i64 t, .int .i64 kk, .int .i64 v, .int .i64 nn] 34))).tip hpp (fun l h9 => by have := hles l h9; omega)
            have HO2 := hide ((unhide HOq).bel (bel_one wq (.cells #[.int .i64 q, .int .i64 t, .int .i64 kk, .int .i64 v, .int .i64 nn] 34)))
            have HU := hide hOu
            have hke : k ≤ 400 := by have := (unhide HI).le; omega
            have hwk : IntKind.i64.wrap (k : Int) = (k : Int) := IntWalk.i64_in _ ⟨by omega, by omega⟩
            have hki : (k : Int) < (k : Int) + 1 := by omega
            have hwk2 : IntKind.i64.wrap ((k : Int) + 1 - 1) = (k : Int) := by rw [show (k : Int) + 1 - 1 = (k : Int) by omega]; exact hwk
            have bX := World.alloc_heap_new wq (.cells #[.int .i64 q, .int .i64 t, .int .i64 kk, .int .i64 v, .int .i64 nn] 34)
            have HW := hide (show Below w.heap.size w (wq.alloc (.cells #[.int .i64 q, .int .i64 t, .int .i64 kk, .int .i64 v, .int .i64 nn] 34)) from bel_alloc hbW _)
            have HLK := hide hlk
            have HUK := hide huk
            have HKL := hide hkl
            have hub : ∀ y, (Value.slice b l.length d).ownBlock = some y → y < wq.heap.size := fun y hy => ((unhide HOq).lts huk hy).2
            clear hOu hlk huk hles hkl HOq HI e1 HLn
            go_upto_region 12 with fail
            have HX : Hid ((wq.alloc (.cells #[.int .i64 q, .int .i64 t, .int .i64 kk, .int .i64 v, .int .i64 nn] 34)).heap[wq.heap.size]? = some (.cells #[.int .i64 q, .int .i64 t, .int .i64 kk, .int .i64 v, .int .i64 nn] 34 (0, 0))) := hide bX
            have hneX : some wq.heap.size ≠ (Value.slice b l.length d).ownBlock := fun e9 => by have := hub _ e9.symm; omega
            have hneG : some g ≠ (Value.slice b l.length d).ownBlock := fun e9 => hne e9.symm
            have hzW := (unhide HW).size
            clear hub hne bX hwn hbW hbq
            generalize hXB : wq.heap.size = XB at HX hneX ⊢
            clear hXB
            generalize wq.alloc (.cells #[.int .i64 q, .int .i64 t, .int .i64 kk, .int .i64 v, .int .i64 nn] 34) = wz at HX HW HO2 HU hcl hg hfz hzW ⊢
            have bX := unhide HX
            have bG := hcl
            have hzG := hg
            have HF : Hid (∀ (w9 : World) (v9 : Value), w9.ownsRow w.heap.size 34 5 v9 (l.length + 1) (flat l ++ [.int .i64 q, .int .i64 t, .int .i64 kk, .int .i64 v, .int .i64 nn]) → (wz.alloc (.cells #[.int .i64 q, .int .i64 t, .int .i64 kk, .int .i64 v, .int .i64 nn] 34)).grownBy w9 (Value.slice b l.length d).ownBlock → w9.frozen? ⟨g, k, none⟩ = false) := hide (fun w9 v9 _ hg9 => by
              rw [World.frozen?_of_block (w := wz) (a := ⟨g, k, none⟩) ((hg9.block g (by simp; omega) hneG).trans (Below.heap_alloc wz _ g hg))]
              exact hfz)
            refine wp_region_P [14] (fun W => W.cell? ⟨g, k, none⟩ = some (.slice b l.length d) ∧ (W.heap[XB]? = some (.cells #[.int .i64 q, .int .i64 t, .int .i64 kk, .int .i64 v, .int .i64 nn] 34 (0, 0)) ∧ g < W.heap.size)) (by kernel_rfl) ?_ (fun hHeld => ?_)
            · (try dsimp only); exact ⟨bG, bX, hzG⟩
            refine wpAnyP_take (i := 0) (v := ?_) (by simp only [List.getElem?_toArray, List.getElem?_cons_zero, List.getElem?_cons_succ]; rfl) (by kernel_rfl) (by kernel_rfl) (by kernel_rfl) (by kernel_rfl) (by intro _ _ _ h; exact h) (Or.inl ⟨by rfl, ?_⟩) (by assumption) ?_
            rotate_left
            · (intro w9 hSw; (try dsimp only at hSw); obtain ⟨hk1, hk2, hk3⟩ := hSw; have x0 := Joins.cell_of_block hk2 0; have x1 := Joins.cell_of_block hk2 1; have x2 := Joins.cell_of_block hk2 2; have x3 := Joins.cell_of_block hk2 3; have x4 := Joins.cell_of_block hk2 4; simp only [List.getElem?_toArray, List.getElem?_cons_zero, List.getElem?_cons_succ] at x0 x1 x2 x3 x4; have hx := lgh_lt hk2; go_simp <;> with_reducible rfl)
            try simp only [Act.put, List.setIfInBounds_toArray, List.set_cons_zero, List.set_cons_succ]
            refine wpAnyP_take (i := 1) (v := ?_) (by simp only [List.getElem?_toArray, List.getElem?_cons_zero, List.getElem?_cons_succ]; rfl) (by kernel_rfl) (by kernel_rfl) (by kernel_rfl) (by kernel_rfl) (by intro _ _ _ h; exact h) (Or.inl ⟨by rfl, ?_⟩) (by assumption) ?_
            rotate_left
            · (intro w9 hSw; (try dsimp only at hSw); obtain ⟨hk1, hk2, hk3⟩ := hSw; have x0 := Joins.cell_of_block hk2 0; have x1 := Joins.cell_of_block hk2 1; have x2 := Joins.cell_of_block hk2 2; have x3 := Joins.cell_of_block hk2 3; have x4 := Joins.cell_of_block hk2 4; simp only [List.getElem?_toArray, List.getElem?_cons_zero, List.getElem?_cons_succ] at x0 x1 x2 x3 x4; have hx := lgh_lt hk2; go_simp <;> with_reducible rfl)
            try simp only [Act.put, List.setIfInBounds_toArray, List.set_cons_zero, List.set_cons_succ]
            refine wpAnyP_take (i := 2) (v := ?_) (by simp only [List.getElem?_toArray, List.getElem?_cons_zero, List.getElem?_cons_succ]; rfl) (by kernel_rfl) (by kernel_rfl) (by kernel_rfl) (by kernel_rfl) (by intro _ _ _ h; exact h) (Or.inl ⟨by rfl, ?_⟩) (by assumption) ?_
            rotate_left
            · (intro w9 hSw; (try dsimp only at hSw); obtain ⟨hk1, hk2, hk3⟩ := hSw; have x0 := Joins.cell_of_block hk2 0; have x1 := Joins.cell_of_block hk2 1; have x2 := Joins.cell_of_block hk2 2; have x3 := Joins.cell_of_block hk2 3; have x4 := Joins.cell_of_block hk2 4; simp only [List.getElem?_toArray, List.getElem?_cons_zero, List.getElem?_cons_succ] at x0 x1 x2 x3 x4; have hx := lgh_lt hk2; go_simp <;> with_reducible rfl)
            try simp only [Act.put, List.setIfInBounds_toArray, List.set_cons_zero, List.set_cons_succ]
            refine wpAnyP_take (i := 3) (v := ?_) (by simp only [List.getElem?_toArray, List.getElem?_cons_zero, List.getElem?_cons_succ]; rfl) (by kernel_rfl) (by kernel_rfl) (by kernel_rfl) (by kernel_rfl) (by intro _ _ _ h; exact h) (Or.inl ⟨by rfl, ?_⟩) (by assumption) ?_
            rotate_left
            · (intro w9 hSw; (try dsimp only at hSw); obtain ⟨hk1, hk2, hk3⟩ := hSw; have x0 := Joins.cell_of_block hk2 0; have x1 := Joins.cell_of_block hk2 1; have x2 := Joins.cell_of_block hk2 2; have x3 := Joins.cell_of_block hk2 3; have x4 := Joins.cell_of_block hk2 4; simp only [List.getElem?_toArray, List.getElem?_cons_zero, List.getElem?_cons_succ] at x0 x1 x2 x3 x4; have hx := lgh_lt hk2; go_simp <;> with_reducible rfl)
            try simp only [Act.put, List.setIfInBounds_toArray, List.set_cons_zero, List.set_cons_succ]
            refine wpAnyP_take (i := 4) (v := ?_) (by simp only [List.getElem?_toArray, List.getElem?_cons_zero, List.getElem?_cons_succ]; rfl) (by kernel_rfl) (by kernel_rfl) (by kernel_rfl) (by kernel_rfl) (by intro _ _ _ h; exact h) (Or.inl ⟨by rfl, ?_⟩) (by assumption) ?_
            rotate_left
            · (intro w9 hSw; (try dsimp only at hSw); obtain ⟨hk1, hk2, hk3⟩ := hSw; have x0 := Joins.cell_of_block hk2 0; have x1 := Joins.cell_of_block hk2 1; have x2 := Joins.cell_of_block hk2 2; have x3 := Joins.cell_of_block hk2 3; have x4 := Joins.cell_of_block hk2 4; simp only [List.getElem?_toArray, List.getElem?_cons_zero, List.getElem?_cons_succ] at x0 x1 x2 x3 x4; have hx := lgh_lt hk2; go_simp <;> with_reducible rfl)
            try simp only [Act.put, List.setIfInBounds_toArray, List.set_cons_zero, List.set_cons_succ]
            refine wpAnyP_take (i := 5) (v := ?_) (by simp only [List.getElem?_toArray, List.getElem?_cons_zero, List.getElem?_cons_succ]; rfl) (by kernel_rfl) (by kernel_rfl) (by kernel_rfl) (by kernel_rfl) (by intro _ _ _ h; exact h) (Or.inl ⟨by rfl, ?_⟩) (by assumption) ?_
            rotate_left
            · (intro w9 hSw; (try dsimp only at hSw); obtain ⟨hk1, hk2, hk3⟩ := hSw; have x0 := Joins.cell_of_block hk2 0; have x1 := Joins.cell_of_block hk2 1; have x2 := Joins.cell_of_block hk2 2; have x3 := Joins.cell_of_block hk2 3; have x4 := Joins.cell_of_block hk2 4; simp only [List.getElem?_toArray, List.getElem?_cons_zero, List.getElem?_cons_succ] at x0 x1 x2 x3 x4; have hx := lgh_lt hk2; go_simp <;> with_reducible rfl)
            try simp only [Act.put, List.setIfInBounds_toArray, List.set_cons_zero, List.set_cons_succ]
            refine wpAnyP_take (i := 6) (v := ?_) (by simp only [List.getElem?_toArray, List.getElem?_cons_zero, List.getElem?_cons_succ]; rfl) (by kernel_rfl) (by kernel_rfl) (by kernel_rfl) (by kernel_rfl) (by intro _ _ _ h; exact h) (Or.inl ⟨by rfl, ?_⟩) (by assumption) ?_
            rotate_left
            · (intro w9 hSw; (try dsimp only at hSw); obtain ⟨hk1, hk2, hk3⟩ := hSw; have x0 := Joins.cell_of_block hk2 0; have x1 := Joins.cell_of_block hk2 1; have x2 := Joins.cell_of_block hk2 2; have x3 := Joins.cell_of_block hk2 3; have x4 := Joins.cell_of_block hk2 4; simp only [List.getElem?_toArray, List.getElem?_cons_zero, List.getElem?_cons_succ] at x0 x1 x2 x3 x4; have hx := lgh_lt hk2; go_simp <;> with_reducible rfl)
            try simp only [Act.put, List.setIfInBounds_toArray, List.set_cons_zero, List.set_cons_succ]
            refine wpAnyP_take (i := 7) (v := ?_) (by simp only [List.getElem?_toArray, List.getElem?_cons_zero, List.getElem?_cons_succ]; rfl) (by kernel_rfl) (by kernel_rfl) (by kernel_rfl) (by kernel_rfl) (by intro _ _ _ h; exact h) (Or.inl ⟨by rfl, ?_⟩) (by assumption) ?_
            rotate_left
            · (intro w9 hSw; (try dsimp only at hSw); obtain ⟨hk1, hk2, hk3⟩ := hSw; have x0 := Joins.cell_of_block hk2 0; have x1 := Joins.cell_of_block hk2 1; have x2 := Joins.cell_of_block hk2 2; have x3 := Joins.cell_of_block hk2 3; have x4 := Joins.cell_of_block hk2 4; simp only [List.getElem?_toArray, List.getElem?_cons_zero, List.getElem?_cons_succ] at x0 x1 x2 x3 x4; have hx := lgh_lt hk2; go_simp <;> with_reducible rfl)
            try simp only [Act.put, List.setIfInBounds_toArray, List.set_cons_zero, List.set_cons_succ]
            refine wpAnyP_take (i := 8) (v := ?_) (by simp only [List.getElem?_toArray, List.getElem?_cons_zero, List.getElem?_cons_succ]; rfl) (by kernel_rfl) (by kernel_rfl) (by kernel_rfl) (by kernel_rfl) (by intro _ _ _ h; exact h) (Or.inl ⟨by rfl, ?_⟩) (by assumption) ?_
            rotate_left
            · (intro w9 hSw; (try dsimp only at hSw); obtain ⟨hk1, hk2, hk3⟩ := hSw; have x0 := Joins.cell_of_block hk2 0; have x1 := Joins.cell_of_block hk2 1; have x2 := Joins.cell_of_block hk2 2; have x3 := Joins.cell_of_block hk2 3; have x4 := Joins.cell_of_block hk2 4; simp only [List.getElem?_toArray, List.getElem?_cons_zero, List.getElem?_cons_succ] at x0 x1 x2 x3 x4; have hx := lgh_lt hk2; go_simp <;> with_reducible rfl)
            try simp only [Act.put, List.setIfInBounds_toArray, List.set_cons_zero, List.set_cons_succ]
            refine wpAnyP_take (i := 9) (v := ?_) (by simp only [List.getElem?_toArray, List.getElem?_cons_zero, List.getElem?_cons_succ]; rfl) (by kernel_rfl) (by kernel_rfl) (by kernel_rfl) (by kernel_rfl) (by intro _ _ _ h; exact h) (Or.inl ⟨by rfl, ?_⟩) (by assumption) ?_
            rotate_left
            · (intro w9 hSw; (try dsimp only at hSw); obtain ⟨hk1, hk2, hk3⟩ := hSw; have x0 := Joins.cell_of_block hk2 0; have x1 := Joins.cell_of_block hk2 1; have x2 := Joins.cell_of_block hk2 2; have x3 := Joins.cell_of_block hk2 3; have x4 := Joins.cell_of_block hk2 4; simp only [List.getElem?_toArray, List.getElem?_cons_zero, List.getElem?_cons_succ] at x0 x1 x2 x3 x4; have hx := lgh_lt hk2; go_simp <;> with_reducible rfl)
            try simp only [Act.put, List.setIfInBounds_toArray, List.set_cons_zero, List.set_cons_succ]
            refine wpAnyP_take (i := 10) (v := ?_) (by simp only [List.getElem?_toArray, List.getElem?_cons_zero, List.getElem?_cons_succ]; rfl) (by kernel_rfl) (by kernel_rfl) (by kernel_rfl) (by kernel_rfl) (by intro _ _ _ h; exact h) (Or.inl ⟨by rfl, ?_⟩) (by assumption) ?_
            rotate_left
            · (intro w9 hSw; (try dsimp only at hSw); obtain ⟨hk1, hk2, hk3⟩ := hSw; have x0 := Joins.cell_of_block hk2 0; have x1 := Joins.cell_of_block hk2 1; have x2 := Joins.cell_of_block hk2 2; have x3 := Joins.cell_of_block hk2 3; have x4 := Joins.cell_of_block hk2 4; simp only [List.getElem?_toArray, List.getElem?_cons_zero, List.getElem?_cons_succ] at x0 x1 x2 x3 x4; have hx := lgh_lt hk2; go_simp <;> with_reducible rfl)
            try simp only [Act.put, List.setIfInBounds_toArray, List.set_cons_zero, List.set_cons_succ]
            refine wpAnyP_ready (rs := [11]) (by kernel_rfl) (by simp) ?_
            refine AllReadyP.cons (by simp only [List.getElem?_toArray, List.getElem?_cons_zero, List.getElem?_cons_succ]; rfl) (fun K hK => ?_) AllReadyP.nil
            go_simp
            refine hK.out _ _ ?_ (fun hHeld2 => ?_)
            · (try dsimp only); exact ⟨(cell_al wz _ hzG).trans bG, (Below.heap_alloc wz _ _ (lgh_lt bX)).trans bX, by simp; omega⟩
            clear hK K hHeld
            have hHeld := hHeld2
            clear hHeld2
            try simp only [Act.put, List.setIfInBounds_toArray, List.set_cons_zero, List.set_cons_succ]
            refine wpAnyP_ready (rs := [12]) (by kernel_rfl) (by simp) ?_
            refine AllReadyP.cons (by simp only [List.getElem?_toArray, List.getElem?_cons_zero, List.getElem?_cons_succ]; rfl) (fun K hK => ?_) AllReadyP.nil
            refine step_append_at rfl (.tmp 57) (.tmp 59) 32 rfl w.heap.size 34 i5 _ 5 40 Tryd.underlying32 hi5 hz50 hz51 hz52 rfl (by decide) (.slice b l.length d) l.length (flat l) (by simp [Act.eval]) (World.ownsRow.alloc (unhide HU) _) ⟨wz.heap.size, 0, none⟩ 1 1 [.int .i64 q, .int .i64 t, .int .i64 kk, .int .i64 v, .int .i64 nn] (by simp [Act.eval]) rfl (cells_new5 wz q t kk v nn _) (by simp [Value.oneCell']) (by unfold maxLen; omega) (by omega) (by simp; omega) ?_
            intro v9 w9 hown9 hgrow9 hwh9
            obtain ⟨g9, c9, rfl⟩ := Go.ownsRow_succ hown9
            replace hgrow9 : (wz.alloc (.cells #[.int .i64 q, .int .i64 t, .int .i64 kk, .int .i64 v, .int .i64 nn] 34)).grownBy w9 (Value.slice b l.length d).ownBlock := ⟨hgrow9.os, hgrow9.tape, hgrow9.output, hgrow9.size, hgrow9.block⟩
            refine hK.out _ _ ?_ (fun hHeld2 => ?_)
            · (try dsimp only); exact ⟨(World.grownBy.cell (w := wz.alloc _) hgrow9 ((cell_al wz _ hzG).trans bG) hneG), (hgrow9.block XB (by simp; have := lgh_lt bX; omega) hneX).trans ((Below.heap_alloc wz _ _ (lgh_lt bX)).trans bX), Nat.lt_of_lt_of_le (by simp; omega) hgrow9.size⟩
            clear hK K hHeld
            have hHeld := hHeld2
            clear hHeld2
            try simp only [Act.put, List.setIfInBounds_toArray, List.set_cons_zero, List.set_cons_succ]
            refine wpAnyP_take (i := 13) (v := ?_) (by simp only [List.getElem?_toArray, List.getElem?_cons_zero, List.getElem?_cons_succ]; rfl) (by kernel_rfl) (by kernel_rfl) (by kernel_rfl) (by kernel_rfl) (by intro _ _ _ h; exact h) (Or.inl ⟨by rfl, ?_⟩) (by assumption) ?_
            rotate_left
            · (intro w9 hSw; (try dsimp only at hSw); obtain ⟨hk1, hk2, hk3⟩ := hSw; have x0 := Joins.cell_of_block hk2 0; have x1 := Joins.cell_of_block hk2 1; have x2 := Joins.cell_of_block hk2 2; have x3 := Joins.cell_of_block hk2 3; have x4 := Joins.cell_of_block hk2 4; simp only [List.getElem?_toArray, List.getElem?_cons_zero, List.getElem?_cons_succ] at x0 x1 x2 x3 x4; have hx := lgh_lt hk2; go_simp <;> with_reducible rfl)
            try simp only [Act.put, List.setIfInBounds_toArray, List.set_cons_zero, List.set_cons_succ]
            have hc9 : w9.cell? ⟨g, k, none⟩ = some (.slice b l.length d) := World.grownBy.cell (w := wz.alloc _) hgrow9 ((cell_al wz _ hzG).trans bG) hneG
            have hf9 : w9.frozen? ⟨g, k, none⟩ = false := unhide HF w9 _ hown9 hgrow9
            have hg9 : g < w9.heap.size := World.block_lt_of_cell? w9 ⟨g, k, none⟩ hc9
            refine wpAnyP_ready (rs := [14]) (by kernel_rfl) (by simp) ?_
            refine AllReadyP.consS (by simp only [List.getElem?_toArray, List.getElem?_cons_zero, List.getElem?_cons_succ]; rfl) (by kernel_rfl) (fun K hK => ?_) AllReadyP.nil
            go_simp
            refine hK.out _ _ ?_
            clear hK K
            try simp only [Act.put, List.setIfInBounds_toArray, List.set_cons_zero, List.set_cons_succ]
            refine wpAnyP_done (by kernel_rfl) ?_ _
            have HN := hide (LgO.tipped (x := ⟨q, t, kk, v, nn⟩) (unhide HO2) hzW (unhide HKL) (unhide HUK) (unhide HLK) hown9 hgrow9 hwh9)
            have hge := (unhide HU).lt
            have hbN : Below w.heap.size w w9 := (bel_alloc (unhide HW) _).grown hgrow9 (by simp; omega) (fun k9 h9 => (hge k9 h9).1)
            have hgg := (unhide HO2).row.lt g rfl
            clear hown9 hgrow9 hwh9 HF hc9 hf9 bX bG hcl
            go_wp2
            go_roundw
            case rel => exact ⟨ix + 1, us.set k (.slice (some ⟨g9, 0, none⟩) (l.length + 1) c9), putL Ls (some ⟨q, t, kk, v, nn⟩), by omega, by go_num, hide (lg_cast (by rw [putL_len]; exact unhide HKL) (unhide HN)), HST, bel_set hbN (by show w.heap.size ≤ g; omega) _⟩
            case measure => simp [intOf]; omega
    · obtain rfl : ix = len := by omega
      have HD := hide ((unhide HI).all (by omega) (by omega))
      have hpp := (unhide HI).pos
      have hles := (unhide HI).les
      have hlll := (unhide HI).le
      obtain ⟨g, cap9, rfl, _, hg, _⟩ := (unhide HO).shape hpp
      clear HI
      obtain ⟨wo, hwo⟩ : ∃ wo, wo = wr := ⟨_, rfl⟩
      subst hwo
      go_wp2
      go_loopw [8] (fun i wt => ∃ k : Nat, k ≤ Ls.length ∧ i = .int .i64 k ∧ Hid ((Ls.take k).all okLog = true) ∧ Below wo.heap.size wo wt) (fun i _ => Ls.length - (intOf i).toNat)
      case atStart => exact ⟨0, Nat.zero_le _, rfl, hide (by simp), Below.refl _ _⟩
      case round =>
        obtain ⟨k, hk, rfl, hA, hbt⟩ := hrel
        by_cases hlt : k < Ls.length
        · obtain ⟨l, hlk⟩ : ∃ l, Ls[k]? = some l := ⟨_, List.getElem?_eq_getElem (by omega)⟩
          have hll := hles l (List.mem_of_getElem? hlk)
          obtain ⟨b, d, _, hc, hI⟩ := ((unhide HO).bel hbt).at_ hlk (by unfold maxLen; omega)
          have HII := hide hI
          have HLK := hide hlk
          have hgt : g < wr.heap.size := Nat.lt_of_lt_of_le hg hbt.size
          clear hI hlk hles
          obtain ⟨ob, hob⟩ : ∃ ob, okLog l = ob := ⟨_, rfl⟩
          have HOB := hide hob
          cases ob with
          | false =>
            have HE := hide (show dskL rs = ([], (rs.length : Int) + 1) by rw [unhide HD, all_ffL (unhide HLK) (unhide HOB)]; rfl)
            rw [hRl] at HE
            clear hob
            go_wp2_with (go_at_call 14; refine (speclog_any b l.length d l _ (unhide HII)).mono ?_; rw [unhide HOB]; rintro e wf ⟨rfl, hb⟩)
            refine bodyPost_ret (v := .tuple #[_, _]) (by simp (maxDischargeDepth := 9) [results, Tryd.results5, go_sem, *]; exact ⟨rfl, rfl⟩) rfl ?_
            exact dsp_no (unhide HE) (by repeat (first | (with_reducible exact Below.refl _ _) | (with_reducible assumption) | (with_reducible refine bel_set ?_ (by first | (simp; done) | (simp; omega)) _) | (with_reducible refine bel_alloc ?_ _) | (with_reducible refine bel_drew ?_) | (with_reducible refine bel_drewN ?_ _) | (with_reducible refine bel_trans ?_ (by with_reducible assumption)))) (by simp)
          | true =>
            have HE := hide (all_ttL (unhide hA) (unhide HLK) (unhide HOB))
            clear hob
            go_wp2_with (go_at_call 14; refine (speclog_any b l.length d l _ (unhide HII)).mono ?_; rw [unhide HOB]; rintro e wf ⟨rfl, hb⟩)
            go_roundw
            case rel => exact ⟨k + 1, by omega, by go_num, HE, (by repeat (first | (with_reducible exact Below.refl _ _) | (with_reducible assumption) | (with_reducible refine bel_set ?_ (by first | (simp; done) | (simp; omega)) _) | (with_reducible refine bel_alloc ?_ _) | (with_reducible refine bel_drew ?_) | (with_reducible refine bel_drewN ?_ _) | (with_reducible refine bel_trans ?_ (by with_reducible assumption))))⟩
            case measure => simp [intOf]; omega
        · have HE : Hid (dskL rs = (Ls, 0)) := hide (by
            have h1 := unhide hA
            rw [List.take_of_length_le (by omega)] at h1
            rw [unhide HD, h1]; rfl)
          have HB := hide (bel_trans hbw hbt)
          have HOF := hide ((unhide HO).bel hbt)
          clear HD
          go_wp2
          refine bodyPost_ret (v := .tuple #[_, _]) (by simp (maxDischargeDepth := 9) [results, Tryd.results5, go_sem, *]; exact ⟨rfl, rfl⟩) rfl ?_
          exact dsp_ok (unhide HE) (unhide HOF) (unhide HB)
end Go.Proofs.YtcokdcehjibanaaDoor
