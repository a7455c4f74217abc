/- Laid together: what the claim needs of the texts that were built one by one. -/
import Derived.Test.YtikidpcgnmffcaaGreatPkSesM
import Derived.Test.YtikidpcgnmffcaaGreatPkTabOfI
import Derived.Test.YtikidpcgnmffcaaGreatPkRegInvF
import Derived.Test.YtikidpcgnmffcaaGreatPkPairC
import Derived.Test.YtikidpcgnmffcaaGreatPkPairIB
import Derived.Test.YtikidpcgnmffcaaGreatPkBase
namespace Go.Proofs.YtikidpcgnmffcaaGreat
open Go.ChangeShapes Go.WideShapes Go.ChangeAt Go.RowKit Go.Shelf Go.Maps
set_option linter.unusedVariables false
set_option linter.unusedSimpArgs false
attribute [local go_sem] Oper.semAt_some

def pnB (x : LpB) : PnR := pnOf x.1

theorem impladd_is {n s l m v x y u t : Int} (w : World) (h : Hid (addF (n, s, l, m) v = (x, y, u, t))) : Calls Tryz.prog 34 #[.agg #[.int .i64 n, .int .i64 s, .int .i64 l, .int .i64 m], .int .i64 v] w fun e w' => e = .returned (.agg #[.int .i64 x, .int .i64 y, .int .i64 u, .int .i64 t]) ∧ Below w.heap.size w w' := by
  have h9 := impladd_any n s l m v w
  have h8 := unhide h
  simp only [addF, Prod.mk.injEq] at h8
  obtain ⟨rfl, rfl, rfl, rfl⟩ := h8
  exact h9

def actWn (w : World) (gf : Nat) (lb : Array Value) (x : LpB) (q : Nat) : Act := { tmps := #[(.func (.func gf) #[] lb), undef, .slice none 0 0, .pointer (some ⟨w.heap.size + 1, 0, none⟩), .pointer (some ⟨q, 0, none⟩), undef, .map (some w.heap.size), (.func (.func gf) #[] lb), .agg #[.int .i64 x.1.kd, .int .i64 x.1.tm, .int .i64 x.1.ke, .int .i64 x.1.va, .int .i64 x.1.nn, .int .i64 x.1.st, .int .i64 x.1.en], undef, undef, undef, undef, undef, undef, undef, undef, undef, undef, undef, undef, undef, undef, undef, undef, undef], defers := [] }

/-- What stands between two rounds. -/
def WnI (w : World) (pre : List LpB) (W : World) : Prop := OwnsV W w.heap.size pre.length (fun q => (mapF true (pre.map pnB) q).map agV) ∧ W.heap[w.heap.size + 1]? = some (.cells #[.map (some w.heap.size)] 74 (0, 0)) ∧ Below w.heap.size w W

theorem wnI_own (w : World) (B : Nat) (hB : w.heap.size + 1 < B) : OwnFrom B (WnI w) := fun s W W' row h hg hr => by
  obtain ⟨h1, h2, h3⟩ := h
  have hne : ∀ k, k < B → some k ≠ row := fun k hk e => by have := (hr k e.symm).1; omega
  refine ⟨OwnsOp.grown h1 hg (hne _ (by omega)), (hg.block _ (Array.getElem?_eq_some_iff.1 h2).1 (hne _ hB)).trans h2, h3.grown hg h3.size (fun k e => by have := (hr k e).1; omega)⟩

theorem mapF_app (pc : Bool) (ps : List PnR) (p : PnR) : mapF pc (ps ++ [p]) = stepF pc (mapF pc ps) p := by unfold mapF; rw [List.foldl_append]; rfl

set_option maxRecDepth 100000 in
set_option maxHeartbeats 8000000 in
theorem windows_any (gf : Nat) (lb : Array Value) (eg : ∀ args w, (callFunc gf args).run Tryz.prog w = .ok (.enter gf args) w) (PR : List LpB) (hPl : PR.length ≤ 10000) (w : World)
    (hseq : SeqStopsK Fence.wide 29 Tryz.prog gf lb (fun x : LpB => #[.agg #[.int .i64 x.1.kd, .int .i64 x.1.tm, .int .i64 x.1.ke, .int .i64 x.1.va, .int .i64 x.1.nn, .int .i64 x.1.st, .int .i64 x.1.en]]) (KpW w.heap.size) (fun ys => ys = PR) (fun _ => True) 10000 w) :
    Calls Tryz.prog 22 #[(.func (.func gf) #[] lb)] w fun e' w' => ∃ v', e' = .returned v' ∧ OwnTb w' w.heap.size v' (tabOfL true (PR.map pnB)) ∧ Below w.heap.size w w' := by
  refine (callsIn_wide (n := 30)).1 ?_
  refine callsIn_of_wp_marks Tryz.func22 rfl trivial ?_ rfl
  simp only [Tryz.ntmps22, List.size_toArray, List.length_cons, List.length_nil, Nat.reduceAdd, Nat.reduceSub, Array.replicate_succ, Array.replicate_zero, List.push_toArray, List.append_toArray, List.nil_append, List.cons_append]
  have hmk : (Instr.makeMap 74 none).run Tryz.prog w = .ok (.map (some w.heap.size)) (w.alloc (.map #[] 0)) := rfl
  have hB0 : Below w.heap.size w ((w.alloc (.map #[] 0)).alloc (.cells #[.map (some w.heap.size)] 74)) := bel_alloc (bel_one _ _) _
  have hI0 : WnI w [] ((w.alloc (.map #[] 0)).alloc (.cells #[.map (some w.heap.size)] 74)) := by
    refine ⟨OwnsOp.below (OwnsOp.made w Tryz.prog 76 rdV v3 ok3 DataW.held) (bel_one _ _), ?_, hB0⟩
    have h9 := World.alloc_heap_new (w.alloc (.map #[] 0)) (.cells #[.map (some w.heap.size)] 74)
    rw [World.size_alloc] at h9
    exact h9
  gi_wp2
  clear hmk
  refine wpIn_rangeFunc_ownH rfl (by omega) (gf := gf) (lb := lb) rfl trivial eg hseq KpW.trans (KpW.put (by simp; omega)) hB0 (fun _ => rfl)
    (WnI w) (fun _ _ _ => False) (wnI_own w _ (by simp)) (fun _ _ _ _ _ hs _ _ => hs) hI0
    (fun x a' W => ∃ q, a' = actWn w gf lb x q ∧ BxL W q x.1)
    (fun x a' _ W W' row hs hg hr => by
      obtain ⟨q, e1, hq⟩ := hs
      refine ⟨q, e1, (hg.block q (Array.getElem?_eq_some_iff.1 hq).1 (fun e9 => ?_)).trans hq⟩
      obtain ⟨_, o, ho, hc⟩ := hr q e9.symm
      rw [hq] at ho
      cases ho
      cases hc) ?assign ?body ?done ?stop
  case assign =>
    rintro lb0 pre x W K hI hK
    have HK := hK (actWn w gf lb x W.heap.size) (W.alloc (.cells #[.int .i64 x.1.kd, .int .i64 x.1.tm, .int .i64 x.1.ke, .int .i64 x.1.va, .int .i64 x.1.nn, .int .i64 x.1.st, .int .i64 x.1.en] 44)) ((KeepsOthers.of_grownBy (grown_of (bel_one W _)) (fun _ _ e => by cases e)).from _) (KpW.of_bel (bel_one _ _) hI.2.2.size) ⟨OwnsV.bel hI.1 (bel_one _ _), (Below.heap_alloc _ _ _ (Array.getElem?_eq_some_iff.1 hI.2.1).1).trans hI.2.1, bel_alloc hI.2.2 _⟩ ⟨_, rfl, BxL.new W x.1⟩
    clear hK
    unfold actWn at HK
    gi_wp2
    exact HK
  case body =>
    rintro lb0 pre x a' W hlb _ ⟨hO, hBx, hB⟩ ⟨q, rfl, hq⟩ hpl
    have cbx := Joins.cell_of_block hBx 0
    obtain ⟨x0, x1, x2, x3, x4, x5, x6⟩ := hq.cells
    have hlq := (Array.getElem?_eq_some_iff.1 hq).1
    have hlb : w.heap.size + 1 < W.heap.size := (Array.getElem?_eq_some_iff.1 hBx).1
    obtain ⟨xa, xb, xc, xd, hx⟩ : ∃ xa xb xc xd, (mapF true (pre.map pnB) (x.1.ke, x.1.st, x.1.en)).getD ag0 = (xa, xb, xc, xd) := ⟨_, _, _, _, rfl⟩
    obtain ⟨ya, yb, yc, yd, hy9⟩ : ∃ ya yb yc yd, addF (xa, xb, xc, xd) x.1.va = (ya, yb, yc, yd) := ⟨_, _, _, _, rfl⟩
    have HX := hide hx
    have HY := hide hy9
    have HK : Hid (ok3 (x.1.ke, x.1.st, x.1.en)) := hide x.2
    have hbA : Below W.heap.size W (W.alloc (.cells #[.int .i64 x.1.ke, .int .i64 x.1.st, .int .i64 x.1.en] 76)).drew := bel_drew (bel_one _ _)
    have hO' : OwnsV W w.heap.size pre.length (fun q => (mapF true (pre.map pnB) q).map agV) := hO
    have HO1 : Hid (OwnsV (W.alloc (.cells #[.int .i64 x.1.ke, .int .i64 x.1.st, .int .i64 x.1.en] 76)).drew w.heap.size pre.length (fun q => (mapF true (pre.map pnB) q).map agV)) := hide (OwnsV.bel hO' hbA)
    have zBx : w.heap.size + 1 < (W.alloc (.cells #[.int .i64 x.1.ke, .int .i64 x.1.st, .int .i64 x.1.en] 76)).drew.heap.size := by show w.heap.size + 1 < (W.alloc (.cells #[.int .i64 x.1.ke, .int .i64 x.1.st, .int .i64 x.1.en] 76)).heap.size; simp; omega
    have zAt : W.heap.size < (W.alloc (.cells #[.int .i64 x.1.ke, .int .i64 x.1.st, .int .i64 x.1.en] 76)).drew.heap.size := by show W.heap.size < (W.alloc (.cells #[.int .i64 x.1.ke, .int .i64 x.1.st, .int .i64 x.1.en] 76)).heap.size; simp
    have zq : q < (W.alloc (.cells #[.int .i64 x.1.ke, .int .i64 x.1.st, .int .i64 x.1.en] 76)).drew.heap.size := by show q < (W.alloc (.cells #[.int .i64 x.1.ke, .int .i64 x.1.st, .int .i64 x.1.en] 76)).heap.size; simp; omega
    have cBx : (W.alloc (.cells #[.int .i64 x.1.ke, .int .i64 x.1.st, .int .i64 x.1.en] 76)).drew.cell? ⟨w.heap.size + 1, 0, none⟩ = some (.map (some w.heap.size)) := (hbA.cell (p := ⟨w.heap.size + 1, 0, none⟩) hlb).trans cbx
    have cAt0 : (W.alloc (.cells #[.int .i64 x.1.ke, .int .i64 x.1.st, .int .i64 x.1.en] 76)).drew.cell? ⟨W.heap.size, 0, none⟩ = some (.int .i64 x.1.ke) := Joins.cell_of_block (World.alloc_heap_new W _) 0
    have cAt1 : (W.alloc (.cells #[.int .i64 x.1.ke, .int .i64 x.1.st, .int .i64 x.1.en] 76)).drew.cell? ⟨W.heap.size, 1, none⟩ = some (.int .i64 x.1.st) := Joins.cell_of_block (World.alloc_heap_new W _) 1
    have cAt2 : (W.alloc (.cells #[.int .i64 x.1.ke, .int .i64 x.1.st, .int .i64 x.1.en] 76)).drew.cell? ⟨W.heap.size, 2, none⟩ = some (.int .i64 x.1.en) := Joins.cell_of_block (World.alloc_heap_new W _) 2
    have cq3 : (W.alloc (.cells #[.int .i64 x.1.ke, .int .i64 x.1.st, .int .i64 x.1.en] 76)).drew.cell? ⟨q, 3, none⟩ = some (.int .i64 x.1.va) := (hbA.cell (p := ⟨q, 3, none⟩) hlq).trans x3
    have HBx := hide hBx
    clear hO hO' hBx hx hy9 cbx
    unfold actWn
    gi_wp2
    refine wpIn_region_last (by kernel_rfl) (by kernel_rfl) (by kernel_rfl) (fun L a' W' => ∃ V : Nat → Value, a' = ({ tmps := #[(.func (.func gf) #[] lb), undef, .slice none 0 0, .pointer (some ⟨w.heap.size + 1, 0, none⟩), .pointer (some ⟨q, 0, none⟩), .pointer (some ⟨W.heap.size, 0, none⟩), .map (some w.heap.size), (.func (.func gf) #[] lb), .agg #[.int .i64 x.1.kd, .int .i64 x.1.tm, .int .i64 x.1.ke, .int .i64 x.1.va, .int .i64 x.1.nn, .int .i64 x.1.st, .int .i64 x.1.en], .pointer (some ⟨q, 0, none⟩), .pointer (some ⟨q, 2, none⟩), .int .i64 x.1.ke, .pointer (some ⟨q, 5, none⟩), .agg #[.int .i64 x.1.st, .int .i64 x.1.en], .agg #[.int .i64 x.1.ke, .int .i64 x.1.st, .int .i64 x.1.en], V 0, V 1, V 2, V 3, V 4, V 5, V 6, V 7, V 8, undef, undef], defers := [] } : Act) ∧ ((L 0 = true → V 0 = .map (some w.heap.size)) ∧ (L 1 = true → V 1 = .agg #[.int .i64 x.1.ke, .int .i64 x.1.st, .int .i64 x.1.en]) ∧ (L 2 = true → V 2 = .map (some w.heap.size)) ∧ (L 3 = true → V 3 = .agg #[.int .i64 x.1.ke, .int .i64 x.1.st, .int .i64 x.1.en]) ∧ (L 4 = true → V 4 = .agg #[.int .i64 xa, .int .i64 xb, .int .i64 xc, .int .i64 xd]) ∧ (L 5 = true → V 5 = .pointer (some ⟨q, 0, none⟩)) ∧ (L 6 = true → V 6 = .pointer (some ⟨q, 3, none⟩)) ∧ (L 7 = true → V 7 = .int .i64 x.1.va) ∧ (L 8 = true → V 8 = .agg #[.int .i64 ya, .int .i64 yb, .int .i64 yc, .int .i64 yd])) ∧ Below (W.alloc (.cells #[.int .i64 x.1.ke, .int .i64 x.1.st, .int .i64 x.1.en] 76)).drew.heap.size (W.alloc (.cells #[.int .i64 x.1.ke, .int .i64 x.1.st, .int .i64 x.1.en] 76)).drew W') ?_ ?_
    · exact ⟨fun _ => undef, rfl, ⟨(fun h9 => (by cases h9)), (fun h9 => (by cases h9)), (fun h9 => (by cases h9)), (fun h9 => (by cases h9)), (fun h9 => (by cases h9)), (fun h9 => (by cases h9)), (fun h9 => (by cases h9)), (fun h9 => (by cases h9)), (fun h9 => (by cases h9))⟩, Below.refl _ _⟩
    refine ⟨?_, ?_, ?_, ?_, ?_, ?_, ?_, ?_, ?_, ?_⟩
    · intro L a' W' hI hLj hE K' hK
      obtain ⟨V, rfl, ⟨hv0, hv1, hv2, hv3, hv4, hv5, hv6, hv7, hv8⟩, hbW⟩ := hI
      have k0 : W'.cell? ⟨w.heap.size + 1, 0, none⟩ = some (.map (some w.heap.size)) := (hbW.cell (p := ⟨w.heap.size + 1, 0, none⟩) zBx).trans cBx
      have k1 : W'.cell? ⟨W.heap.size, 0, none⟩ = some (.int .i64 x.1.ke) := (hbW.cell (p := ⟨W.heap.size, 0, none⟩) zAt).trans cAt0
      have k2 : W'.cell? ⟨W.heap.size, 1, none⟩ = some (.int .i64 x.1.st) := (hbW.cell (p := ⟨W.heap.size, 1, none⟩) zAt).trans cAt1
      have k3 : W'.cell? ⟨W.heap.size, 2, none⟩ = some (.int .i64 x.1.en) := (hbW.cell (p := ⟨W.heap.size, 2, none⟩) zAt).trans cAt2
      have k4 : W'.cell? ⟨q, 3, none⟩ = some (.int .i64 x.1.va) := (hbW.cell (p := ⟨q, 3, none⟩) zq).trans cq3
      go_simp
      refine hK.out _ _ ⟨fun m => if m = 0 then .map (some w.heap.size) else V m, rfl, ⟨fun _ => rfl, fun h9 => hv1 (by simpa [more] using h9), fun h9 => hv2 (by simpa [more] using h9), fun h9 => hv3 (by simpa [more] using h9), fun h9 => hv4 (by simpa [more] using h9), fun h9 => hv5 (by simpa [more] using h9), fun h9 => hv6 (by simpa [more] using h9), fun h9 => hv7 (by simpa [more] using h9), fun h9 => hv8 (by simpa [more] using h9)⟩, hbW⟩
    · intro L a' W' hI hLj hE K' hK
      obtain ⟨V, rfl, ⟨hv0, hv1, hv2, hv3, hv4, hv5, hv6, hv7, hv8⟩, hbW⟩ := hI
      have k0 : W'.cell? ⟨w.heap.size + 1, 0, none⟩ = some (.map (some w.heap.size)) := (hbW.cell (p := ⟨w.heap.size + 1, 0, none⟩) zBx).trans cBx
      have k1 : W'.cell? ⟨W.heap.size, 0, none⟩ = some (.int .i64 x.1.ke) := (hbW.cell (p := ⟨W.heap.size, 0, none⟩) zAt).trans cAt0
      have k2 : W'.cell? ⟨W.heap.size, 1, none⟩ = some (.int .i64 x.1.st) := (hbW.cell (p := ⟨W.heap.size, 1, none⟩) zAt).trans cAt1
      have k3 : W'.cell? ⟨W.heap.size, 2, none⟩ = some (.int .i64 x.1.en) := (hbW.cell (p := ⟨W.heap.size, 2, none⟩) zAt).trans cAt2
      have k4 : W'.cell? ⟨q, 3, none⟩ = some (.int .i64 x.1.va) := (hbW.cell (p := ⟨q, 3, none⟩) zq).trans cq3
      go_simp
      refine hK.out _ _ ⟨fun m => if m = 1 then .agg #[.int .i64 x.1.ke, .int .i64 x.1.st, .int .i64 x.1.en] else V m, rfl, ⟨fun h9 => hv0 (by simpa [more] using h9), fun _ => rfl, fun h9 => hv2 (by simpa [more] using h9), fun h9 => hv3 (by simpa [more] using h9), fun h9 => hv4 (by simpa [more] using h9), fun h9 => hv5 (by simpa [more] using h9), fun h9 => hv6 (by simpa [more] using h9), fun h9 => hv7 (by simpa [more] using h9), fun h9 => hv8 (by simpa [more] using h9)⟩, hbW⟩
    · intro L a' W' hI hLj hE K' hK
      obtain ⟨V, rfl, ⟨hv0, hv1, hv2, hv3, hv4, hv5, hv6, hv7, hv8⟩, hbW⟩ := hI
      have k0 : W'.cell? ⟨w.heap.size + 1, 0, none⟩ = some (.map (some w.heap.size)) := (hbW.cell (p := ⟨w.heap.size + 1, 0, none⟩) zBx).trans cBx
      have k1 : W'.cell? ⟨W.heap.size, 0, none⟩ = some (.int .i64 x.1.ke) := (hbW.cell (p := ⟨W.heap.size, 0, none⟩) zAt).trans cAt0
      have k2 : W'.cell? ⟨W.heap.size, 1, none⟩ = some (.int .i64 x.1.st) := (hbW.cell (p := ⟨W.heap.size, 1, none⟩) zAt).trans cAt1
      have k3 : W'.cell? ⟨W.heap.size, 2, none⟩ = some (.int .i64 x.1.en) := (hbW.cell (p := ⟨W.heap.size, 2, none⟩) zAt).trans cAt2
      have k4 : W'.cell? ⟨q, 3, none⟩ = some (.int .i64 x.1.va) := (hbW.cell (p := ⟨q, 3, none⟩) zq).trans cq3
      go_simp
      refine hK.out _ _ ⟨fun m => if m = 2 then .map (some w.heap.size) else V m, rfl, ⟨fun h9 => hv0 (by simpa [more] using h9), fun h9 => hv1 (by simpa [more] using h9), fun _ => rfl, fun h9 => hv3 (by simpa [more] using h9), fun h9 => hv4 (by simpa [more] using h9), fun h9 => hv5 (by simpa [more] using h9), fun h9 => hv6 (by simpa [more] using h9), fun h9 => hv7 (by simpa [more] using h9), fun h9 => hv8 (by simpa [more] using h9)⟩, hbW⟩
    · intro L a' W' hI hLj hE K' hK
      obtain ⟨V, rfl, ⟨hv0, hv1, hv2, hv3, hv4, hv5, hv6, hv7, hv8⟩, hbW⟩ := hI
      have k0 : W'.cell? ⟨w.heap.size + 1, 0, none⟩ = some (.map (some w.heap.size)) := (hbW.cell (p := ⟨w.heap.size + 1, 0, none⟩) zBx).trans cBx
      have k1 : W'.cell? ⟨W.heap.size, 0, none⟩ = some (.int .i64 x.1.ke) := (hbW.cell (p := ⟨W.heap.size, 0, none⟩) zAt).trans cAt0
      have k2 : W'.cell? ⟨W.heap.size, 1, none⟩ = some (.int .i64 x.1.st) := (hbW.cell (p := ⟨W.heap.size, 1, none⟩) zAt).trans cAt1
      have k3 : W'.cell? ⟨W.heap.size, 2, none⟩ = some (.int .i64 x.1.en) := (hbW.cell (p := ⟨W.heap.size, 2, none⟩) zAt).trans cAt2
      have k4 : W'.cell? ⟨q, 3, none⟩ = some (.int .i64 x.1.va) := (hbW.cell (p := ⟨q, 3, none⟩) zq).trans cq3
      go_simp
      refine hK.out _ _ ⟨fun m => if m = 3 then .agg #[.int .i64 x.1.ke, .int .i64 x.1.st, .int .i64 x.1.en] else V m, rfl, ⟨fun h9 => hv0 (by simpa [more] using h9), fun h9 => hv1 (by simpa [more] using h9), fun h9 => hv2 (by simpa [more] using h9), fun _ => rfl, fun h9 => hv4 (by simpa [more] using h9), fun h9 => hv5 (by simpa [more] using h9), fun h9 => hv6 (by simpa [more] using h9), fun h9 => hv7 (by simpa [more] using h9), fun h9 => hv8 (by simpa [more] using h9)⟩, hbW⟩
    · intro L a' W' hI hLj hE K' hK
      obtain ⟨V, rfl, ⟨hv0, hv1, hv2, hv3, hv4, hv5, hv6, hv7, hv8⟩, hbW⟩ := hI
      have ev2 := hv2 (hE ⟨2, .data⟩ (by simp) rfl)
      have ev3 := hv3 (hE ⟨3, .data⟩ (by simp) rfl)
      have k0 : W'.cell? ⟨w.heap.size + 1, 0, none⟩ = some (.map (some w.heap.size)) := (hbW.cell (p := ⟨w.heap.size + 1, 0, none⟩) zBx).trans cBx
      have k1 : W'.cell? ⟨W.heap.size, 0, none⟩ = some (.int .i64 x.1.ke) := (hbW.cell (p := ⟨W.heap.size, 0, none⟩) zAt).trans cAt0
      have k2 : W'.cell? ⟨W.heap.size, 1, none⟩ = some (.int .i64 x.1.st) := (hbW.cell (p := ⟨W.heap.size, 1, none⟩) zAt).trans cAt1
      have k3 : W'.cell? ⟨W.heap.size, 2, none⟩ = some (.int .i64 x.1.en) := (hbW.cell (p := ⟨W.heap.size, 2, none⟩) zAt).trans cAt2
      have k4 : W'.cell? ⟨q, 3, none⟩ = some (.int .i64 x.1.va) := (hbW.cell (p := ⟨q, 3, none⟩) zq).trans cq3
      have hlk := ((unhide HO1).bel hbW).look (zeroAg _) (x.1.ke, x.1.st, x.1.en) (unhide HK)
      dsimp only at hlk
      rw [val_get (unhide HX)] at hlk
      rw [ev2]
      rw [ev3]
      go_simp
      refine hK.out _ _ ⟨fun m => if m = 4 then .agg #[.int .i64 xa, .int .i64 xb, .int .i64 xc, .int .i64 xd] else V m, (by simp [ev2, ev3]), ⟨fun h9 => hv0 (by simpa [more] using h9), fun h9 => hv1 (by simpa [more] using h9), fun h9 => hv2 (by simpa [more] using h9), fun h9 => hv3 (by simpa [more] using h9), fun _ => rfl, fun h9 => hv5 (by simpa [more] using h9), fun h9 => hv6 (by simpa [more] using h9), fun h9 => hv7 (by simpa [more] using h9), fun h9 => hv8 (by simpa [more] using h9)⟩, hbW⟩
    · intro L a' W' hI hLj hE K' hK
      obtain ⟨V, rfl, ⟨hv0, hv1, hv2, hv3, hv4, hv5, hv6, hv7, hv8⟩, hbW⟩ := hI
      have k0 : W'.cell? ⟨w.heap.size + 1, 0, none⟩ = some (.map (some w.heap.size)) := (hbW.cell (p := ⟨w.heap.size + 1, 0, none⟩) zBx).trans cBx
      have k1 : W'.cell? ⟨W.heap.size, 0, none⟩ = some (.int .i64 x.1.ke) := (hbW.cell (p := ⟨W.heap.size, 0, none⟩) zAt).trans cAt0
      have k2 : W'.cell? ⟨W.heap.size, 1, none⟩ = some (.int .i64 x.1.st) := (hbW.cell (p := ⟨W.heap.size, 1, none⟩) zAt).trans cAt1
      have k3 : W'.cell? ⟨W.heap.size, 2, none⟩ = some (.int .i64 x.1.en) := (hbW.cell (p := ⟨W.heap.size, 2, none⟩) zAt).trans cAt2
      have k4 : W'.cell? ⟨q, 3, none⟩ = some (.int .i64 x.1.va) := (hbW.cell (p := ⟨q, 3, none⟩) zq).trans cq3
      go_simp
      refine hK.out _ _ ⟨fun m => if m = 5 then .pointer (some ⟨q, 0, none⟩) else V m, rfl, ⟨fun h9 => hv0 (by simpa [more] using h9), fun h9 => hv1 (by simpa [more] using h9), fun h9 => hv2 (by simpa [more] using h9), fun h9 => hv3 (by simpa [more] using h9), fun h9 => hv4 (by simpa [more] using h9), fun _ => rfl, fun h9 => hv6 (by simpa [more] using h9), fun h9 => hv7 (by simpa [more] using h9), fun h9 => hv8 (by simpa [more] using h9)⟩, hbW⟩
    · intro L a' W' hI hLj hE K' hK
      obtain ⟨V, rfl, ⟨hv0, hv1, hv2, hv3, hv4, hv5, hv6, hv7, hv8⟩, hbW⟩ := hI
      have ev5 := hv5 (hE ⟨5, .data⟩ (by simp) rfl)
      have k0 : W'.cell? ⟨w.heap.size + 1, 0, none⟩ = some (.map (some w.heap.size)) := (hbW.cell (p := ⟨w.heap.size + 1, 0, none⟩) zBx).trans cBx
      have k1 : W'.cell? ⟨W.heap.size, 0, none⟩ = some (.int .i64 x.1.ke) := (hbW.cell (p := ⟨W.heap.size, 0, none⟩) zAt).trans cAt0
      have k2 : W'.cell? ⟨W.heap.size, 1, none⟩ = some (.int .i64 x.1.st) := (hbW.cell (p := ⟨W.heap.size, 1, none⟩) zAt).trans cAt1
      have k3 : W'.cell? ⟨W.heap.size, 2, none⟩ = some (.int .i64 x.1.en) := (hbW.cell (p := ⟨W.heap.size, 2, none⟩) zAt).trans cAt2
      have k4 : W'.cell? ⟨q, 3, none⟩ = some (.int .i64 x.1.va) := (hbW.cell (p := ⟨q, 3, none⟩) zq).trans cq3
      rw [ev5]
      go_simp
      refine hK.out _ _ ⟨fun m => if m = 6 then .pointer (some ⟨q, 3, none⟩) else V m, (by simp [ev5]), ⟨fun h9 => hv0 (by simpa [more] using h9), fun h9 => hv1 (by simpa [more] using h9), fun h9 => hv2 (by simpa [more] using h9), fun h9 => hv3 (by simpa [more] using h9), fun h9 => hv4 (by simpa [more] using h9), fun h9 => hv5 (by simpa [more] using h9), fun _ => rfl, fun h9 => hv7 (by simpa [more] using h9), fun h9 => hv8 (by simpa [more] using h9)⟩, hbW⟩
    · intro L a' W' hI hLj hE K' hK
      obtain ⟨V, rfl, ⟨hv0, hv1, hv2, hv3, hv4, hv5, hv6, hv7, hv8⟩, hbW⟩ := hI
      have ev6 := hv6 (hE ⟨6, .data⟩ (by simp) rfl)
      have k0 : W'.cell? ⟨w.heap.size + 1, 0, none⟩ = some (.map (some w.heap.size)) := (hbW.cell (p := ⟨w.heap.size + 1, 0, none⟩) zBx).trans cBx
      have k1 : W'.cell? ⟨W.heap.size, 0, none⟩ = some (.int .i64 x.1.ke) := (hbW.cell (p := ⟨W.heap.size, 0, none⟩) zAt).trans cAt0
      have k2 : W'.cell? ⟨W.heap.size, 1, none⟩ = some (.int .i64 x.1.st) := (hbW.cell (p := ⟨W.heap.size, 1, none⟩) zAt).trans cAt1
      have k3 : W'.cell? ⟨W.heap.size, 2, none⟩ = some (.int .i64 x.1.en) := (hbW.cell (p := ⟨W.heap.size, 2, none⟩) zAt).trans cAt2
      have k4 : W'.cell? ⟨q, 3, none⟩ = some (.int .i64 x.1.va) := (hbW.cell (p := ⟨q, 3, none⟩) zq).trans cq3
      rw [ev6]
      go_simp
      refine hK.out _ _ ⟨fun m => if m = 7 then .int .i64 x.1.va else V m, (by simp [ev6]), ⟨fun h9 => hv0 (by simpa [more] using h9), fun h9 => hv1 (by simpa [more] using h9), fun h9 => hv2 (by simpa [more] using h9), fun h9 => hv3 (by simpa [more] using h9), fun h9 => hv4 (by simpa [more] using h9), fun h9 => hv5 (by simpa [more] using h9), fun h9 => hv6 (by simpa [more] using h9), fun _ => rfl, fun h9 => hv8 (by simpa [more] using h9)⟩, hbW⟩
    · intro L a' W' hI hLj hE K' hK
      obtain ⟨V, rfl, ⟨hv0, hv1, hv2, hv3, hv4, hv5, hv6, hv7, hv8⟩, hbW⟩ := hI
      have ev4 := hv4 (hE ⟨4, .data⟩ (by simp) rfl)
      have ev7 := hv7 (hE ⟨7, .data⟩ (by simp) rfl)
      have k0 : W'.cell? ⟨w.heap.size + 1, 0, none⟩ = some (.map (some w.heap.size)) := (hbW.cell (p := ⟨w.heap.size + 1, 0, none⟩) zBx).trans cBx
      have k1 : W'.cell? ⟨W.heap.size, 0, none⟩ = some (.int .i64 x.1.ke) := (hbW.cell (p := ⟨W.heap.size, 0, none⟩) zAt).trans cAt0
      have k2 : W'.cell? ⟨W.heap.size, 1, none⟩ = some (.int .i64 x.1.st) := (hbW.cell (p := ⟨W.heap.size, 1, none⟩) zAt).trans cAt1
      have k3 : W'.cell? ⟨W.heap.size, 2, none⟩ = some (.int .i64 x.1.en) := (hbW.cell (p := ⟨W.heap.size, 2, none⟩) zAt).trans cAt2
      have k4 : W'.cell? ⟨q, 3, none⟩ = some (.int .i64 x.1.va) := (hbW.cell (p := ⟨q, 3, none⟩) zq).trans cq3
      rw [ev4]
      rw [ev7]
      go_simp
      (first | (gi_at_call 34) | (refine ⟨trivial, ?_⟩; gi_at_call 34) | (refine ⟨trivial, fun _ => (by omega), ?_⟩; gi_at_call 34))
      (refine (callsIn_wide.2 (impladd_is _ HY)).mono ?_; rintro e9 Wf ⟨rfl, hbf⟩)
      (try gi_wp2_with fail)
      refine hK.out _ _ ⟨fun m => if m = 8 then .agg #[.int .i64 ya, .int .i64 yb, .int .i64 yc, .int .i64 yd] else V m, (by simp [ev4, ev7]), ⟨fun h9 => hv0 (by simpa [more] using h9), fun h9 => hv1 (by simpa [more] using h9), fun h9 => hv2 (by simpa [more] using h9), fun h9 => hv3 (by simpa [more] using h9), fun h9 => hv4 (by simpa [more] using h9), fun h9 => hv5 (by simpa [more] using h9), fun h9 => hv6 (by simpa [more] using h9), fun h9 => hv7 (by simpa [more] using h9), fun _ => rfl⟩, hbW.trans (hbf.mono hbW.size)⟩
    · intro L a' W' hI hA K' hK
      obtain ⟨V, rfl, ⟨hv0, hv1, hv2, hv3, hv4, hv5, hv6, hv7, hv8⟩, hbW⟩ := hI
      have ev0 := hv0 (hA 0 (by decide))
      rw [ev0]
      have ev1 := hv1 (hA 1 (by decide))
      rw [ev1]
      have ev8 := hv8 (hA 8 (by decide))
      rw [ev8]
      obtain ⟨w2, hst, hO3, hg3⟩ := ((unhide HO1).bel hbW).store (by unfold maxLen; omega) (x.1.ke, x.1.st, x.1.en) (unhide HK) (.agg #[.int .i64 ya, .int .i64 yb, .int .i64 yc, .int .i64 yd])
      dsimp only at hst
      go_simp
      refine hK.out _ _ ?_
      have hbM : ∃ es ck, W'.heap[w.heap.size]? = some (.map es ck) := by
        obtain ⟨D, ⟨es, ck, h1, _⟩, _⟩ := (unhide HO1).bel hbW
        exact ⟨es, ck, h1⟩
      have hbWW : Below W.heap.size W W' := bel_trans hbA hbW
      have zW : w.heap.size ≤ W.heap.size := hB.size
      have hb2 : Below w.heap.size W w2 := (hbWW.mono zW).grown hg3 (Nat.le_trans zW hbWW.size) (fun k e => by cases e; exact Nat.le_refl _)
      have hOE : (fun y => if y = (x.1.ke, x.1.st, x.1.en) then some (.agg #[.int .i64 ya, .int .i64 yb, .int .i64 yc, .int .i64 yd]) else (mapF true (pre.map pnB) y).map agV) = fun y => (mapF true ((pre ++ [x]).map pnB) y).map agV := by
        rw [List.map_append]
        simp only [List.map_cons, List.map_nil]
        rw [mapF_app]
        refine step_both (p := pnB x) (by show ¬ (1 : Int) = 3; decide) ?_
        show bothF ((mapF true (pre.map pnB) (x.1.ke, x.1.st, x.1.en)).getD ag0) 1 x.1.va x.1.va x.1.va = _
        rw [unhide HX, ← addF_both]
        exact unhide HY
      rw [hOE] at hO3
      refine ⟨⟨Nat.le_trans hbWW.size hg3.size, fun k o hk h0 ho => ?_⟩, ⟨hb2, fun bl cs ty _ hbl => ?_⟩, ⟨by rw [List.length_append]; exact hO3, ?_, hB.trans hb2⟩⟩
      · have hlt := (Array.getElem?_eq_some_iff.1 h0).1
        exact (hg3.block k (Nat.lt_of_lt_of_le hlt hbWW.size) (fun e => by cases e; simp at hk; omega)).trans ((hbWW.block k hlt).trans h0)
      · have hlt := (Array.getElem?_eq_some_iff.1 hbl).1
        have h8 := (hbWW.block bl hlt).trans hbl
        refine (hg3.block bl (Nat.lt_of_lt_of_le hlt hbWW.size) (fun e => ?_)).trans h8
        cases e
        obtain ⟨es, ck, h1⟩ := hbM
        rw [h8] at h1
        cases h1
      · exact (hg3.block _ (Nat.lt_of_lt_of_le hlb hbWW.size) (fun e => by simp at e)).trans ((hbWW.block _ hlb).trans (unhide HBx))
  case done =>
    rintro D ys W hD hys ⟨hO, hBx, hB⟩ hK
    obtain rfl := hys.symm
    have hO' : OwnsV W w.heap.size PR.length (fun q => (mapF true (PR.map pnB) q).map agV) := hO
    have cbx := Joins.cell_of_block hBx 0
    have hlb : w.heap.size + 1 < W.heap.size := (Array.getElem?_eq_some_iff.1 hBx).1
    clear hO hseq
    gi_wp2_with (refine ⟨trivial, ?_⟩; gi_at_call 38; refine (callsIn_wide.2 (rowsof_any w.heap.size PR.length (mapF true (PR.map pnB)) _ (by omega) hO')).mono ?_; rintro e9 Wf ⟨v', zs, rfl, hIO, hzl, hOT, hbf⟩)
    rw [rows_eq hIO (fun p hp => by obtain ⟨y, _, rfl⟩ := List.mem_map.1 hp; exact y.2)] at hOT
    have hDf : D < W.heap.size := (Array.getElem?_eq_some_iff.1 hK).1
    have hKf := (hbf.block D hDf).trans hK
    refine ⟨by simp, .inl ⟨_, _, rfl, run_takeDeferred hKf, ?_⟩⟩
    exact ⟨_, results_tmp rfl _ _ _, v', rfl, ownsRow_putObj (World.ownsRow.mono hOT hB.size) _ hKf rfl, (hB.trans (hbf.mono hB.size)).trans (belowK_b (w := w) (Nat.le_refl _) Wf D _ _ (by simp at hD; omega) hKf rfl rfl)⟩
  case stop =>
    rintro D c pre W _ _ hx _
    exact hx.elim
end Go.Proofs.YtikidpcgnmffcaaGreat
