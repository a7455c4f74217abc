/- Laid together: what the claim needs of the texts that were built one by one. -/
import Derived.Test.YtabphkmhafflbaaPkCkpC4
import Derived.Test.YtabphkmhafflbaaPkRegL
import Derived.Test.YtabphkmhafflbaaPkCkpX
import Derived.Test.YtabphkmhafflbaaPkBase
namespace Go.Proofs.Ytabphkmhafflbaa
open Go.ChangeShapes Go.WideShapes Go.ChangeAt Go.RowKit Go.Deep
set_option linter.unusedVariables false

/-- Checkpoints in a box. -/
def BoxK (W : World) (B : Nat) (n : Int) (op : Bool) (v2 v3 v4 : Value) (f : Int) (v6 v7 : Value) : Prop := W.heap[B]? = some (.cells #[.int .i64 n, .bool op, v2, v3, v4, .int .i64 f, v6, v7] 32 (0, 0))

theorem BoxK.cells {W : World} {B : Nat} {n : Int} {op : Bool} {v2 v3 v4 : Value} {f : Int} {v6 v7 : Value} (h : BoxK W B n op v2 v3 v4 f v6 v7) : (W.cell? ⟨B, 0, none⟩ = some (.int .i64 n) ∧ W.cell? ⟨B, 1, none⟩ = some (.bool op) ∧ W.cell? ⟨B, 2, none⟩ = some v2 ∧ W.cell? ⟨B, 3, none⟩ = some v3 ∧ W.cell? ⟨B, 4, none⟩ = some v4 ∧ W.cell? ⟨B, 5, none⟩ = some (.int .i64 f) ∧ W.cell? ⟨B, 6, none⟩ = some v6 ∧ W.cell? ⟨B, 7, none⟩ = some v7) ∧ ∀ i, W.frozen? ⟨B, i, none⟩ = false := by
  unfold BoxK at h
  refine ⟨⟨?_, ?_, ?_, ?_, ?_, ?_, ?_, ?_⟩, fun i => ?_⟩ <;> simp [World.cell?, World.frozen?, h, go_sem]

theorem BoxK.lt {W : World} {B : Nat} {n : Int} {op : Bool} {v2 v3 v4 : Value} {f : Int} {v6 v7 : Value} (h : BoxK W B n op v2 v3 v4 f v6 v7) : B < W.heap.size := (Array.getElem?_eq_some_iff.1 h).1

theorem BoxK.keep {W W' : World} {B : Nat} {n : Int} {op : Bool} {v2 v3 v4 : Value} {f : Int} {v6 v7 : Value} (h : BoxK W B n op v2 v3 v4 f v6 v7) (hb : Below W.heap.size W W') : BoxK W' B n op v2 v3 v4 f v6 v7 := (hb.block B h.lt).trans h

theorem BoxK.set2 {W : World} {B : Nat} {n : Int} {op : Bool} {v2 v3 v4 : Value} {f : Int} {v6 v7 : Value} (h : BoxK W B n op v2 v3 v4 f v6 v7) (u : Value) : BoxK (W.setCell ⟨B, 2, none⟩ (u)) B n op u v3 v4 f v6 v7 := Joins.block_setCell h (u)

theorem BoxK.set3 {W : World} {B : Nat} {n : Int} {op : Bool} {v2 v3 v4 : Value} {f : Int} {v6 v7 : Value} (h : BoxK W B n op v2 v3 v4 f v6 v7) (u : Value) : BoxK (W.setCell ⟨B, 3, none⟩ (u)) B n op v2 u v4 f v6 v7 := Joins.block_setCell h (u)

theorem BoxK.set4 {W : World} {B : Nat} {n : Int} {op : Bool} {v2 v3 v4 : Value} {f : Int} {v6 v7 : Value} (h : BoxK W B n op v2 v3 v4 f v6 v7) (u : Value) : BoxK (W.setCell ⟨B, 4, none⟩ (u)) B n op v2 v3 u f v6 v7 := Joins.block_setCell h (u)

theorem BoxK.set6 {W : World} {B : Nat} {n : Int} {op : Bool} {v2 v3 v4 : Value} {f : Int} {v6 v7 : Value} (h : BoxK W B n op v2 v3 v4 f v6 v7) (u : Value) : BoxK (W.setCell ⟨B, 6, none⟩ (u)) B n op v2 v3 v4 f u v7 := Joins.block_setCell h (u)

theorem BoxK.set7 {W : World} {B : Nat} {n : Int} {op : Bool} {v2 v3 v4 : Value} {f : Int} {v6 v7 : Value} (h : BoxK W B n op v2 v3 v4 f v6 v7) (u : Value) : BoxK (W.setCell ⟨B, 7, none⟩ (u)) B n op v2 v3 v4 f v6 u := Joins.block_setCell h (u)

/-- What lies in a slice's own block lies below. -/
def Under (v : Value) (B : Nat) : Prop := ∀ b, v.ownBlock = some b → b < B

theorem under_of {W : World} {B : Nat} {e : TypeId} {size n : Nat} {v : Value} {xs : List Value} (h : W.ownsRow B e size v n xs) {B' : Nat} (hB : W.heap.size ≤ B') : Under v B' := fun b hv => Nat.lt_of_lt_of_le (World.ownsRow.lt h b hv).2 hB

/-- All rows of copies lie below. -/
def UnderS (l : List (Int × SnV)) (B : Nat) : Prop := ∀ (i : Nat) (p : Int × SnV), l[i]? = some p → Under (Value.slice p.2.a1 p.2.l1 p.2.c1) B ∧ Under (Value.slice p.2.a2 p.2.l2 p.2.c2) B

theorem underS_of {W : World} {B : Nat} {l : List (Int × SnV)} {xs : List SnD} (h : CopS W B l xs) {B' : Nat} (hB : W.heap.size ≤ B') : UnderS l B' := fun i p hp => by
  have hi : i < xs.length := by have := (List.getElem?_eq_some_iff.1 hp).1; have := h.len; omega
  exact ⟨under_of (h.r1 i p xs[i] hp (List.getElem?_eq_getElem hi)) hB, under_of (h.r2 i p xs[i] hp (List.getElem?_eq_getElem hi)) hB⟩

theorem CopS.setC {W : World} {B : Nat} {l : List (Int × SnV)} {xs : List SnD} {p : Addr} {u : Value} (h : CopS W B l xs) (hp : p.block < B) : CopS (W.setCell p u) B l xs :=
  ⟨h.len, h.at_, fun i q x hq hx => own_setC (h.r1 i q x hq hx) hp, fun i q x hq hx => own_setC (h.r2 i q x hq hx) hp, h.d1, h.d2⟩

/-- Checkpoints in memory of their own, part by part. -/
structure CkOwn (W : World) (B : Nat) (src : List Int) (tsk : List Bool) (sn : List SnD) (at_ : List Int) (ssn : List SnD) (v2 v3 v4 v6 v7 : Value) (l4 l7 : List (Int × SnV)) (B1 B2 B3 B4 : Nat) : Prop where
  le : B ≤ B1 ∧ B1 ≤ B2 ∧ B2 ≤ B3 ∧ B3 ≤ B4
  o2 : W.ownsRow B 3 1 v2 src.length (src.map fun z => .int .i64 z)
  u2 : Under v2 B1
  o3 : W.ownsRow B1 4 1 v3 tsk.length (tsk.map fun z => .bool z)
  u3 : Under v3 B2
  o4 : OwnSn W B2 v4 l4
  k4 : CopS W B2 l4 sn
  u4 : Under v4 B3
  s4 : UnderS l4 B3
  o6 : W.ownsRow B3 3 1 v6 at_.length (at_.map fun z => .int .i64 z)
  u6 : Under v6 B4
  o7 : OwnSn W B4 v7 l7
  k7 : CopS W B4 l7 ssn

theorem CkOwn.setC {W : World} {B : Nat} {src : List Int} {tsk : List Bool} {sn : List SnD} {at_ : List Int} {ssn : List SnD} {v2 v3 v4 v6 v7 : Value} {l4 l7 : List (Int × SnV)} {B1 B2 B3 B4 : Nat} {p : Addr} {u : Value} (h : CkOwn W B src tsk sn at_ ssn v2 v3 v4 v6 v7 l4 l7 B1 B2 B3 B4) (hp : p.block < B) : CkOwn (W.setCell p u) B src tsk sn at_ ssn v2 v3 v4 v6 v7 l4 l7 B1 B2 B3 B4 := by
  obtain ⟨h1, h2, h3, h4⟩ := h.le
  exact ⟨h.le, own_setC h.o2 hp, h.u2, own_setC h.o3 (by omega), h.u3, own_setC h.o4 (by omega), h.k4.setC (by omega), h.u4, h.s4, own_setC h.o6 (by omega), h.u6, own_setC h.o7 (by omega), h.k7.setC (by omega)⟩

theorem CkOwn.bel {W W' : World} {B : Nat} {src : List Int} {tsk : List Bool} {sn : List SnD} {at_ : List Int} {ssn : List SnD} {v2 v3 v4 v6 v7 : Value} {l4 l7 : List (Int × SnV)} {B1 B2 B3 B4 : Nat} (h : CkOwn W B src tsk sn at_ ssn v2 v3 v4 v6 v7 l4 l7 B1 B2 B3 B4) (hb : Below W.heap.size W W') : CkOwn W' B src tsk sn at_ ssn v2 v3 v4 v6 v7 l4 l7 B1 B2 B3 B4 :=
  ⟨h.le, own_bel h.o2 hb, h.u2, own_bel h.o3 hb, h.u3, own_bel h.o4 hb, h.k4.below hb, h.u4, h.s4, own_bel h.o6 hb, h.u6, own_bel h.o7 hb, h.k7.below hb⟩

/-- Copied checkpoints, as they come back. -/
def CopK (w : World) (n : Int) (op : Bool) (src : List Int) (tsk : List Bool) (sn : List SnD) (f : Int) (at_ : List Int) (ssn : List SnD) (e : Ending) (w' : World) : Prop := ∃ (v2 v3 v4 v6 v7 : Value) (l4 l7 : List (Int × SnV)) (B1 B2 B3 B4 : Nat), e = .returned (.agg #[.int .i64 n, .bool op, v2, v3, v4, .int .i64 f, v6, v7]) ∧ CkOwn w' w.heap.size src tsk sn at_ ssn v2 v3 v4 v6 v7 l4 l7 B1 B2 B3 B4 ∧ Below w.heap.size w w'

set_option linter.unusedSimpArgs false in
set_option maxRecDepth 20000 in
set_option maxHeartbeats 4000000 in
theorem implcopied_any (n : Int) (op : Bool) (a2 : Option Addr) (l2 c2 : Nat) (a3 : Option Addr) (l3 c3 : Nat) (a4 : Option Addr) (l4 c4 : Nat) (f : Int) (a6 : Option Addr) (l6 c6 : Nat) (a7 : Option Addr) (l7 c7 Bs : Nat) (src : List Int) (tsk : List Bool) (sn : List SnD) (at_ : List Int) (ssn : List SnD) (w : World) (h2 : InRs w a2 l2 src) (h3 : BoRs w a3 l3 tsk) (h4 : SnB w Bs a4 l4 sn) (h6 : InRs w a6 l6 at_) (h7 : SnB w Bs a7 l7 ssn) (hs2 : l2 ≤ 1048576) (hs3 : l3 ≤ 1048576) (hs4 : l4 ≤ 1048576) (hs6 : l6 ≤ 1048576) (hs7 : l7 ≤ 1048576) (hm4 : ∀ y ∈ sn, y.rows.length ≤ 1048576 ∧ y.marks.length ≤ 1048576) (hm7 : ∀ y ∈ ssn, y.rows.length ≤ 1048576 ∧ y.marks.length ≤ 1048576) : Calls Try.prog 25 #[.agg #[.int .i64 n, .bool op, .slice a2 l2 c2, .slice a3 l3 c3, .slice a4 l4 c4, .int .i64 f, .slice a6 l6 c6, .slice a7 l7 c7]] w fun e w' => CopK w n op src tsk sn f at_ ssn e w' := by
  have e2 : src.length = l2 := h2.1
  have e3 : tsk.length = l3 := h3.1
  have e6 : at_.length = l6 := h6.1
  have hbz : Below w.heap.size w ((w.alloc (.cells #[.int .i64 n, .bool op, (.slice a2 l2 c2), (.slice a3 l3 c3), (.slice a4 l4 c4), .int .i64 f, (.slice a6 l6 c6), (.slice a7 l7 c7)] 32)).alloc (.cells #[.int .i64 0, .bool false, .slice none 0 0, .slice none 0 0, .slice none 0 0, .int .i64 0, .slice none 0 0, .slice none 0 0] 32)) := bel_alloc (bel_one _ _) _
  have hX0 : BoxK ((w.alloc (.cells #[.int .i64 n, .bool op, (.slice a2 l2 c2), (.slice a3 l3 c3), (.slice a4 l4 c4), .int .i64 f, (.slice a6 l6 c6), (.slice a7 l7 c7)] 32)).alloc (.cells #[.int .i64 0, .bool false, .slice none 0 0, .slice none 0 0, .slice none 0 0, .int .i64 0, .slice none 0 0, .slice none 0 0] 32)).drew w.heap.size n op (.slice a2 l2 c2) (.slice a3 l3 c3) (.slice a4 l4 c4) f (.slice a6 l6 c6) (.slice a7 l7 c7) := ((bel_one (w.alloc _) _).block _ (by simp)).trans (blk_new rfl)
  have hY0 : ((w.alloc (.cells #[.int .i64 n, .bool op, (.slice a2 l2 c2), (.slice a3 l3 c3), (.slice a4 l4 c4), .int .i64 f, (.slice a6 l6 c6), (.slice a7 l7 c7)] 32)).alloc (.cells #[.int .i64 0, .bool false, .slice none 0 0, .slice none 0 0, .slice none 0 0, .int .i64 0, .slice none 0 0, .slice none 0 0] 32)).drew.heap[w.heap.size + 1]? = some (.cells #[.int .i64 0, .bool false, .slice none 0 0, .slice none 0 0, .slice none 0 0, .int .i64 0, .slice none 0 0, .slice none 0 0] 32 (0, 0)) := blk_new (by simp)
  have hbd : Below w.heap.size w ((w.alloc (.cells #[.int .i64 n, .bool op, (.slice a2 l2 c2), (.slice a3 l3 c3), (.slice a4 l4 c4), .int .i64 f, (.slice a6 l6 c6), (.slice a7 l7 c7)] 32)).alloc (.cells #[.int .i64 0, .bool false, .slice none 0 0, .slice none 0 0, .slice none 0 0, .int .i64 0, .slice none 0 0, .slice none 0 0] 32)).drew := bel_drew hbz
  go_enter Try.func25, Try.ntmps25
  go_wp2_with fail
  have hXw0 := hX0
  have Yw0 := hY0
  clear hX0 hY0
  refine wp_region_P [10, 12, 14] (fun W => W.cell? ⟨w.heap.size, 2, none⟩ = some (.slice a2 l2 c2) ∧ W.cell? ⟨w.heap.size, 3, none⟩ = some (.slice a3 l3 c3) ∧ W.cell? ⟨w.heap.size, 4, none⟩ = some (.slice a4 l4 c4)) (by kernel_rfl) ?_ (fun hHeld => ?_)
  · (try dsimp only); exact ⟨by first | (with_reducible assumption) | (simp [go_sem, *]; done), by first | (with_reducible assumption) | (simp [go_sem, *]; done), by first | (with_reducible assumption) | (simp [go_sem, *]; done)⟩
  refine wpAnyP_take (i := 0) (v := ?_) (by simp only [gA, gZ, gS]; rfl) (by kernel_rfl) (by kernel_rfl) (by kernel_rfl) (by kernel_rfl) (by intro _ _ _ h; exact h) (Or.inl ⟨by rfl, ?_⟩) (by assumption) ?_
  rotate_left
  · (intro w9 hSw; (try dsimp only at hSw); go_simp <;> with_reducible rfl)
  try simp only [Act.put, tA, tZ, tS]
  refine wpAnyP_take (i := 1) (v := ?_) (by simp only [gA, gZ, gS]; rfl) (by kernel_rfl) (by kernel_rfl) (by kernel_rfl) (by kernel_rfl) (by intro _ _ _ h; exact h) (Or.inl ⟨by rfl, ?_⟩) (by assumption) ?_
  rotate_left
  · (intro w9 hSw; (try dsimp only at hSw); go_simp <;> with_reducible rfl)
  try simp only [Act.put, tA, tZ, tS]
  refine wpAnyP_take (i := 3) (v := ?_) (by simp only [gA, gZ, gS]; rfl) (by kernel_rfl) (by kernel_rfl) (by kernel_rfl) (by kernel_rfl) (by intro _ _ _ h; exact h) (Or.inl ⟨by rfl, ?_⟩) (by assumption) ?_
  rotate_left
  · (intro w9 hSw; (try dsimp only at hSw); go_simp <;> with_reducible rfl)
  try simp only [Act.put, tA, tZ, tS]
  refine wpAnyP_take (i := 4) (v := ?_) (by simp only [gA, gZ, gS]; rfl) (by kernel_rfl) (by kernel_rfl) (by kernel_rfl) (by kernel_rfl) (by intro _ _ _ h; exact h) (Or.inl ⟨by rfl, ?_⟩) (by assumption) ?_
  rotate_left
  · (intro w9 hSw; (try dsimp only at hSw); go_simp <;> with_reducible rfl)
  try simp only [Act.put, tA, tZ, tS]
  refine wpAnyP_take (i := 6) (v := ?_) (by simp only [gA, gZ, gS]; rfl) (by kernel_rfl) (by kernel_rfl) (by kernel_rfl) (by kernel_rfl) (by intro _ _ _ h; exact h) (Or.inl ⟨by rfl, ?_⟩) (by assumption) ?_
  rotate_left
  · (intro w9 hSw; (try dsimp only at hSw); go_simp <;> with_reducible rfl)
  try simp only [Act.put, tA, tZ, tS]
  refine wpAnyP_take (i := 7) (v := ?_) (by simp only [gA, gZ, gS]; rfl) (by kernel_rfl) (by kernel_rfl) (by kernel_rfl) (by kernel_rfl) (by intro _ _ _ h; exact h) (Or.inl ⟨by rfl, ?_⟩) (by assumption) ?_
  rotate_left
  · (intro w9 hSw; (try dsimp only at hSw); go_simp <;> with_reducible rfl)
  try simp only [Act.put, tA, tZ, tS]
  refine wpAnyP_ready (rs := [2]) (by kernel_rfl) (by simp) ?_
  refine AllReadyP.cons (by simp only [gA, gZ, gS]; rfl) (fun K hK => ?_) AllReadyP.nil
  go_simp
  (go_at_call 43; refine (cloneIn_any a2 l2 c2 src _ (h2.below hbd) hs2).mono ?_; rintro e' wa ⟨v2, rfl, o2, hwa⟩; obtain ⟨p2, q2, rfl⟩ := sliceC o2; have Xa := hXw0.keep hwa; have Ya := (hwa.block (w.heap.size + 1) (by simp)).trans Yw0; have za : w.heap.size + 2 ≤ wa.heap.size := (by have h9 := hwa.size; (try simp at h9); omega); obtain ⟨⟨_, _, g2, g3, g4, _, _, _⟩, _⟩ := Xa.cells; have Ho2 := hide o2; clear o2)
  (try go_wp2_with fail)
  refine hK.out _ _ ?_ (fun hHeld2 => ?_)
  · (try dsimp only); exact ⟨by first | (with_reducible assumption) | (simp [go_sem, *]; done), by first | (with_reducible assumption) | (simp [go_sem, *]; done), by first | (with_reducible assumption) | (simp [go_sem, *]; done)⟩
  clear hK K hHeld
  have hHeld := hHeld2
  clear hHeld2
  try simp only [Act.put, tA, tZ, tS]
  refine wpAnyP_take0 (i := 9) (v := ?_) (by simp only [gA, gZ, gS]; rfl) (by kernel_rfl) (by kernel_rfl) (by kernel_rfl) (by kernel_rfl) (by intro _ _ _ h; exact h) (Or.inl ⟨by rfl, ?_⟩) (fun _ => by assumption) ?_
  rotate_left
  · (intro w9 hSw; (try dsimp only at hSw); go_simp <;> with_reducible rfl)
  try simp only [Act.put, tA, tZ, tS]
  refine wpAnyP_ready (rs := [5]) (by kernel_rfl) (by simp) ?_
  refine AllReadyP.cons (by simp only [gA, gZ, gS]; rfl) (fun K hK => ?_) AllReadyP.nil
  go_simp
  (go_at_call 44; refine (cloneBo_any a3 l3 c3 tsk _ (h3.below (bel_trans hbd hwa)) hs3).mono ?_; rintro e' wb ⟨v3, rfl, o3, hwb⟩; obtain ⟨p3, q3, rfl⟩ := sliceC o3; have Xb := Xa.keep hwb; have Yb := (hwb.block (w.heap.size + 1) (by omega)).trans Ya; have zb : wa.heap.size ≤ wb.heap.size := hwb.size; clear g2 g3 g4; obtain ⟨⟨_, _, g2, g3, g4, _, _, _⟩, _⟩ := Xb.cells; have Ho3 := hide o3; clear o3)
  (try go_wp2_with fail)
  refine hK.out _ _ ?_ (fun hHeld2 => ?_)
  · (try dsimp only); exact ⟨by first | (with_reducible assumption) | (simp [go_sem, *]; done), by first | (with_reducible assumption) | (simp [go_sem, *]; done), by first | (with_reducible assumption) | (simp [go_sem, *]; done)⟩
  clear hK K hHeld
  have hHeld := hHeld2
  clear hHeld2
  try simp only [Act.put, tA, tZ, tS]
  refine wpAnyP_ready (rs := [8]) (by kernel_rfl) (by simp) ?_
  refine AllReadyP.cons (by simp only [gA, gZ, gS]; rfl) (fun K hK => ?_) AllReadyP.nil
  go_simp
  (go_at_call 45; refine (implsnaps_any a4 l4 c4 Bs sn _ (h4.below (bel_trans hbd (bel_trans hwa hwb))) hs4 hm4).mono ?_; rintro e' wc ⟨v4, s4, rfl, o4, k4, hwc⟩; obtain ⟨p4, q4, rfl⟩ := sliceC o4; have Xc := Xb.keep hwc; have Yc := (hwc.block (w.heap.size + 1) (by omega)).trans Yb; have zc : wb.heap.size ≤ wc.heap.size := hwc.size; clear g2 g3 g4; obtain ⟨⟨_, _, g2, g3, g4, _, _, _⟩, gF⟩ := Xc.cells; have Ho4 := hide o4; have Hk4 := hide k4; clear o4 k4)
  (try go_wp2_with fail)
  refine hK.out _ _ ?_ (fun hHeld2 => ?_)
  · (try dsimp only); exact ⟨by first | (with_reducible assumption) | (simp [go_sem, *]; done), by first | (with_reducible assumption) | (simp [go_sem, *]; done), by first | (with_reducible assumption) | (simp [go_sem, *]; done)⟩
  clear hK K hHeld
  have hHeld := hHeld2
  clear hHeld2
  try simp only [Act.put, tA, tZ, tS]
  have gf2 := gF 2; have gf3 := gF 3; have gf4 := gF 4; clear gF
  refine wpAnyP_ready (rs := [10]) (by kernel_rfl) (by simp) ?_
  refine AllReadyP.consS (by simp only [gA, gZ, gS]; rfl) (by kernel_rfl) (fun K hK => ?_) AllReadyP.nil
  go_simp
  refine hK.out _ _ ?_
  clear hK K
  try simp only [Act.put, tA, tZ, tS]
  refine wpAnyP_take0 (i := 11) (v := ?_) (by simp only [gA, gZ, gS]; rfl) (by kernel_rfl) (by kernel_rfl) (by kernel_rfl) (by kernel_rfl) (by intro _ _ _ h; exact h) (Or.inl ⟨by rfl, ?_⟩) (SL_of (by kernel_rfl)) ?_
  rotate_left
  · (intro w9 hSw; (try dsimp only at hSw); go_simp <;> with_reducible rfl)
  try simp only [Act.put, tA, tZ, tS]
  refine wpAnyP_ready (rs := [12]) (by kernel_rfl) (by simp) ?_
  refine AllReadyP.consS (by simp only [gA, gZ, gS]; rfl) (by kernel_rfl) (fun K hK => ?_) AllReadyP.nil
  go_simp
  refine hK.out _ _ ?_
  clear hK K
  try simp only [Act.put, tA, tZ, tS]
  refine wpAnyP_take0 (i := 13) (v := ?_) (by simp only [gA, gZ, gS]; rfl) (by kernel_rfl) (by kernel_rfl) (by kernel_rfl) (by kernel_rfl) (by intro _ _ _ h; exact h) (Or.inl ⟨by rfl, ?_⟩) (SL_of (by kernel_rfl)) ?_
  rotate_left
  · (intro w9 hSw; (try dsimp only at hSw); go_simp <;> with_reducible rfl)
  try simp only [Act.put, tA, tZ, tS]
  refine wpAnyP_ready (rs := [14]) (by kernel_rfl) (by simp) ?_
  refine AllReadyP.consS (by simp only [gA, gZ, gS]; rfl) (by kernel_rfl) (fun K hK => ?_) AllReadyP.nil
  go_simp
  refine hK.out _ _ ?_
  clear hK K
  try simp only [Act.put, tA, tZ, tS]
  refine wpAnyP_done (by kernel_rfl) ?_ _
  clear hHeld g2 g3 g4 gf2 gf3 gf4
  have X1 : BoxK (((wc.setCell ⟨w.heap.size, 2, none⟩ (.slice p2 l2 q2)).setCell ⟨w.heap.size, 3, none⟩ (.slice p3 l3 q3)).setCell ⟨w.heap.size, 4, none⟩ (.slice p4 s4.length q4)) w.heap.size n op (.slice p2 l2 q2) (.slice p3 l3 q3) (.slice p4 s4.length q4) f (.slice a6 l6 c6) (.slice a7 l7 c7) := ((Xc.set2 _).set3 _).set4 _
  have Y1 : (((wc.setCell ⟨w.heap.size, 2, none⟩ (.slice p2 l2 q2)).setCell ⟨w.heap.size, 3, none⟩ (.slice p3 l3 q3)).setCell ⟨w.heap.size, 4, none⟩ (.slice p4 s4.length q4)).heap[w.heap.size + 1]? = some (.cells #[.int .i64 0, .bool false, .slice none 0 0, .slice none 0 0, .slice none 0 0, .int .i64 0, .slice none 0 0, .slice none 0 0] 32 (0, 0)) := (Below.heap_setCell _ _ _ _ (by simp)).trans ((Below.heap_setCell _ _ _ _ (by simp)).trans ((Below.heap_setCell _ _ _ _ (by simp)).trans Yc))
  have O2 := hide (own_setC (own_setC (own_setC (own_bel (unhide Ho2) (bel_trans hwb hwc)) (p := ⟨w.heap.size, 2, none⟩) (u := .slice p2 l2 q2) (by simp <;> omega)) (p := ⟨w.heap.size, 3, none⟩) (u := .slice p3 l3 q3) (by simp <;> omega)) (p := ⟨w.heap.size, 4, none⟩) (u := .slice p4 s4.length q4) (by simp <;> omega))
  have U2 := hide (under_of (unhide Ho2) (Nat.le_refl _))
  have O3 := hide (own_setC (own_setC (own_setC (own_bel (unhide Ho3) hwc) (p := ⟨w.heap.size, 2, none⟩) (u := .slice p2 l2 q2) (by simp; omega)) (p := ⟨w.heap.size, 3, none⟩) (u := .slice p3 l3 q3) (by simp; omega)) (p := ⟨w.heap.size, 4, none⟩) (u := .slice p4 s4.length q4) (by simp; omega))
  have U3 := hide (under_of (unhide Ho3) (Nat.le_refl _))
  have O4 := hide (own_setC (own_setC (own_setC (unhide Ho4) (p := ⟨w.heap.size, 2, none⟩) (u := .slice p2 l2 q2) (by simp; omega)) (p := ⟨w.heap.size, 3, none⟩) (u := .slice p3 l3 q3) (by simp; omega)) (p := ⟨w.heap.size, 4, none⟩) (u := .slice p4 s4.length q4) (by simp; omega))
  have K4 := hide (((((unhide Hk4).setC (p := ⟨w.heap.size, 2, none⟩) (u := .slice p2 l2 q2) (by simp; omega)).setC (p := ⟨w.heap.size, 3, none⟩) (u := .slice p3 l3 q3) (by simp; omega)).setC (p := ⟨w.heap.size, 4, none⟩) (u := .slice p4 s4.length q4) (by simp; omega)))
  have U4 := hide (under_of (unhide Ho4) (Nat.le_refl _))
  have US4 := hide (underS_of (unhide Hk4) (Nat.le_refl _))
  have hb1 : Below w.heap.size w (((wc.setCell ⟨w.heap.size, 2, none⟩ (.slice p2 l2 q2)).setCell ⟨w.heap.size, 3, none⟩ (.slice p3 l3 q3)).setCell ⟨w.heap.size, 4, none⟩ (.slice p4 s4.length q4)) := bel_set (bel_set (bel_set (bel_trans hbd (bel_trans hwa (bel_trans hwb hwc))) (by simp) _) (by simp) _) (by simp) _
  have z1 : (((wc.setCell ⟨w.heap.size, 2, none⟩ (.slice p2 l2 q2)).setCell ⟨w.heap.size, 3, none⟩ (.slice p3 l3 q3)).setCell ⟨w.heap.size, 4, none⟩ (.slice p4 s4.length q4)).heap.size = wc.heap.size := by simp
  have hbC : Below w.heap.size w wc := bel_trans hbd (bel_trans hwa (bel_trans hwb hwc))
  clear Ho2 Ho3 Ho4 Hk4 Xa Xb Xc Ya Yb Yc hXw0 Yw0
  revert X1 Y1 O2 O3 O4 K4 hb1 z1
  generalize (((wc.setCell ⟨w.heap.size, 2, none⟩ (.slice p2 l2 q2)).setCell ⟨w.heap.size, 3, none⟩ (.slice p3 l3 q3)).setCell ⟨w.heap.size, 4, none⟩ (.slice p4 s4.length q4)) = W1
  intro X1 Y1 O2 O3 O4 K4 hb1 z1
  go_wp2_with fail
  obtain ⟨⟨_, _, _, _, _, _, g6, g7⟩, _⟩ := X1.cells
  refine wp_region_P [10, 13] (fun W => W.cell? ⟨w.heap.size, 6, none⟩ = some (.slice a6 l6 c6) ∧ W.cell? ⟨w.heap.size, 7, none⟩ = some (.slice a7 l7 c7)) (by kernel_rfl) ?_ (fun hHeld => ?_)
  · (try dsimp only); exact ⟨by first | (with_reducible assumption) | (simp [go_sem, *]; done), by first | (with_reducible assumption) | (simp [go_sem, *]; done)⟩
  refine wpAnyP_take (i := 0) (v := ?_) (by simp only [gA, gZ, gS]; rfl) (by kernel_rfl) (by kernel_rfl) (by kernel_rfl) (by kernel_rfl) (by intro _ _ _ h; exact h) (Or.inl ⟨by rfl, ?_⟩) (by assumption) ?_
  rotate_left
  · (intro w9 hSw; (try dsimp only at hSw); go_simp <;> with_reducible rfl)
  try simp only [Act.put, tA, tZ, tS]
  refine wpAnyP_take (i := 1) (v := ?_) (by simp only [gA, gZ, gS]; rfl) (by kernel_rfl) (by kernel_rfl) (by kernel_rfl) (by kernel_rfl) (by intro _ _ _ h; exact h) (Or.inl ⟨by rfl, ?_⟩) (by assumption) ?_
  rotate_left
  · (intro w9 hSw; (try dsimp only at hSw); go_simp <;> with_reducible rfl)
  try simp only [Act.put, tA, tZ, tS]
  refine wpAnyP_take (i := 2) (v := ?_) (by simp only [gA, gZ, gS]; rfl) (by kernel_rfl) (by kernel_rfl) (by kernel_rfl) (by kernel_rfl) (by intro _ _ _ h; exact h) (Or.inl ⟨by rfl, ?_⟩) (by assumption) ?_
  rotate_left
  · (intro w9 hSw; (try dsimp only at hSw); go_simp <;> with_reducible rfl)
  try simp only [Act.put, tA, tZ, tS]
  refine wpAnyP_take (i := 4) (v := ?_) (by simp only [gA, gZ, gS]; rfl) (by kernel_rfl) (by kernel_rfl) (by kernel_rfl) (by kernel_rfl) (by intro _ _ _ h; exact h) (Or.inl ⟨by rfl, ?_⟩) (by assumption) ?_
  rotate_left
  · (intro w9 hSw; (try dsimp only at hSw); go_simp <;> with_reducible rfl)
  try simp only [Act.put, tA, tZ, tS]
  refine wpAnyP_take (i := 5) (v := ?_) (by simp only [gA, gZ, gS]; rfl) (by kernel_rfl) (by kernel_rfl) (by kernel_rfl) (by kernel_rfl) (by intro _ _ _ h; exact h) (Or.inl ⟨by rfl, ?_⟩) (by assumption) ?_
  rotate_left
  · (intro w9 hSw; (try dsimp only at hSw); go_simp <;> with_reducible rfl)
  try simp only [Act.put, tA, tZ, tS]
  refine wpAnyP_take (i := 6) (v := ?_) (by simp only [gA, gZ, gS]; rfl) (by kernel_rfl) (by kernel_rfl) (by kernel_rfl) (by kernel_rfl) (by intro _ _ _ h; exact h) (Or.inl ⟨by rfl, ?_⟩) (by assumption) ?_
  rotate_left
  · (intro w9 hSw; (try dsimp only at hSw); go_simp <;> with_reducible rfl)
  try simp only [Act.put, tA, tZ, tS]
  refine wpAnyP_ready (rs := [3]) (by kernel_rfl) (by simp) ?_
  refine AllReadyP.cons (by simp only [gA, gZ, gS]; rfl) (fun K hK => ?_) AllReadyP.nil
  go_simp
  (go_at_call 43; refine (cloneIn_any a6 l6 c6 at_ _ (h6.below (bel_drew hb1)) hs6).mono ?_; rintro e' wd ⟨v6, rfl, o6, hwd⟩; obtain ⟨p6, q6, rfl⟩ := sliceC o6; have Xd := X1.keep (bel_trans (bel_drew (Below.refl _ _)) hwd); have Yd := (hwd.block (w.heap.size + 1) (by simp; omega)).trans Y1; have zd : wc.heap.size ≤ wd.heap.size := (by have h9 := hwd.size; (try simp at h9); omega); clear g6 g7; obtain ⟨⟨_, _, _, _, _, _, g6, g7⟩, _⟩ := Xd.cells; have Ho6 := hide o6; clear o6)
  (try go_wp2_with fail)
  refine hK.out _ _ ?_ (fun hHeld2 => ?_)
  · (try dsimp only); exact ⟨by first | (with_reducible assumption) | (simp [go_sem, *]; done), by first | (with_reducible assumption) | (simp [go_sem, *]; done)⟩
  clear hK K hHeld
  have hHeld := hHeld2
  clear hHeld2
  try simp only [Act.put, tA, tZ, tS]
  refine wpAnyP_take0 (i := 8) (v := ?_) (by simp only [gA, gZ, gS]; rfl) (by kernel_rfl) (by kernel_rfl) (by kernel_rfl) (by kernel_rfl) (by intro _ _ _ h; exact h) (Or.inl ⟨by rfl, ?_⟩) (fun _ => by assumption) ?_
  rotate_left
  · (intro w9 hSw; (try dsimp only at hSw); go_simp <;> with_reducible rfl)
  try simp only [Act.put, tA, tZ, tS]
  refine wpAnyP_take0 (i := 9) (v := ?_) (by simp only [gA, gZ, gS]; rfl) (by kernel_rfl) (by kernel_rfl) (by kernel_rfl) (by kernel_rfl) (by intro _ _ _ h; exact h) (Or.inl ⟨by rfl, ?_⟩) (fun _ => by assumption) ?_
  rotate_left
  · (intro w9 hSw; (try dsimp only at hSw); go_simp <;> with_reducible rfl)
  try simp only [Act.put, tA, tZ, tS]
  refine wpAnyP_ready (rs := [7]) (by kernel_rfl) (by simp) ?_
  refine AllReadyP.cons (by simp only [gA, gZ, gS]; rfl) (fun K hK => ?_) AllReadyP.nil
  go_simp
  (go_at_call 45; refine (implsnaps_any a7 l7 c7 Bs ssn _ (h7.below (bel_trans (bel_drew hb1) hwd)) hs7 hm7).mono ?_; rintro e' we ⟨v7, s7, rfl, o7, k7, hwe⟩; obtain ⟨p7, q7, rfl⟩ := sliceC o7; have Xe := Xd.keep hwe; have Ye := (hwe.block (w.heap.size + 1) (by omega)).trans Yd; have ze : wd.heap.size ≤ we.heap.size := hwe.size; clear g6 g7; obtain ⟨⟨_, _, _, _, _, _, g6, g7⟩, gF⟩ := Xe.cells; have gf6 := gF 6; have gf7 := gF 7; have Ho7 := hide o7; have Hk7 := hide k7; clear o7 k7 gF)
  (try go_wp2_with fail)
  refine hK.out _ _ ?_ (fun hHeld2 => ?_)
  · (try dsimp only); exact ⟨by first | (with_reducible assumption) | (simp [go_sem, *]; done), by first | (with_reducible assumption) | (simp [go_sem, *]; done)⟩
  clear hK K hHeld
  have hHeld := hHeld2
  clear hHeld2
  try simp only [Act.put, tA, tZ, tS]
  refine wpAnyP_ready (rs := [10]) (by kernel_rfl) (by simp) ?_
  refine AllReadyP.consS (by simp only [gA, gZ, gS]; rfl) (by kernel_rfl) (fun K hK => ?_) AllReadyP.nil
  go_simp
  refine hK.out _ _ ?_
  clear hK K
  try simp only [Act.put, tA, tZ, tS]
  refine wpAnyP_take0 (i := 11) (v := ?_) (by simp only [gA, gZ, gS]; rfl) (by kernel_rfl) (by kernel_rfl) (by kernel_rfl) (by kernel_rfl) (by intro _ _ _ h; exact h) (Or.inl ⟨by rfl, ?_⟩) (SL_of (by kernel_rfl)) ?_
  rotate_left
  · (intro w9 hSw; (try dsimp only at hSw); go_simp <;> with_reducible rfl)
  try simp only [Act.put, tA, tZ, tS]
  refine wpAnyP_take0 (i := 12) (v := ?_) (by simp only [gA, gZ, gS]; rfl) (by kernel_rfl) (by kernel_rfl) (by kernel_rfl) (by kernel_rfl) (by intro _ _ _ h; exact h) (Or.inl ⟨by rfl, ?_⟩) (SL_of (by kernel_rfl)) ?_
  rotate_left
  · (intro w9 hSw; (try dsimp only at hSw); go_simp <;> with_reducible rfl)
  try simp only [Act.put, tA, tZ, tS]
  refine wpAnyP_ready (rs := [13]) (by kernel_rfl) (by simp) ?_
  refine AllReadyP.consS (by simp only [gA, gZ, gS]; rfl) (by kernel_rfl) (fun K hK => ?_) AllReadyP.nil
  go_simp
  refine hK.out _ _ ?_
  clear hK K
  try simp only [Act.put, tA, tZ, tS]
  refine wpAnyP_done (by kernel_rfl) ?_ _
  clear hHeld g6 g7 gf6 gf7
  have X2 : BoxK ((we.setCell ⟨w.heap.size, 6, none⟩ (.slice p6 l6 q6)).setCell ⟨w.heap.size, 7, none⟩ (.slice p7 s7.length q7)) w.heap.size n op (.slice p2 l2 q2) (.slice p3 l3 q3) (.slice p4 s4.length q4) f (.slice p6 l6 q6) (.slice p7 s7.length q7) := (Xe.set6 _).set7 _
  have Y2 : ((we.setCell ⟨w.heap.size, 6, none⟩ (.slice p6 l6 q6)).setCell ⟨w.heap.size, 7, none⟩ (.slice p7 s7.length q7)).heap[w.heap.size + 1]? = some (.cells #[.int .i64 0, .bool false, .slice none 0 0, .slice none 0 0, .slice none 0 0, .int .i64 0, .slice none 0 0, .slice none 0 0] 32 (0, 0)) := (Below.heap_setCell _ _ _ _ (by simp)).trans ((Below.heap_setCell _ _ _ _ (by simp)).trans Ye)
  have hde : Below W1.heap.size W1 we := bel_trans (bel_drew (Below.refl _ _)) (bel_trans hwd hwe)
  have CK : CkOwn we (w.heap.size + 2) src tsk sn at_ ssn (.slice p2 l2 q2) (.slice p3 l3 q3) (.slice p4 s4.length q4) (.slice p6 l6 q6) (.slice p7 s7.length q7) s4 s7 wa.heap.size wb.heap.size wc.heap.size wd.heap.size := by
    refine ⟨⟨za, zb, zc, zd⟩, ?_, unhide U2, ?_, unhide U3, own_bel (unhide O4) hde, (unhide K4).below hde, unhide U4, unhide US4, ?_, under_of (unhide Ho6) (Nat.le_refl _), unhide Ho7, unhide Hk7⟩
    · rw [e2]; exact own_bel (World.ownsRow.mono (unhide O2) (by simp)) hde
    · rw [e3]; exact own_bel (unhide O3) hde
    · rw [e6]; exact own_bel (World.ownsRow.mono (unhide Ho6) (by simp; omega)) hwe
  have CK2 : CkOwn ((we.setCell ⟨w.heap.size, 6, none⟩ (.slice p6 l6 q6)).setCell ⟨w.heap.size, 7, none⟩ (.slice p7 s7.length q7)) (w.heap.size + 2) src tsk sn at_ ssn (.slice p2 l2 q2) (.slice p3 l3 q3) (.slice p4 s4.length q4) (.slice p6 l6 q6) (.slice p7 s7.length q7) s4 s7 wa.heap.size wb.heap.size wc.heap.size wd.heap.size := (CK.setC (by simp)).setC (by simp)
  have hb2 : Below w.heap.size w ((we.setCell ⟨w.heap.size, 6, none⟩ (.slice p6 l6 q6)).setCell ⟨w.heap.size, 7, none⟩ (.slice p7 s7.length q7)) := bel_set (bel_set (bel_trans hb1 hde) (by simp) _) (by simp) _
  have HC := hide CK2
  clear CK CK2 U2 U3 O2 O3 O4 K4 U4 US4 Ho6 Ho7 Hk7 Xd Xe Yd Ye X1 Y1 hde
  revert X2 Y2 HC hb2
  generalize ((we.setCell ⟨w.heap.size, 6, none⟩ (.slice p6 l6 q6)).setCell ⟨w.heap.size, 7, none⟩ (.slice p7 s7.length q7)) = W2
  intro X2 Y2 hb2 HC
  obtain ⟨⟨g0, g1, g2, g3, g4, g5, g6, g7⟩, _⟩ := X2.cells
  have X3 : BoxK W2 (w.heap.size + 1) 0 false (.slice none 0 0) (.slice none 0 0) (.slice none 0 0) 0 (.slice none 0 0) (.slice none 0 0) := Y2
  obtain ⟨⟨r0, r1, r2, r3, r4, r5, r6, r7⟩, rF⟩ := X3.cells
  have f0 := rF 0
  have f1 := rF 1
  have f2 := rF 2
  have f3 := rF 3
  have f4 := rF 4
  have f5 := rF 5
  have f6 := rF 6
  have f7 := rF 7
  clear rF X2 X3 Y2
  go_wp2
  refine bodyPost_ret (v := .agg #[.int .i64 n, .bool op, .slice p2 l2 q2, .slice p3 l3 q3, .slice p4 s4.length q4, .int .i64 f, .slice p6 l6 q6, .slice p7 s7.length q7]) (by simp (maxDischargeDepth := 9) [results, Try.results25, go_sem, *]) rfl ⟨_, _, _, _, _, s4, s7, wa.heap.size, wb.heap.size, wc.heap.size, wd.heap.size, rfl, ?_, ?_⟩
  · have HC2 : CkOwn W2 w.heap.size src tsk sn at_ ssn (.slice p2 l2 q2) (.slice p3 l3 q3) (.slice p4 s4.length q4) (.slice p6 l6 q6) (.slice p7 s7.length q7) s4 s7 wa.heap.size wb.heap.size wc.heap.size wd.heap.size := by
      have h9 := unhide HC
      exact ⟨⟨by omega, h9.le.2⟩, World.ownsRow.mono h9.o2 (by omega), h9.u2, h9.o3, h9.u3, h9.o4, h9.k4, h9.u4, h9.s4, h9.o6, h9.u6, h9.o7, h9.k7⟩
    have hC2 := unhide HC
    have toW : ∀ W : World, CkOwn W (w.heap.size + 2) src tsk sn at_ ssn (.slice p2 l2 q2) (.slice p3 l3 q3) (.slice p4 s4.length q4) (.slice p6 l6 q6) (.slice p7 s7.length q7) s4 s7 wa.heap.size wb.heap.size wc.heap.size wd.heap.size → CkOwn W w.heap.size src tsk sn at_ ssn (.slice p2 l2 q2) (.slice p3 l3 q3) (.slice p4 s4.length q4) (.slice p6 l6 q6) (.slice p7 s7.length q7) s4 s7 wa.heap.size wb.heap.size wc.heap.size wd.heap.size := fun W h9 => ⟨⟨by omega, h9.le.2⟩, World.ownsRow.mono h9.o2 (by omega), h9.u2, h9.o3, h9.u3, h9.o4, h9.k4, h9.u4, h9.s4, h9.o6, h9.u6, h9.o7, h9.k7⟩
    refine toW _ ?_
    repeat (first | (with_reducible exact hC2) | (with_reducible refine CkOwn.setC ?_ (by simp)))
  · repeat (first | (with_reducible exact hb2) | (with_reducible refine bel_set ?_ (by simp) _))
end Go.Proofs.Ytabphkmhafflbaa
