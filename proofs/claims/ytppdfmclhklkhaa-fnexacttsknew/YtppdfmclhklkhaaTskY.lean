/- Proved here: a new task, in the specification. -/
import Derived.Test.YtppdfmclhklkhaaTskX
import Derived.Test.YtppdfmclhklkhaaOpOkS
namespace Go.Proofs.Ytppdfmclhklkhaa
open Go.ChangeShapes Go.WideShapes Go.ChangeAt Go.RowKit
set_option linter.unusedVariables false

def newB (s t k z p l e v r m : Int) (rows : List OrR) (ms : List Int) : Bool := okOp s t k z p l e v r m rows && decide ((ms.length : Int) = s) && ms.all okMk
def newD (b : Bool) (ms : List Int) (rows : List OrR) : TkD := if b then ⟨ms.map tiOf, rows, [], []⟩ else ⟨[], [], [], []⟩
def newM (b : Bool) (m : Int) : Int := if b then m else 0
theorem zero_new {w W : World} (hb : Below w.heap.size w W) : NewP w ⟨[], [], [], []⟩ 0 (.returned (.agg #[.slice none 0 0, .int .i64 0, .slice none 0 0, .int .i64 0, .int .i64 0, .slice none 0 0, .slice none 0 0])) W := by
  obtain ⟨ia, ic, oa, oc, e1, e2, h1, h2⟩ := new_is (w := w) (W := W) (iv := .slice none 0 0) (ov := .slice none 0 0) (ms := []) (rows := []) (World.ownsRow_nil _ _ _ _) (World.ownsRow_nil _ _ _ _) (fun b hb => by cases hb) (by simp) (by simp)
  cases e1
  cases e2
  exact ⟨_, 0, _, _, 0, _, ⟨rfl, rfl⟩, rfl, h1, h2, hb⟩
theorem ownKept {S : Nat → Prop} {W W' : World} {B : Nat} {e : TypeId} {size n : Nat} {v : Value} {xs : List Value} (h : W.ownsRow B e size v n xs) (k : Kept S W W') (hs : ∀ b, v.ownBlock = some b → ¬ S b) : W'.ownsRow B e size v n xs := by
  rcases h with ⟨hl, h | ⟨g, cap, cur, rfl, hB, hblk, r⟩⟩
  · exact ⟨hl, Or.inl h⟩
  · exact ⟨hl, Or.inr ⟨g, cap, cur, rfl, hB, (k.blk g (Array.getElem?_eq_some_iff.1 hblk).1 (hs g rfl)).trans hblk, r⟩⟩
theorem Kept.cell {S : Nat → Prop} {W W' : World} (k : Kept S W W') {b o : Nat} (hb : b < W.heap.size) (hs : ¬ S b) : W'.cell? ⟨b, o, none⟩ = W.cell? ⟨b, o, none⟩ := World.cell?_of_block (k.blk b hb hs)
theorem Kept.frozen {S : Nat → Prop} {W W' : World} (k : Kept S W W') {b o : Nat} (hb : b < W.heap.size) (hs : ¬ S b) : W'.frozen? ⟨b, o, none⟩ = W.frozen? ⟨b, o, none⟩ := World.frozen?_of_block (k.blk b hb hs)
theorem newcells {W : World} {x : Int} {E : Nat} (h0 : W.cell? ⟨E, 0, none⟩ = some (.slice none 0 0)) (h1 : W.cell? ⟨E, 1, none⟩ = some (.int .i64 x)) (h2 : W.cell? ⟨E, 2, none⟩ = some (.bool false)) : ∀ j u, ([.slice none 0 0, .int .i64 x, .bool false] : List Value)[j]? = some u → W.cell? ((⟨E, 0, none⟩ : Addr).add j) = some u := by
  intro j u hj
  have e : ((⟨E, 0, none⟩ : Addr).add j) = ⟨E, j, none⟩ := by
    unfold Addr.add
    split
    · rename_i h0; rw [h0]
    · simp
  rw [e]
  match j, hj with
  | 0, hj => simp at hj; subst hj; exact h0
  | 1, hj => simp at hj; subst hj; exact h1
  | 2, hj => simp at hj; subst hj; exact h2
theorem take_mk {ms : List Int} {k : Nat} {x : Int} (h : ms[k]? = some x) : ms.take (k + 1) = ms.take k ++ [x] := by
  rw [List.take_add_one, h]; rfl

set_option linter.unusedSimpArgs false in
set_option maxRecDepth 20000 in
set_option maxHeartbeats 4000000 in
theorem specnew_any (s t k z p l e : Int) (b : Bool) (v r : Int) (m : Int) (g len cap : Nat) (ma : Option Addr) (ml mc : Nat) (rows : List OrR) (ms : List Int) (w : World) {nb : Bool} (h : OrG w g len rows) (h2 : InRs w ma ml ms) (hl : len ≤ 1048576) (hml : ml ≤ 1048576) (hN : Hid (newB s t k z p l e v r m rows ms = nb)) : Calls Try.prog 8 #[.agg #[.int .i64 s, .int .i64 t, .int .i64 k, .int .i64 z, .int .i64 p, .int .i64 l, .int .i64 e, .bool b, .int .i64 v, .int .i64 r], .agg #[.int .i64 m, .slice (some ⟨g, 0, none⟩) len cap], .slice ma ml mc] w fun e' w' => NewP w (newD nb ms rows) (newM nb m) e' w' := by
  obtain ⟨i0, hi, hz0, hz1, hz2⟩ := info_parts Try.infoTi
  have hN' := unhide hN
  have hmm := h2.2.1
  have hmle := h2.1
  have hrle := h.1
  unfold maxLen at hmm
  have hbb : Below w.heap.size w (((w.alloc (.cells #[.int .i64 s, .int .i64 t, .int .i64 k, .int .i64 z, .int .i64 p, .int .i64 l, .int .i64 e, .bool b, .int .i64 v, .int .i64 r] 40)).alloc (.cells #[.int .i64 m, .slice (some ⟨g, 0, none⟩) len cap] 32)).alloc (.cells #[.slice none 0 0, .int .i64 0, .slice none 0 0, .int .i64 0, .int .i64 0, .slice none 0 0, .slice none 0 0] 38)) := bel_alloc (bel_alloc (bel_one _ _) _) _
  cases q1 : okOp s t k z p l e v r m rows
  · obtain rfl : nb = false := by rw [← hN']; unfold newB; rw [q1]; rfl
    clear hN hN'
    go_enter Try.func8, Try.ntmps8
    go_wp2_with (first
      | (go_at_call 29; refine (specopok_any s t k z p l e b v r m (some ⟨g, 0, none⟩) len cap rows _ (h.rs.below (by repeat (first | (with_reducible exact Below.refl _ _) | (with_reducible assumption) | (with_reducible refine bel_set ?_ (by first | (simp; done) | (simp; omega)) _) | (with_reducible refine bel_alloc ?_ _) | (with_reducible refine bel_drew ?_) | (with_reducible refine bel_drewN ?_ _) | (with_reducible refine bel_trans ?_ (by with_reducible assumption)))))).mono ?_; rintro e' w1 ⟨rfl, hb1⟩; obtain ⟨hc1, hf1, hs1⟩ := bcell hb1; have hz10 : w.heap.size < w1.heap.size := (by have h9 := hb1.size; (try simp at h9); omega); have hz11 : w.heap.size + 1 < w1.heap.size := (by have h9 := hb1.size; (try simp at h9); omega); have hz12 : w.heap.size + 1 + 1 < w1.heap.size := (by have h9 := hb1.size; (try simp at h9); omega)))
    refine bodyPost_ret (v := .agg #[.slice none 0 0, .int .i64 0, .slice none 0 0, .int .i64 0, .int .i64 0, .slice none 0 0, .slice none 0 0]) (by simp (maxDischargeDepth := 9) [results, Try.results8, go_sem, *]) rfl ?_
    exact zero_new (by repeat (first | (with_reducible exact Below.refl _ _) | (with_reducible assumption) | (with_reducible refine bel_set ?_ (by first | (simp; done) | (simp; omega)) _) | (with_reducible refine bel_alloc ?_ _) | (with_reducible refine bel_drew ?_) | (with_reducible refine bel_drewN ?_ _) | (with_reducible refine bel_trans ?_ (by with_reducible assumption))))
  by_cases q2 : (ml : Int) = s
  rotate_left
  · obtain rfl : nb = false := by rw [← hN']; unfold newB; rw [q1, decide_eq_false (show ¬ (ms.length : Int) = s by omega)]; rfl
    have q2' : ((ml : Int) == s) = false := beq_eq_false_iff_ne.2 q2
    have q2n : ((ml : Int) != s) = true := by simp [q2]
    clear hN hN'
    go_enter Try.func8, Try.ntmps8
    go_wp2_with (first
      | (go_at_call 29; refine (specopok_any s t k z p l e b v r m (some ⟨g, 0, none⟩) len cap rows _ (h.rs.below (by repeat (first | (with_reducible exact Below.refl _ _) | (with_reducible assumption) | (with_reducible refine bel_set ?_ (by first | (simp; done) | (simp; omega)) _) | (with_reducible refine bel_alloc ?_ _) | (with_reducible refine bel_drew ?_) | (with_reducible refine bel_drewN ?_ _) | (with_reducible refine bel_trans ?_ (by with_reducible assumption)))))).mono ?_; rintro e' w1 ⟨rfl, hb1⟩; obtain ⟨hc1, hf1, hs1⟩ := bcell hb1; have hz10 : w.heap.size < w1.heap.size := (by have h9 := hb1.size; (try simp at h9); omega); have hz11 : w.heap.size + 1 < w1.heap.size := (by have h9 := hb1.size; (try simp at h9); omega); have hz12 : w.heap.size + 1 + 1 < w1.heap.size := (by have h9 := hb1.size; (try simp at h9); omega)))
    refine bodyPost_ret (v := .agg #[.slice none 0 0, .int .i64 0, .slice none 0 0, .int .i64 0, .int .i64 0, .slice none 0 0, .slice none 0 0]) (by simp (maxDischargeDepth := 9) [results, Try.results8, go_sem, *]) rfl ?_
    exact zero_new (by repeat (first | (with_reducible exact Below.refl _ _) | (with_reducible assumption) | (with_reducible refine bel_set ?_ (by first | (simp; done) | (simp; omega)) _) | (with_reducible refine bel_alloc ?_ _) | (with_reducible refine bel_drew ?_) | (with_reducible refine bel_drewN ?_ _) | (with_reducible refine bel_trans ?_ (by with_reducible assumption))))
  have q2' : ((ml : Int) == s) = true := beq_iff_eq.2 q2
  have q2n : ((ml : Int) != s) = false := by simp [q2]
  have hNm : nb = ms.all okMk := by rw [← hN']; unfold newB; rw [q1, decide_eq_true (show (ms.length : Int) = s by omega)]; rfl
  clear hN hN'
  have HG1 := h.below hbb
  have h2b := h2.below hbb
  go_enter Try.func8, Try.ntmps8
  go_wp2_with fail
  refine (specopok_any s t k z p l e b v r m (some ⟨g, 0, none⟩) len cap rows _ HG1.rs).mono ?_
  rintro e' w1 ⟨rfl, hb1⟩
  have y1 : w.heap.size + 1 + 1 < w1.heap.size := by have h9 := hb1.size; simp at h9; omega
  have x0 : w1.cell? ⟨w.heap.size + 1, 0, none⟩ = some (.int .i64 m) := (hb1.cell (p := ⟨w.heap.size + 1, 0, none⟩) (by simp <;> omega)).trans (by simp [go_sem])
  have x1 : w1.cell? ⟨w.heap.size + 1, 1, none⟩ = some (.slice (some ⟨g, 0, none⟩) len cap) := (hb1.cell (p := ⟨w.heap.size + 1, 1, none⟩) (by simp <;> omega)).trans (by simp [go_sem])
  have xs0 : w1.cell? ⟨w.heap.size, 0, none⟩ = some (.int .i64 s) := (hb1.cell (p := ⟨w.heap.size, 0, none⟩) (by simp <;> omega)).trans (by simp [go_sem])
  go_wp2_with fail
  refine (l7copy_any m g len cap rows _ (HG1.below hb1) hl).mono ?_
  rintro e' w2 ⟨a1, c1, rfl, hO2, hb2⟩
  have hB2 : Below (((w.alloc (.cells #[.int .i64 s, .int .i64 t, .int .i64 k, .int .i64 z, .int .i64 p, .int .i64 l, .int .i64 e, .bool b, .int .i64 v, .int .i64 r] 40)).alloc (.cells #[.int .i64 m, .slice (some ⟨g, 0, none⟩) len cap] 32)).alloc (.cells #[.slice none 0 0, .int .i64 0, .slice none 0 0, .int .i64 0, .int .i64 0, .slice none 0 0, .slice none 0 0] 38)).heap.size (((w.alloc (.cells #[.int .i64 s, .int .i64 t, .int .i64 k, .int .i64 z, .int .i64 p, .int .i64 l, .int .i64 e, .bool b, .int .i64 v, .int .i64 r] 40)).alloc (.cells #[.int .i64 m, .slice (some ⟨g, 0, none⟩) len cap] 32)).alloc (.cells #[.slice none 0 0, .int .i64 0, .slice none 0 0, .int .i64 0, .int .i64 0, .slice none 0 0, .slice none 0 0] 38)) w2 := bel_trans hb1 hb2
  have y2 : w.heap.size + 1 + 1 < w2.heap.size := by have h9 := hb2.size; omega
  have h2c := h2b.below hB2
  have hO2lt := own_lt hO2
  clear x0 x1 xs0 q1 q2n h2b HG1
  go_wp2
  go_loopw [8] (fun i wr => ∃ (k2 : Nat) (ia : Option Addr) (ic : Nat), k2 ≤ ml ∧ i = .int .i64 k2 ∧ Hid ((ms.take k2).all okMk = true) ∧ OwnTi wr (w2.heap.size + 1) (.slice ia k2 ic) (ms.take k2) ∧ (wr.cell? ⟨w2.heap.size, 0, none⟩ = some ((.slice ia k2 ic)) ∧ wr.cell? ⟨w2.heap.size, 1, none⟩ = some (.int .i64 m) ∧ wr.cell? ⟨w2.heap.size, 2, none⟩ = some (.slice a1 len c1) ∧ wr.cell? ⟨w2.heap.size, 3, none⟩ = some (.int .i64 0) ∧ wr.cell? ⟨w2.heap.size, 4, none⟩ = some (.int .i64 0) ∧ wr.cell? ⟨w2.heap.size, 5, none⟩ = some (.slice none 0 0) ∧ wr.cell? ⟨w2.heap.size, 6, none⟩ = some (.slice none 0 0) ∧ wr.frozen? ⟨w2.heap.size, 0, none⟩ = false) ∧ Kept (fun b => b = w2.heap.size) (w2.alloc (.cells #[.slice none 0 0, .int .i64 m, .slice a1 len c1, .int .i64 0, .int .i64 0, .slice none 0 0, .slice none 0 0] 38)) wr) (fun i _ => ml - (intOf i).toNat)
  case atStart => exact ⟨0, none, 0, Nat.zero_le _, rfl, hide (by simp), World.ownsRow_nil _ _ _ _, ⟨by simp [go_sem], by simp [go_sem], by simp [go_sem], by simp [go_sem], by simp [go_sem], by simp [go_sem], by simp [go_sem], by simp [go_sem]⟩, Kept.refl _ _⟩
  case round =>
    obtain ⟨k2, ia, ic, hk2, rfl, hA, hOT, ⟨t0, t1, t2, t3, t4, t5, t6, tf⟩, hK⟩ := hrel
    have hKs : w2.heap.size + 1 ≤ wr.heap.size := by have h9 := hK.size; simp at h9; omega
    have hOld : ∀ b, b < w2.heap.size → wr.heap[b]? = w2.heap[b]? := fun b hb => (hK.blk b (by simp; omega) (by omega)).trans (Below.heap_alloc _ _ _ hb)
    have hcO : ∀ b o, b < w2.heap.size → wr.cell? ⟨b, o, none⟩ = w2.cell? ⟨b, o, none⟩ := fun b o hb => World.cell?_of_block (hOld b hb)
    have hfO : ∀ b o, b < w2.heap.size → wr.frozen? ⟨b, o, none⟩ = w2.frozen? ⟨b, o, none⟩ := fun b o hb => World.frozen?_of_block (hOld b hb)
    have js : wr.cell? ⟨w.heap.size, 0, none⟩ = some (.int .i64 s) := (hcO _ _ (by omega)).trans ((hB2.cell (p := ⟨w.heap.size, 0, none⟩) (by simp <;> omega)).trans (by simp [go_sem]))
    have an0 : wr.cell? ⟨w.heap.size + 1 + 1, 0, none⟩ = some (.slice none 0 0) := (hcO _ _ (by omega)).trans ((hB2.cell (p := ⟨w.heap.size + 1 + 1, 0, none⟩) (by simp)).trans (by simp [go_sem]))
    have af0 : wr.frozen? ⟨w.heap.size + 1 + 1, 0, none⟩ = false := (hfO _ _ (by omega)).trans ((hB2.frozen (p := ⟨w.heap.size + 1 + 1, 0, none⟩) (by simp)).trans (by simp [go_sem]))
    have an1 : wr.cell? ⟨w.heap.size + 1 + 1, 1, none⟩ = some (.int .i64 0) := (hcO _ _ (by omega)).trans ((hB2.cell (p := ⟨w.heap.size + 1 + 1, 1, none⟩) (by simp)).trans (by simp [go_sem]))
    have af1 : wr.frozen? ⟨w.heap.size + 1 + 1, 1, none⟩ = false := (hfO _ _ (by omega)).trans ((hB2.frozen (p := ⟨w.heap.size + 1 + 1, 1, none⟩) (by simp)).trans (by simp [go_sem]))
    have an2 : wr.cell? ⟨w.heap.size + 1 + 1, 2, none⟩ = some (.slice none 0 0) := (hcO _ _ (by omega)).trans ((hB2.cell (p := ⟨w.heap.size + 1 + 1, 2, none⟩) (by simp)).trans (by simp [go_sem]))
    have af2 : wr.frozen? ⟨w.heap.size + 1 + 1, 2, none⟩ = false := (hfO _ _ (by omega)).trans ((hB2.frozen (p := ⟨w.heap.size + 1 + 1, 2, none⟩) (by simp)).trans (by simp [go_sem]))
    have an3 : wr.cell? ⟨w.heap.size + 1 + 1, 3, none⟩ = some (.int .i64 0) := (hcO _ _ (by omega)).trans ((hB2.cell (p := ⟨w.heap.size + 1 + 1, 3, none⟩) (by simp)).trans (by simp [go_sem]))
    have af3 : wr.frozen? ⟨w.heap.size + 1 + 1, 3, none⟩ = false := (hfO _ _ (by omega)).trans ((hB2.frozen (p := ⟨w.heap.size + 1 + 1, 3, none⟩) (by simp)).trans (by simp [go_sem]))
    have an4 : wr.cell? ⟨w.heap.size + 1 + 1, 4, none⟩ = some (.int .i64 0) := (hcO _ _ (by omega)).trans ((hB2.cell (p := ⟨w.heap.size + 1 + 1, 4, none⟩) (by simp)).trans (by simp [go_sem]))
    have af4 : wr.frozen? ⟨w.heap.size + 1 + 1, 4, none⟩ = false := (hfO _ _ (by omega)).trans ((hB2.frozen (p := ⟨w.heap.size + 1 + 1, 4, none⟩) (by simp)).trans (by simp [go_sem]))
    have an5 : wr.cell? ⟨w.heap.size + 1 + 1, 5, none⟩ = some (.slice none 0 0) := (hcO _ _ (by omega)).trans ((hB2.cell (p := ⟨w.heap.size + 1 + 1, 5, none⟩) (by simp)).trans (by simp [go_sem]))
    have af5 : wr.frozen? ⟨w.heap.size + 1 + 1, 5, none⟩ = false := (hfO _ _ (by omega)).trans ((hB2.frozen (p := ⟨w.heap.size + 1 + 1, 5, none⟩) (by simp)).trans (by simp [go_sem]))
    have an6 : wr.cell? ⟨w.heap.size + 1 + 1, 6, none⟩ = some (.slice none 0 0) := (hcO _ _ (by omega)).trans ((hB2.cell (p := ⟨w.heap.size + 1 + 1, 6, none⟩) (by simp)).trans (by simp [go_sem]))
    have af6 : wr.frozen? ⟨w.heap.size + 1 + 1, 6, none⟩ = false := (hfO _ _ (by omega)).trans ((hB2.frozen (p := ⟨w.heap.size + 1 + 1, 6, none⟩) (by simp)).trans (by simp [go_sem]))
    have hbW : Below w.heap.size w wr := bel_trans hbb (hB2.trans ⟨hK.os, hK.tape, hK.output, by have h9 := hK.size; simp at h9; omega, fun b hb => hOld b (by have h9 := hB2.size; omega)⟩)
    have hzA : w.heap.size + 1 + 1 < wr.heap.size := by omega
    by_cases hlt : k2 < ml
    · obtain ⟨_, _, hx⟩ := h2c
      obtain ⟨g2, o2, rfl, hr⟩ := hx.resolve_left (by omega)
      obtain ⟨x, hxk⟩ : ∃ x, ms[k2]? = some x := ⟨_, List.getElem?_eq_getElem (by omega)⟩
      have hg2 : g2 < w2.heap.size := hr.lt (by omega)
      have hX := hide hxk
      have hg2r : g2 < wr.heap.size := by omega
      have d0 : wr.cell? ⟨g2, o2 + k2, none⟩ = some (.int .i64 x) := (hcO _ _ hg2).trans (hr k2 _ hxk)
      have hltI : (k2 : Int) < (ml : Int) := by omega
      clear hx hxk hr hcO hfO hOld
      cases hB : inB x 0 1000
      · obtain rfl : nb = false := by rw [hNm]; exact all_ff (p := okMk) (unhide hX) hB
        clear hNm
        go_wp2_with (go_at_call 31; refine (l1In_any _ _ _ _).mono ?_; rintro e' w6 ⟨rfl, hw⟩; obtain rfl := hw.symm; clear hw)
        refine bodyPost_ret (v := .agg #[.slice none 0 0, .int .i64 0, .slice none 0 0, .int .i64 0, .int .i64 0, .slice none 0 0, .slice none 0 0]) (by simp (maxDischargeDepth := 9) [results, Try.results8, go_sem, *]) rfl ?_
        exact zero_new (by repeat (first | (with_reducible exact Below.refl _ _) | (with_reducible assumption) | (with_reducible refine bel_set ?_ (by first | (simp; done) | (simp; omega)) _) | (with_reducible refine bel_alloc ?_ _) | (with_reducible refine bel_drew ?_) | (with_reducible refine bel_drewN ?_ _) | (with_reducible refine bel_trans ?_ (by with_reducible assumption))))
      · have HE : Hid ((ms.take (k2 + 1)).all okMk = true) := hide (all_tt (unhide hA) (unhide hX) hB)
        have HOk : wr.ownsRow (w2.heap.size + 1) 70 3 (.slice ia k2 ic) k2 (flatTi (ms.take k2)) := by have h9 := hOT; unfold OwnTi at h9; rwa [List.length_take, Nat.min_eq_left (by omega)] at h9
        have hge := own_geB HOk
        have hzB : w2.heap.size < wr.heap.size := by omega
        go_wp2_with (go_at_call 31; refine (l1In_any _ _ _ _).mono ?_; rintro e' w6 ⟨rfl, hw⟩; obtain rfl := hw.symm; clear hw)
        refine wp_region_held_drew (S := (fun W => W.cell? ⟨g2, o2 + k2, none⟩ = some (.int .i64 x) ∧ g2 < W.heap.size)) (by kernel_rfl) ?_ (fun hHeld => ?_)
        · (try dsimp only); exact ⟨d0, by simp <;> omega⟩
        refine wpAnyH_take (i := 0) (v := ?_) (by simp only [List.getElem?_toArray, List.getElem?_cons_zero, List.getElem?_cons_succ]; rfl) (by kernel_rfl) (by kernel_rfl) (by kernel_rfl) (by intro _ _ _ h; exact h) (Or.inl ⟨by rfl, ?_⟩) (by assumption) ?_
        rotate_left
        · (intro w9 hSw; (try dsimp only at hSw); go_simp <;> with_reducible rfl)
        try simp only [Act.put, List.setIfInBounds_toArray, List.set_cons_zero, List.set_cons_succ]
        refine wpAnyH_take (i := 2) (v := ?_) (by simp only [List.getElem?_toArray, List.getElem?_cons_zero, List.getElem?_cons_succ]; rfl) (by kernel_rfl) (by kernel_rfl) (by kernel_rfl) (by intro _ _ _ h; exact h) (Or.inl ⟨by rfl, ?_⟩) (by assumption) ?_
        rotate_left
        · (intro w9 hSw; (try dsimp only at hSw); go_simp <;> with_reducible rfl)
        try simp only [Act.put, List.setIfInBounds_toArray, List.set_cons_zero, List.set_cons_succ]
        refine wpAnyH_take (i := 3) (v := ?_) (by simp only [List.getElem?_toArray, List.getElem?_cons_zero, List.getElem?_cons_succ]; rfl) (by kernel_rfl) (by kernel_rfl) (by kernel_rfl) (by intro _ _ _ h; exact h) (Or.inl ⟨by rfl, ?_⟩) (by assumption) ?_
        rotate_left
        · (intro w9 hSw; (try dsimp only at hSw); go_simp <;> with_reducible rfl)
        try simp only [Act.put, List.setIfInBounds_toArray, List.set_cons_zero, List.set_cons_succ]
        refine wpAnyH_take (i := 4) (v := ?_) (by simp only [List.getElem?_toArray, List.getElem?_cons_zero, List.getElem?_cons_succ]; rfl) (by kernel_rfl) (by kernel_rfl) (by kernel_rfl) (by intro _ _ _ h; exact h) (Or.inl ⟨by rfl, ?_⟩) (by assumption) ?_
        rotate_left
        · (intro w9 hSw; (try dsimp only at hSw); go_simp <;> with_reducible rfl)
        try simp only [Act.put, List.setIfInBounds_toArray, List.set_cons_zero, List.set_cons_succ]
        refine wpAnyH_take (i := 5) (v := ?_) (by simp only [List.getElem?_toArray, List.getElem?_cons_zero, List.getElem?_cons_succ]; rfl) (by kernel_rfl) (by kernel_rfl) (by kernel_rfl) (by intro _ _ _ h; exact h) (Or.inl ⟨by rfl, ?_⟩) (by assumption) ?_
        rotate_left
        · (intro w9 hSw; (try dsimp only at hSw); go_simp <;> with_reducible rfl)
        try simp only [Act.put, List.setIfInBounds_toArray, List.set_cons_zero, List.set_cons_succ]
        refine wpAnyH_take (i := 6) (v := ?_) (by simp only [List.getElem?_toArray, List.getElem?_cons_zero, List.getElem?_cons_succ]; rfl) (by kernel_rfl) (by kernel_rfl) (by kernel_rfl) (by intro _ _ _ h; exact h) (Or.inl ⟨by rfl, ?_⟩) (by assumption) ?_
        rotate_left
        · (intro w9 hSw; (try dsimp only at hSw); go_simp <;> with_reducible rfl)
        try simp only [Act.put, List.setIfInBounds_toArray, List.set_cons_zero, List.set_cons_succ]
        refine wpAnyH_ready (rs := [1, 7]) (by kernel_rfl) (by simp) ?_
        refine AllReadyH.cons (by simp only [List.getElem?_toArray, List.getElem?_cons_zero, List.getElem?_cons_succ]; rfl) (fun K hK => ?_) ?_
        · go_simp
          refine hK.out _ _ ?_ (fun hHeld2 => ?_)
          · (try dsimp only); exact ⟨by first | (simp (maxDischargeDepth := 9) [go_sem, *]; done) | assumption, by simp <;> omega⟩
          clear hK K hHeld
          have hHeld := hHeld2
          clear hHeld2
          try simp only [Act.put, List.setIfInBounds_toArray, List.set_cons_zero, List.set_cons_succ]
          refine wpAnyH_ready (rs := [7]) (by kernel_rfl) (by simp) ?_
          refine AllReadyH.cons (by simp only [List.getElem?_toArray, List.getElem?_cons_zero, List.getElem?_cons_succ]; rfl) (fun K hK => ?_) AllReadyH.nil
          go_simp
          refine hK.out _ _ ?_ (fun hHeld2 => ?_)
          · (try dsimp only); exact ⟨by first | (simp (maxDischargeDepth := 9) [go_sem, *]; done) | assumption, by simp <;> omega⟩
          clear hK K hHeld
          have hHeld := hHeld2
          clear hHeld2
          try simp only [Act.put, List.setIfInBounds_toArray, List.set_cons_zero, List.set_cons_succ]
          refine wpAnyH_ready (rs := [8]) (by kernel_rfl) (by simp) ?_
          refine AllReadyH.cons (by simp only [List.getElem?_toArray, List.getElem?_cons_zero, List.getElem?_cons_succ]; rfl) (fun K hK2 => ?_) AllReadyH.nil
          refine step_append_at rfl _ _ 29 rfl (w2.heap.size + 1) 70 i0 _ 3 40 Try.underlying29 hi hz0 hz1 hz2 rfl (by decide) (.slice ia k2 ic) k2 (flatTi (ms.take k2)) rfl (ownBel (HOk) (by repeat (first | (with_reducible exact Below.refl _ _) | (with_reducible assumption) | (with_reducible refine bel_set ?_ (by first | (simp; done) | (simp; omega)) _) | (with_reducible refine bel_alloc ?_ _) | (with_reducible refine bel_drew ?_) | (with_reducible refine bel_drewN ?_ _) | (with_reducible refine bel_trans ?_ (by with_reducible assumption))))) ⟨wr.heap.size, 0, none⟩ 1 1 [.slice none 0 0, .int .i64 x, .bool false] rfl rfl (newcells (by simp [go_sem]) (by simp [go_sem]) (by simp [go_sem])) (by simp [Value.oneCell']) (by unfold maxLen; omega) (by omega) (by simp; omega) ?_
          intro v' w5 hown hgrow _
          obtain ⟨ia', ic', rfl⟩ := sliceOf hown
          have hK5 : Kept (fun b => b = w2.heap.size ∨ wr.heap.size ≤ b ∨ (Value.slice ia k2 ic).ownBlock = some b) wr w5 := ((Kept.of_below (by repeat (first | (with_reducible exact Below.refl _ _) | (with_reducible assumption) | (with_reducible refine bel_set ?_ (by first | (simp; done) | (simp; omega)) _) | (with_reducible refine bel_alloc ?_ _) | (with_reducible refine bel_drew ?_) | (with_reducible refine bel_drewN ?_ _) | (with_reducible refine bel_trans ?_ (by with_reducible assumption))))).trans (Kept.of_grown hgrow (fun b hb => Or.inr (Or.inr hb))))
          have kc : ∀ b o, b < w2.heap.size + 1 → w5.cell? ⟨b, o, none⟩ = wr.cell? ⟨b, o, none⟩ := fun b o hb => World.cell?_of_block ((hgrow.block b (by simp; omega) (fun e => by have := hge b e.symm; omega)).trans (by first | rfl | (simp [World.drew]; done) | exact Below.heap_alloc _ _ _ (by omega)))
          have kf : ∀ b o, b < w2.heap.size + 1 → w5.frozen? ⟨b, o, none⟩ = wr.frozen? ⟨b, o, none⟩ := fun b o hb => World.frozen?_of_block ((hgrow.block b (by simp; omega) (fun e => by have := hge b e.symm; omega)).trans (by first | rfl | (simp [World.drew]; done) | exact Below.heap_alloc _ _ _ (by omega)))
          have u0 := (kc w2.heap.size 0 (by omega)).trans t0
          have uf := (kf w2.heap.size 0 (by omega)).trans tf
          have hz5 : wr.heap.size ≤ w5.heap.size := by have h9 := hgrow.size; simp at h9; omega
          refine hK2.out _ _ ?_ (fun hHeld2 => ?_)
          · exact ⟨(kc _ _ (by omega)).trans d0, by omega⟩
          clear hK2 K hHeld
          have hHeld := hHeld2
          clear hHeld2
          try simp only [Act.put, List.setIfInBounds_toArray, List.set_cons_zero, List.set_cons_succ]
          refine wpAnyH_take (i := 9) (v := ?_) (by simp only [List.getElem?_toArray, List.getElem?_cons_zero, List.getElem?_cons_succ]; rfl) (by kernel_rfl) (by kernel_rfl) (by kernel_rfl) (by intro _ _ _ h; exact h) (Or.inl ⟨by rfl, ?_⟩) (by assumption) ?_
          rotate_left
          · (intro w9 hSw; (try dsimp only at hSw); go_simp <;> with_reducible rfl)
          try simp only [Act.put, List.setIfInBounds_toArray, List.set_cons_zero, List.set_cons_succ]
          refine wpAnyH_ready (rs := [10]) (by kernel_rfl) (by simp) ?_
          refine AllReadyH.cons (by simp only [List.getElem?_toArray, List.getElem?_cons_zero, List.getElem?_cons_succ]; rfl) (fun K hK => ?_) AllReadyH.nil
          go_simp
          refine hK.out _ _ ?_ (fun hHeld2 => ?_)
          · (try dsimp only); exact ⟨by rw [cell_set_ne (by simp; omega)]; exact hHeld.1, by simp [World.setCell]; omega⟩
          clear hK K hHeld
          have hHeld := hHeld2
          clear hHeld2
          try simp only [Act.put, List.setIfInBounds_toArray, List.set_cons_zero, List.set_cons_succ]
          refine wpAnyH_done (by kernel_rfl) ?_ _
          go_wp2
          have hO6 : OwnTi w5 (w2.heap.size + 1) (.slice ia' (k2 + 1) ic') (ms.take (k2 + 1)) := by
            rw [take_mk (unhide hX)]
            refine ownTi_snoc ?_
            rw [List.length_take, Nat.min_eq_left (by omega)]
            exact hown
          have hK6 : Kept (fun b => b = w2.heap.size) (w2.alloc (.cells #[.slice none 0 0, .int .i64 m, .slice a1 len c1, .int .i64 0, .int .i64 0, .slice none 0 0, .slice none 0 0] 38)) w5 := ⟨hgrow.os.trans hK.os, hgrow.tape.trans hK.tape, hgrow.output.trans hK.output, by have h9 := hK.size; omega, fun b hb hS => by
            have hb' : b < w2.heap.size := by simp at hb; omega
            have h7 : w5.heap[b]? = wr.heap[b]? := (hgrow.block b (by simp; omega) (fun e => by have := hge b e.symm; omega)).trans (by first | rfl | (simp [World.drew]; done) | exact Below.heap_alloc _ _ _ (by omega))
            exact h7.trans (hK.blk b hb hS)⟩
          go_roundw
          case rel => exact ⟨k2 + 1, ia', ic', by omega, by go_num, HE, own_set hO6 (fun e => by have := own_geB hO6 _ e; simp at this; omega), ⟨World.cell?_setCell_same' _ _ _ (by rw [u0]; rfl), (Ti_other (by omega)).trans ((kc _ _ (by omega)).trans t1), (Ti_other (by omega)).trans ((kc _ _ (by omega)).trans t2), (Ti_other (by omega)).trans ((kc _ _ (by omega)).trans t3), (Ti_other (by omega)).trans ((kc _ _ (by omega)).trans t4), (Ti_other (by omega)).trans ((kc _ _ (by omega)).trans t5), (Ti_other (by omega)).trans ((kc _ _ (by omega)).trans t6), by rw [← uf]; simp [go_sem]⟩, hK6.set rfl _⟩
          case measure => simp [intOf]; omega
        refine AllReadyH.cons (by simp only [List.getElem?_toArray, List.getElem?_cons_zero, List.getElem?_cons_succ]; rfl) (fun K hK => ?_) ?_
        · go_simp
          refine hK.out _ _ ?_ (fun hHeld2 => ?_)
          · (try dsimp only); exact ⟨by first | (simp (maxDischargeDepth := 9) [go_sem, *]; done) | assumption, by simp <;> omega⟩
          clear hK K hHeld
          have hHeld := hHeld2
          clear hHeld2
          try simp only [Act.put, List.setIfInBounds_toArray, List.set_cons_zero, List.set_cons_succ]
          refine wpAnyH_ready (rs := [1]) (by kernel_rfl) (by simp) ?_
          refine AllReadyH.cons (by simp only [List.getElem?_toArray, List.getElem?_cons_zero, List.getElem?_cons_succ]; rfl) (fun K hK => ?_) AllReadyH.nil
          go_simp
          refine hK.out _ _ ?_ (fun hHeld2 => ?_)
          · (try dsimp only); exact ⟨by first | (simp (maxDischargeDepth := 9) [go_sem, *]; done) | assumption, by simp <;> omega⟩
          clear hK K hHeld
          have hHeld := hHeld2
          clear hHeld2
          try simp only [Act.put, List.setIfInBounds_toArray, List.set_cons_zero, List.set_cons_succ]
          refine wpAnyH_ready (rs := [8]) (by kernel_rfl) (by simp) ?_
          refine AllReadyH.cons (by simp only [List.getElem?_toArray, List.getElem?_cons_zero, List.getElem?_cons_succ]; rfl) (fun K hK2 => ?_) AllReadyH.nil
          refine step_append_at rfl _ _ 29 rfl (w2.heap.size + 1) 70 i0 _ 3 40 Try.underlying29 hi hz0 hz1 hz2 rfl (by decide) (.slice ia k2 ic) k2 (flatTi (ms.take k2)) rfl (ownBel (HOk) (by repeat (first | (with_reducible exact Below.refl _ _) | (with_reducible assumption) | (with_reducible refine bel_set ?_ (by first | (simp; done) | (simp; omega)) _) | (with_reducible refine bel_alloc ?_ _) | (with_reducible refine bel_drew ?_) | (with_reducible refine bel_drewN ?_ _) | (with_reducible refine bel_trans ?_ (by with_reducible assumption))))) ⟨wr.heap.size, 0, none⟩ 1 1 [.slice none 0 0, .int .i64 x, .bool false] rfl rfl (newcells (by simp [go_sem]) (by simp [go_sem]) (by simp [go_sem])) (by simp [Value.oneCell']) (by unfold maxLen; omega) (by omega) (by simp; omega) ?_
          intro v' w5 hown hgrow _
          obtain ⟨ia', ic', rfl⟩ := sliceOf hown
          have hK5 : Kept (fun b => b = w2.heap.size ∨ wr.heap.size ≤ b ∨ (Value.slice ia k2 ic).ownBlock = some b) wr w5 := ((Kept.of_below (by repeat (first | (with_reducible exact Below.refl _ _) | (with_reducible assumption) | (with_reducible refine bel_set ?_ (by first | (simp; done) | (simp; omega)) _) | (with_reducible refine bel_alloc ?_ _) | (with_reducible refine bel_drew ?_) | (with_reducible refine bel_drewN ?_ _) | (with_reducible refine bel_trans ?_ (by with_reducible assumption))))).trans (Kept.of_grown hgrow (fun b hb => Or.inr (Or.inr hb))))
          have kc : ∀ b o, b < w2.heap.size + 1 → w5.cell? ⟨b, o, none⟩ = wr.cell? ⟨b, o, none⟩ := fun b o hb => World.cell?_of_block ((hgrow.block b (by simp; omega) (fun e => by have := hge b e.symm; omega)).trans (by first | rfl | (simp [World.drew]; done) | exact Below.heap_alloc _ _ _ (by omega)))
          have kf : ∀ b o, b < w2.heap.size + 1 → w5.frozen? ⟨b, o, none⟩ = wr.frozen? ⟨b, o, none⟩ := fun b o hb => World.frozen?_of_block ((hgrow.block b (by simp; omega) (fun e => by have := hge b e.symm; omega)).trans (by first | rfl | (simp [World.drew]; done) | exact Below.heap_alloc _ _ _ (by omega)))
          have u0 := (kc w2.heap.size 0 (by omega)).trans t0
          have uf := (kf w2.heap.size 0 (by omega)).trans tf
          have hz5 : wr.heap.size ≤ w5.heap.size := by have h9 := hgrow.size; simp at h9; omega
          refine hK2.out _ _ ?_ (fun hHeld2 => ?_)
          · exact ⟨(kc _ _ (by omega)).trans d0, by omega⟩
          clear hK2 K hHeld
          have hHeld := hHeld2
          clear hHeld2
          try simp only [Act.put, List.setIfInBounds_toArray, List.set_cons_zero, List.set_cons_succ]
          refine wpAnyH_take (i := 9) (v := ?_) (by simp only [List.getElem?_toArray, List.getElem?_cons_zero, List.getElem?_cons_succ]; rfl) (by kernel_rfl) (by kernel_rfl) (by kernel_rfl) (by intro _ _ _ h; exact h) (Or.inl ⟨by rfl, ?_⟩) (by assumption) ?_
          rotate_left
          · (intro w9 hSw; (try dsimp only at hSw); go_simp <;> with_reducible rfl)
          try simp only [Act.put, List.setIfInBounds_toArray, List.set_cons_zero, List.set_cons_succ]
          refine wpAnyH_ready (rs := [10]) (by kernel_rfl) (by simp) ?_
          refine AllReadyH.cons (by simp only [List.getElem?_toArray, List.getElem?_cons_zero, List.getElem?_cons_succ]; rfl) (fun K hK => ?_) AllReadyH.nil
          go_simp
          refine hK.out _ _ ?_ (fun hHeld2 => ?_)
          · (try dsimp only); exact ⟨by rw [cell_set_ne (by simp; omega)]; exact hHeld.1, by simp [World.setCell]; omega⟩
          clear hK K hHeld
          have hHeld := hHeld2
          clear hHeld2
          try simp only [Act.put, List.setIfInBounds_toArray, List.set_cons_zero, List.set_cons_succ]
          refine wpAnyH_done (by kernel_rfl) ?_ _
          go_wp2
          have hO6 : OwnTi w5 (w2.heap.size + 1) (.slice ia' (k2 + 1) ic') (ms.take (k2 + 1)) := by
            rw [take_mk (unhide hX)]
            refine ownTi_snoc ?_
            rw [List.length_take, Nat.min_eq_left (by omega)]
            exact hown
          have hK6 : Kept (fun b => b = w2.heap.size) (w2.alloc (.cells #[.slice none 0 0, .int .i64 m, .slice a1 len c1, .int .i64 0, .int .i64 0, .slice none 0 0, .slice none 0 0] 38)) w5 := ⟨hgrow.os.trans hK.os, hgrow.tape.trans hK.tape, hgrow.output.trans hK.output, by have h9 := hK.size; omega, fun b hb hS => by
            have hb' : b < w2.heap.size := by simp at hb; omega
            have h7 : w5.heap[b]? = wr.heap[b]? := (hgrow.block b (by simp; omega) (fun e => by have := hge b e.symm; omega)).trans (by first | rfl | (simp [World.drew]; done) | exact Below.heap_alloc _ _ _ (by omega))
            exact h7.trans (hK.blk b hb hS)⟩
          go_roundw
          case rel => exact ⟨k2 + 1, ia', ic', by omega, by go_num, HE, own_set hO6 (fun e => by have := own_geB hO6 _ e; simp at this; omega), ⟨World.cell?_setCell_same' _ _ _ (by rw [u0]; rfl), (Ti_other (by omega)).trans ((kc _ _ (by omega)).trans t1), (Ti_other (by omega)).trans ((kc _ _ (by omega)).trans t2), (Ti_other (by omega)).trans ((kc _ _ (by omega)).trans t3), (Ti_other (by omega)).trans ((kc _ _ (by omega)).trans t4), (Ti_other (by omega)).trans ((kc _ _ (by omega)).trans t5), (Ti_other (by omega)).trans ((kc _ _ (by omega)).trans t6), by rw [← uf]; simp [go_sem]⟩, hK6.set rfl _⟩
          case measure => simp [intOf]; omega
        exact AllReadyH.nil
    · obtain rfl : k2 = ml := by omega
      have hall : nb = true := by rw [hNm]; have h9 := unhide hA; rwa [List.take_of_length_le (by omega)] at h9
      subst hall
      clear hNm
      have hOT' : OwnTi wr (w2.heap.size + 1) (.slice ia k2 ic) ms := by have h9 := hOT; rwa [List.take_of_length_le (by omega)] at h9
      have hOO : OwnOr wr w1.heap.size (.slice a1 len c1) rows := by
        have h9 : OwnOr (w2.alloc (.cells #[.slice none 0 0, .int .i64 m, .slice a1 len c1, .int .i64 0, .int .i64 0, .slice none 0 0, .slice none 0 0] 38)) w1.heap.size (.slice a1 len c1) rows := ownBel hO2 (bel_one _ _)
        exact ownKept h9 hK (fun b hb e => by have := hO2lt b hb; omega)
      have hneA : ∀ b, (Value.slice ia k2 ic).ownBlock = some b → w.heap.size + 1 + 1 < b := fun b hb => by have := own_geB hOT' b hb; omega
      have hneO : ∀ b, (Value.slice a1 len c1).ownBlock = some b → w.heap.size + 1 + 1 < b ∧ b < w2.heap.size := fun b hb => ⟨by have := own_geB hOO b hb; omega, hO2lt b hb⟩
      clear hcO hfO hOld
      go_wp2
      have hS1 : OwnTi (((((((wr.setCell ⟨w.heap.size + 1 + 1, 0, none⟩ (.slice ia k2 ic)).setCell ⟨w.heap.size + 1 + 1, 1, none⟩ (.int .i64 m)).setCell ⟨w.heap.size + 1 + 1, 2, none⟩ (.slice a1 len c1)).setCell ⟨w.heap.size + 1 + 1, 3, none⟩ (.int .i64 0)).setCell ⟨w.heap.size + 1 + 1, 4, none⟩ (.int .i64 0)).setCell ⟨w.heap.size + 1 + 1, 5, none⟩ (.slice none 0 0)).setCell ⟨w.heap.size + 1 + 1, 6, none⟩ (.slice none 0 0)) w.heap.size (.slice ia k2 ic) ms := World.ownsRow.mono (own_set (own_set (own_set (own_set (own_set (own_set (own_set hOT' (fun e => by have := hneA _ e; simp at this)) (fun e => by have := hneA _ e; simp at this)) (fun e => by have := hneA _ e; simp at this)) (fun e => by have := hneA _ e; simp at this)) (fun e => by have := hneA _ e; simp at this)) (fun e => by have := hneA _ e; simp at this)) (fun e => by have := hneA _ e; simp at this)) (by omega)
      have hS2 : OwnOr (((((((wr.setCell ⟨w.heap.size + 1 + 1, 0, none⟩ (.slice ia k2 ic)).setCell ⟨w.heap.size + 1 + 1, 1, none⟩ (.int .i64 m)).setCell ⟨w.heap.size + 1 + 1, 2, none⟩ (.slice a1 len c1)).setCell ⟨w.heap.size + 1 + 1, 3, none⟩ (.int .i64 0)).setCell ⟨w.heap.size + 1 + 1, 4, none⟩ (.int .i64 0)).setCell ⟨w.heap.size + 1 + 1, 5, none⟩ (.slice none 0 0)).setCell ⟨w.heap.size + 1 + 1, 6, none⟩ (.slice none 0 0)) w.heap.size (.slice a1 len c1) rows := World.ownsRow.mono (own_set (own_set (own_set (own_set (own_set (own_set (own_set hOO (fun e => by have := (hneO _ e).1; simp at this)) (fun e => by have := (hneO _ e).1; simp at this)) (fun e => by have := (hneO _ e).1; simp at this)) (fun e => by have := (hneO _ e).1; simp at this)) (fun e => by have := (hneO _ e).1; simp at this)) (fun e => by have := (hneO _ e).1; simp at this)) (fun e => by have := (hneO _ e).1; simp at this)) (by omega)
      obtain ⟨ia3, ic3, oa3, oc3, e1, e2, n1, n2⟩ := new_is hS1 hS2 (fun b hb e => by have h7 := own_geB hOT' b hb; have h8 := (hneO b e).2; omega) (by omega) (by omega)
      have q1 : ia3 = ia := by cases e1; rfl
      have q2 : ic3 = ic := by cases e1; rfl
      have q3 : oa3 = a1 := by cases e2; rfl
      have q4 : oc3 = c1 := by cases e2; rfl
      rw [q1, q3, hmle, hrle] at n1
      rw [q1, q2, q3, q4, hmle, hrle] at n2
      refine bodyPost_ret (v := .agg #[.slice ia k2 ic, .int .i64 m, .slice a1 len c1, .int .i64 0, .int .i64 0, .slice none 0 0, .slice none 0 0]) (by simp (maxDischargeDepth := 9) [results, Try.results8, go_sem, *]) rfl ⟨ia, k2, ic, a1, len, c1, ⟨by simp [newD, hmle], by simp [newD, hrle]⟩, rfl, n1, n2, ?_⟩
      exact (by repeat (first | (with_reducible exact Below.refl _ _) | (with_reducible assumption) | (with_reducible refine bel_set ?_ (by first | (simp; done) | (simp; omega)) _) | (with_reducible refine bel_alloc ?_ _) | (with_reducible refine bel_drew ?_) | (with_reducible refine bel_drewN ?_ _) | (with_reducible refine bel_trans ?_ (by with_reducible assumption))))
end Go.Proofs.Ytppdfmclhklkhaa
