/- Laid together: what the claim needs of the texts that were built one by one. -/
import Derived.Test.YtabphkmhafflbaaPkCkpI2
import Derived.Test.YtabphkmhafflbaaPkBase
namespace Go.Proofs.Ytabphkmhafflbaa
open Go.ChangeShapes Go.WideShapes Go.ChangeAt Go.RowKit Go.Deep
set_option linter.unusedVariables false

theorem sbit_any (i : Nat) (hi : i < 3) (b : Nat) (hb : Hid (b = 2 ^ i)) (w : World) : Calls Try.prog 51 #[.int .i64 (i : Int)] w fun e w' => e = .returned (.int .u8 (b : Int)) ∧ w' = w := by
  have hb := unhide hb
  subst hb
  have : i = 0 ∨ i = 1 ∨ i = 2 := by omega
  rcases this with rfl | rfl | rfl
  · go_enter Try.func51, Try.ntmps51
    go_wp2
    go_ret
    exact ⟨rfl, rfl⟩
  · go_enter Try.func51, Try.ntmps51
    go_wp2
    go_ret
    exact ⟨rfl, rfl⟩
  · go_enter Try.func51, Try.ntmps51
    go_wp2
    go_ret
    exact ⟨rfl, rfl⟩

theorem tbit_any (i : Nat) (hi : i < 2) (b : Nat) (hb : Hid (b = 2 ^ (3 + i))) (w : World) : Calls Try.prog 40 #[.int .i64 (i : Int)] w fun e w' => e = .returned (.int .u8 (b : Int)) ∧ w' = w := by
  have hb := unhide hb
  subst hb
  have : i = 0 ∨ i = 1 := by omega
  rcases this with rfl | rfl
  · go_enter Try.func40, Try.ntmps40
    go_wp2
    go_ret
    exact ⟨rfl, rfl⟩
  · go_enter Try.func40, Try.ntmps40
    go_wp2
    go_ret
    exact ⟨rfl, rfl⟩

theorem and_all : (List.range 32).all (fun m => (List.range 32).all fun n => bits .and .u8 (m : Int) (n : Int) == ((m &&& n : Nat) : Int)) = true := by kernel_rfl

theorem or_all : (List.range 32).all (fun m => (List.range 32).all fun n => bits .or .u8 (m : Int) (n : Int) == ((m ||| n : Nat) : Int)) = true := by kernel_rfl

theorem and_u8 {m n : Nat} (hm : m < 32) (hn : n < 32) : bits .and .u8 (m : Int) (n : Int) = ((m &&& n : Nat) : Int) := by
  have h := List.all_eq_true.1 (List.all_eq_true.1 and_all m (List.mem_range.2 hm)) n (List.mem_range.2 hn)
  exact beq_iff_eq.1 h

theorem or_u8 {m n : Nat} (hm : m < 32) (hn : n < 32) : bits .or .u8 (m : Int) (n : Int) = ((m ||| n : Nat) : Int) := by
  have h := List.all_eq_true.1 (List.all_eq_true.1 or_all m (List.mem_range.2 hm)) n (List.mem_range.2 hn)
  exact beq_iff_eq.1 h

theorem has_any (m n : Nat) (hm : m < 32) (hn : n < 32) (w : World) : Calls Try.prog 39 #[.int .u8 (m : Int), .int .u8 (n : Int)] w fun e w' => e = .returned (.bool (decide (m &&& n = n))) ∧ w' = w := by
  have ha := and_u8 hm hn
  go_enter Try.func39, Try.ntmps39
  go_wp2
  go_ret
  refine ⟨ret_b ?_, rfl⟩
  by_cases h : m &&& n = n
  · simp [h]
  · rw [decide_eq_false h]
    exact beq_eq_false_iff_ne.2 (fun e => h (by exact_mod_cast e))

/-- Truth values as bits, from a place on. -/
def bB : Nat → List Bool → Nat
  | _, [] => 0
  | i, b :: r => (if b = true then 2 ^ i else 0) ||| bB (i + 1) r

theorem bB_snoc (i : Nat) (l : List Bool) (b : Bool) : bB i (l ++ [b]) = bB i l ||| (if b = true then 2 ^ (i + l.length) else 0) := by
  induction l generalizing i with
  | nil => simp [bB]
  | cons c r ih => simp only [List.cons_append, bB, ih, Nat.or_assoc, List.length_cons]; rw [show i + 1 + r.length = i + (r.length + 1) by omega]

theorem bB_take {i k : Nat} {l : List Bool} {b : Bool} (h : l[k]? = some b) : bB i (l.take (k + 1)) = bB i (l.take k) ||| (if b = true then 2 ^ (i + k) else 0) := by
  obtain ⟨hk, he⟩ := List.getElem?_eq_some_iff.1 h
  rw [List.take_succ_eq_append_getElem hk, he, bB_snoc, List.length_take, Nat.min_eq_left (by omega)]

/-- All of so many. -/
def evB (s t : Nat) : Nat := bB 0 (List.replicate s true) ||| bB 3 (List.replicate t true)

def BitsP (sb tb : List Bool) : Bool := decide (bB 0 sb ||| bB 3 tb < 32) && (List.range tb.length).all (fun i => decide ((bB 0 sb ||| bB 3 tb) &&& 2 ^ (3 + i) = 2 ^ (3 + i)) == tb.getD i false) && (decide (bB 0 sb ||| bB 3 tb = 0) == (sb.all (!·) && tb.all (!·))) && (decide ((bB 0 sb ||| bB 3 tb) &&& evB sb.length tb.length = evB sb.length tb.length) == (sb.all id && tb.all id))

theorem bits_p (sb tb : List Bool) (h1 : sb.length ≤ 3) (h2 : tb.length ≤ 2) : BitsP sb tb = true := by
  rcases sb with _ | ⟨a, _ | ⟨b, _ | ⟨c, _ | ⟨d, r⟩⟩⟩⟩ <;> rcases tb with _ | ⟨x, _ | ⟨y, _ | ⟨z, q⟩⟩⟩ <;> first
    | (exfalso; simp at h1 h2; done)
    | (exfalso; simp at h1; omega)
    | (exfalso; simp at h2; omega)
    | (clear h1 h2; (try cases a) <;> (try cases b) <;> (try cases c) <;> (try cases x) <;> (try cases y) <;> rfl)

def hasT (m : Int) : Bool := !(m == -1)

/-- Who has told. -/
def toldN (src : List Int) (tsk : List Bool) : Nat := bB 0 (src.map hasT) ||| bB 3 tsk

theorem bB_lt (sb tb : List Bool) (h1 : sb.length ≤ 3) (h2 : tb.length ≤ 2) : bB 0 sb ||| bB 3 tb < 32 := by
  have := bits_p sb tb h1 h2
  simp only [BitsP, Bool.and_eq_true, decide_eq_true_eq] at this
  exact this.1.1.1

theorem told_at {src : List Int} {tsk : List Bool} (h1 : src.length ≤ 3) (h2 : tsk.length ≤ 2) {i : Nat} {b : Bool} (hb : tsk[i]? = some b) : decide (toldN src tsk &&& 2 ^ (3 + i) = 2 ^ (3 + i)) = b := by
  have := bits_p (src.map hasT) tsk (by simpa using h1) h2
  simp only [BitsP, Bool.and_eq_true] at this
  obtain ⟨hk, he⟩ := List.getElem?_eq_some_iff.1 hb
  have h9 := List.all_eq_true.1 this.1.1.2 i (List.mem_range.2 hk)
  have h8 := beq_iff_eq.1 h9
  unfold toldN
  rw [h8]
  simp [List.getD, hb]

theorem told_zero {src : List Int} {tsk : List Bool} (h1 : src.length ≤ 3) (h2 : tsk.length ≤ 2) : decide (toldN src tsk = 0) = ((src.map hasT).all (!·) && tsk.all (!·)) := by
  have := bits_p (src.map hasT) tsk (by simpa using h1) h2
  simp only [BitsP, Bool.and_eq_true] at this
  exact beq_iff_eq.1 this.1.2

theorem told_ev {src : List Int} {tsk : List Bool} (h1 : src.length ≤ 3) (h2 : tsk.length ≤ 2) : decide (toldN src tsk &&& evB src.length tsk.length = evB src.length tsk.length) = ((src.map hasT).all id && tsk.all id) := by
  have := bits_p (src.map hasT) tsk (by simpa using h1) h2
  simp only [BitsP, Bool.and_eq_true, List.length_map] at this
  exact beq_iff_eq.1 this.2

set_option maxRecDepth 20000 in
set_option maxHeartbeats 4000000 in
theorem told_any (x : CkD) (a2 : Option Addr) (l2 c2 : Nat) (a3 : Option Addr) (l3 c3 : Nat) (a4 : Option Addr) (l4 c4 : Nat) (a6 : Option Addr) (l6 c6 : Nat) (a7 : Option Addr) (l7 c7 : Nat) (B : Nat) (w : World) (h2 : InB w B a2 l2 x.src) (h3 : BoB w B a3 l3 x.tsk) (hl2 : l2 ≤ 3) (hl3 : l3 ≤ 2) : Calls Try.prog 38 #[.agg #[.int .i64 x.n, .bool x.op, .slice a2 l2 c2, .slice a3 l3 c3, .slice a4 l4 c4, .int .i64 x.sfn, .slice a6 l6 c6, .slice a7 l7 c7]] w fun e' w' => e' = .returned (.int .u8 (toldN x.src x.tsk : Nat)) ∧ Below w.heap.size w w' := by
  have le2 := h2.len.1
  have le3 := h3.len.1
  have H2 := h2.1.below (bel_one w (.cells #[.int .i64 x.n, .bool x.op, .slice a2 l2 c2, .slice a3 l3 c3, .slice a4 l4 c4, .int .i64 x.sfn, .slice a6 l6 c6, .slice a7 l7 c7] 32))
  have H3 := h3.1.below (bel_one w (.cells #[.int .i64 x.n, .bool x.op, .slice a2 l2 c2, .slice a3 l3 c3, .slice a4 l4 c4, .int .i64 x.sfn, .slice a6 l6 c6, .slice a7 l7 c7] 32))
  go_enter Try.func38, Try.ntmps38
  go_wp2
  go_loopw [3, 11] (fun wv i wr => ∃ ix : Nat, ix ≤ l2 ∧ i = .int .i64 ix ∧ wv = .int .u8 (bB 0 ((x.src.map hasT).take ix) : Nat) ∧ Below (w.alloc (.cells #[.int .i64 x.n, .bool x.op, .slice a2 l2 c2, .slice a3 l3 c3, .slice a4 l4 c4, .int .i64 x.sfn, .slice a6 l6 c6, .slice a7 l7 c7] 32)).heap.size (w.alloc (.cells #[.int .i64 x.n, .bool x.op, .slice a2 l2 c2, .slice a3 l3 c3, .slice a4 l4 c4, .int .i64 x.sfn, .slice a6 l6 c6, .slice a7 l7 c7] 32)) wr) (fun _ i _ => l2 - (intOf i).toNat)
  case atStart => exact ⟨0, Nat.zero_le _, rfl, rfl, Below.refl _ _⟩
  case round =>
    obtain ⟨ix, hk, rfl, rfl, hbw⟩ := hrel
    have tb0 : wr.cell? ⟨w.heap.size, 0, none⟩ = some (.int .i64 x.n) := (hbw.cell (p := ⟨w.heap.size, 0, none⟩) (by simp <;> omega)).trans (by simp [go_sem])
    have tb1 : wr.cell? ⟨w.heap.size, 1, none⟩ = some (.bool x.op) := (hbw.cell (p := ⟨w.heap.size, 1, none⟩) (by simp <;> omega)).trans (by simp [go_sem])
    have tb2 : wr.cell? ⟨w.heap.size, 2, none⟩ = some (.slice a2 l2 c2) := (hbw.cell (p := ⟨w.heap.size, 2, none⟩) (by simp <;> omega)).trans (by simp [go_sem])
    have tb3 : wr.cell? ⟨w.heap.size, 3, none⟩ = some (.slice a3 l3 c3) := (hbw.cell (p := ⟨w.heap.size, 3, none⟩) (by simp <;> omega)).trans (by simp [go_sem])
    have tb4 : wr.cell? ⟨w.heap.size, 4, none⟩ = some (.slice a4 l4 c4) := (hbw.cell (p := ⟨w.heap.size, 4, none⟩) (by simp <;> omega)).trans (by simp [go_sem])
    have tb5 : wr.cell? ⟨w.heap.size, 5, none⟩ = some (.int .i64 x.sfn) := (hbw.cell (p := ⟨w.heap.size, 5, none⟩) (by simp <;> omega)).trans (by simp [go_sem])
    have tb6 : wr.cell? ⟨w.heap.size, 6, none⟩ = some (.slice a6 l6 c6) := (hbw.cell (p := ⟨w.heap.size, 6, none⟩) (by simp <;> omega)).trans (by simp [go_sem])
    have tb7 : wr.cell? ⟨w.heap.size, 7, none⟩ = some (.slice a7 l7 c7) := (hbw.cell (p := ⟨w.heap.size, 7, none⟩) (by simp <;> omega)).trans (by simp [go_sem])
    by_cases hlt : ix < l2
    · obtain ⟨hxl, _, hx⟩ := H2
      obtain ⟨g, o, rfl, hr⟩ := hx.resolve_left (by omega)
      obtain ⟨y, hyk⟩ : ∃ y, x.src[ix]? = some y := ⟨_, List.getElem?_eq_getElem (by omega)⟩
      have d0 := (hbw.cell (p := ⟨g, o + ix, none⟩) (hr.lt (by omega))).trans (hr ix _ hyk)
      have hst := bB_take (i := 0) (l := x.src.map hasT) (k := ix) (b := hasT y) (by rw [List.getElem?_map, hyk]; rfl)
      have hlo : bB 0 ((x.src.map hasT).take ix) < 32 := by have h9 := bB_lt ((x.src.map hasT).take ix) [] (by simp; omega) (by simp); simpa [bB] using h9
      generalize bB 0 ((x.src.map hasT).take ix) = lo at hst hlo
      have HS := hide hst
      clear hx hyk hr hst
      by_cases hm : y = -1
      · subst hm
        have HE : Hid (bB 0 ((x.src.map hasT).take (ix + 1)) = lo) := hide (by rw [unhide HS]; simp [hasT])
        go_wp2
        go_roundw
        case rel => exact ⟨ix + 1, by omega, by go_num, by rw [unhide HE], (belA)⟩
        case measure => simp [intOf]; omega
      · have hm1 : (y == -1) = false := beq_eq_false_iff_ne.2 hm
        have hm2 : (y != -1) = true := by simp [hm]
        have h2i : 2 ^ ix < 32 := by
          have : ix = 0 ∨ ix = 1 ∨ ix = 2 := by omega
          rcases this with rfl | rfl | rfl <;> decide
        obtain ⟨pb, hpb⟩ : ∃ pb : Nat, Hid (pb = 2 ^ ix) := ⟨_, hide rfl⟩
        rw [← unhide hpb] at h2i
        have hor := or_u8 hlo h2i
        have HE : Hid (bB 0 ((x.src.map hasT).take (ix + 1)) = lo ||| pb) := hide (by rw [unhide HS, unhide hpb]; simp [hasT, hm1])
        have HO := hide hor
        clear hor
        go_wp2_with (go_at_call 51; refine (sbit_any ix (by omega) pb hpb _).mono ?_; rintro e' w5 ⟨rfl, hw⟩; obtain rfl := hw.symm; clear hw)
        go_roundw
        case rel => exact ⟨ix + 1, by omega, by go_num, by rw [unhide HE, unhide HO], (belA)⟩
        case measure => simp [intOf]; omega
    · have HE : Hid (bB 0 ((x.src.map hasT).take ix) = bB 0 (x.src.map hasT)) := hide (by rw [List.take_of_length_le (by simp; omega)])
      rw [unhide HE]
      clear HE
      obtain ⟨lo, hlo⟩ : ∃ lo, lo = bB 0 (x.src.map hasT) := ⟨_, rfl⟩
      rw [← hlo]
      have HL := hide hlo
      clear hlo
      obtain ⟨wz, hwz⟩ : ∃ wz, wz = wr := ⟨_, rfl⟩
      subst hwz
      have K3 := H3.below hbw
      have hWz : Below w.heap.size w wz := (belA)
      go_wp2
      go_loopw [3, 26] (fun wv i wr => ∃ ix : Nat, ix ≤ l3 ∧ i = .int .i64 ix ∧ wv = .int .u8 ((lo ||| bB 3 (x.tsk.take ix) : Nat) : Int) ∧ Below wz.heap.size wz wr) (fun _ i _ => l3 - (intOf i).toNat)
      case atStart => exact ⟨0, Nat.zero_le _, rfl, by simp [bB], Below.refl _ _⟩
      case round =>
        obtain ⟨ix, hk, rfl, rfl, hbq⟩ := hrel
        by_cases hlt : ix < l3
        · obtain ⟨hxl, _, hx⟩ := K3
          obtain ⟨g, o, rfl, hr⟩ := hx.resolve_left (by omega)
          obtain ⟨y, hyk⟩ : ∃ y, x.tsk[ix]? = some y := ⟨_, List.getElem?_eq_getElem (by omega)⟩
          have d0 := (hbq.cell (p := ⟨g, o + ix, none⟩) (hr.lt (by omega))).trans (hr ix _ hyk)
          have hst := bB_take (i := 3) hyk
          have hlq : lo ||| bB 3 (x.tsk.take ix) < 32 := by rw [unhide HL]; exact bB_lt _ _ (by simp; omega) (by simp; omega)
          have hst2 : lo ||| bB 3 (x.tsk.take (ix + 1)) = (lo ||| bB 3 (x.tsk.take ix)) ||| (if y = true then 2 ^ (3 + ix) else 0) := by rw [hst, Nat.or_assoc]
          generalize lo ||| bB 3 (x.tsk.take ix) = lq at hst2 hlq
          have HS := hide hst2
          clear hx hyk hr hst hst2
          cases y
          · have HE : Hid (lo ||| bB 3 (x.tsk.take (ix + 1)) = lq) := hide (by rw [unhide HS]; simp)
            go_wp2
            go_roundw
            case rel => exact ⟨ix + 1, by omega, by go_num, by rw [unhide HE], (belA)⟩
            case measure => simp [intOf]; omega
          · have h2i : 2 ^ (3 + ix) < 32 := by
              have : ix = 0 ∨ ix = 1 := by omega
              rcases this with rfl | rfl <;> decide
            obtain ⟨pb, hpb⟩ : ∃ pb : Nat, Hid (pb = 2 ^ (3 + ix)) := ⟨_, hide rfl⟩
            rw [← unhide hpb] at h2i
            have HO := hide (or_u8 hlq h2i)
            have HE : Hid (lo ||| bB 3 (x.tsk.take (ix + 1)) = lq ||| pb) := hide (by rw [unhide HS, unhide hpb]; simp)
            go_wp2_with (go_at_call 40; refine (tbit_any ix (by omega) pb hpb _).mono ?_; rintro e' w5 ⟨rfl, hw⟩; obtain rfl := hw.symm; clear hw)
            go_roundw
            case rel => exact ⟨ix + 1, by omega, by go_num, by rw [unhide HE, unhide HO], (belA)⟩
            case measure => simp [intOf]; omega
        · have HE : Hid ((lo ||| bB 3 (x.tsk.take ix) : Nat) = toldN x.src x.tsk) := hide (by rw [List.take_of_length_le (by omega), unhide HL]; rfl)
          go_wp2
          go_ret
          exact ⟨by rw [← unhide HE]; rfl, (belA)⟩
end Go.Proofs.Ytabphkmhafflbaa
