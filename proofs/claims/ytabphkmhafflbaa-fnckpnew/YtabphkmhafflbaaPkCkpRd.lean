/- Laid together: what the claim needs of the texts that were built one by one. -/
import Derived.Test.YtabphkmhafflbaaPkCkpS3
import Derived.Test.YtabphkmhafflbaaPkCkpI4
import Derived.Test.YtabphkmhafflbaaPkBase
namespace Go.Proofs.Ytabphkmhafflbaa
open Go.ChangeShapes Go.WideShapes Go.ChangeAt Go.RowKit Go.Deep
set_option linter.unusedVariables false

/-- Whether all have told. -/
def notNeg (m : Int) : Bool := !decide (m < 0)

def rdyB (x : CkD) : Bool := x.src.all notNeg && (x.tsk.all id && x.op)

theorem rdy_eq {s t k z p l e v r : Int} {x : CkD} (h : okCk s t k z p l e v r x = true) : (x.op && ((x.src.map hasT).all id && x.tsk.all id)) = rdyB x := by
  have hs := (okCk_and h).2.2.2.2.1
  have e : (x.src.map hasT).all id = x.src.all notNeg := by
    rw [List.all_map]
    apply Bool.eq_iff_iff.2
    rw [List.all_eq_true, List.all_eq_true]
    constructor
    · intro hh m hm
      have h1 := hh m hm
      have h2 := List.all_eq_true.1 hs m hm
      simp only [okSrc, Bool.and_eq_true] at h2
      have h3 := inB_iff.1 h2.1
      simp [hasT] at h1
      simp [notNeg]
      omega
    · intro hh m hm
      have h1 := hh m hm
      simp [notNeg] at h1
      simp [hasT]
      omega
  rw [e]
  unfold rdyB
  cases x.op <;> cases x.src.all notNeg <;> cases x.tsk.all id <;> rfl

theorem evB_rep (n : Nat) (i : Nat) : bB i (List.replicate (n + 1) true) = bB i (List.replicate n true) ||| 2 ^ (i + n) := by
  rw [List.replicate_succ', bB_snoc]
  simp

set_option maxRecDepth 20000 in
set_option maxHeartbeats 2000000 in
theorem everyone_any (sn tn : Nat) (k z p l e : Int) (b : Bool) (v r : Int) (w : World) (hs : sn ≤ 3) (ht : tn ≤ 2) : Calls Try.prog 46 #[.agg #[.int .i64 (sn : Int), .int .i64 (tn : Int), .int .i64 k, .int .i64 z, .int .i64 p, .int .i64 l, .int .i64 e, .bool b, .int .i64 v, .int .i64 r]] w fun e' w' => e' = .returned (.int .u8 (evB sn tn : Nat)) ∧ Below w.heap.size w w' := by
  go_enter Try.func46, Try.ntmps46
  go_wp2
  go_loopw [3, 8] (fun wv i wr => ∃ ix : Nat, ix ≤ sn ∧ i = .int .i64 ix ∧ wv = .int .u8 (bB 0 (List.replicate ix true) : Nat) ∧ Below (w.alloc (.cells #[.int .i64 (sn : Int), .int .i64 (tn : Int), .int .i64 k, .int .i64 z, .int .i64 p, .int .i64 l, .int .i64 e, .bool b, .int .i64 v, .int .i64 r] 24)).heap.size (w.alloc (.cells #[.int .i64 (sn : Int), .int .i64 (tn : Int), .int .i64 k, .int .i64 z, .int .i64 p, .int .i64 l, .int .i64 e, .bool b, .int .i64 v, .int .i64 r] 24)) wr) (fun _ i _ => sn - (intOf i).toNat)
  case atStart => exact ⟨0, Nat.zero_le _, rfl, rfl, Below.refl _ _⟩
  case round =>
    obtain ⟨ix, hk, rfl, rfl, hbw⟩ := hrel
    have tb0 : wr.cell? ⟨w.heap.size, 0, none⟩ = some (.int .i64 (sn : Int)) := (hbw.cell (p := ⟨w.heap.size, 0, none⟩) (by simp <;> omega)).trans (by simp [go_sem])
    have tb1 : wr.cell? ⟨w.heap.size, 1, none⟩ = some (.int .i64 (tn : Int)) := (hbw.cell (p := ⟨w.heap.size, 1, none⟩) (by simp <;> omega)).trans (by simp [go_sem])
    have tb2 : wr.cell? ⟨w.heap.size, 2, none⟩ = some (.int .i64 k) := (hbw.cell (p := ⟨w.heap.size, 2, none⟩) (by simp <;> omega)).trans (by simp [go_sem])
    have tb3 : wr.cell? ⟨w.heap.size, 3, none⟩ = some (.int .i64 z) := (hbw.cell (p := ⟨w.heap.size, 3, none⟩) (by simp <;> omega)).trans (by simp [go_sem])
    have tb4 : wr.cell? ⟨w.heap.size, 4, none⟩ = some (.int .i64 p) := (hbw.cell (p := ⟨w.heap.size, 4, none⟩) (by simp <;> omega)).trans (by simp [go_sem])
    have tb5 : wr.cell? ⟨w.heap.size, 5, none⟩ = some (.int .i64 l) := (hbw.cell (p := ⟨w.heap.size, 5, none⟩) (by simp <;> omega)).trans (by simp [go_sem])
    have tb6 : wr.cell? ⟨w.heap.size, 6, none⟩ = some (.int .i64 e) := (hbw.cell (p := ⟨w.heap.size, 6, none⟩) (by simp <;> omega)).trans (by simp [go_sem])
    have tb7 : wr.cell? ⟨w.heap.size, 7, none⟩ = some (.bool b) := (hbw.cell (p := ⟨w.heap.size, 7, none⟩) (by simp <;> omega)).trans (by simp [go_sem])
    have tb8 : wr.cell? ⟨w.heap.size, 8, none⟩ = some (.int .i64 v) := (hbw.cell (p := ⟨w.heap.size, 8, none⟩) (by simp <;> omega)).trans (by simp [go_sem])
    have tb9 : wr.cell? ⟨w.heap.size, 9, none⟩ = some (.int .i64 r) := (hbw.cell (p := ⟨w.heap.size, 9, none⟩) (by simp <;> omega)).trans (by simp [go_sem])
    by_cases hlt : ix < sn
    · have hlo : bB 0 (List.replicate ix true) < 32 := by have h9 := bB_lt (List.replicate ix true) [] (by simp; omega) (by simp); simpa [bB] using h9
      have hst := evB_rep ix 0
      generalize bB 0 (List.replicate ix true) = lo at hst hlo
      have HS := hide hst
      clear hst
      have h2i : 2 ^ ix < 32 := by
        have : ix = 0 ∨ ix = 1 ∨ ix = 2 := by omega
        rcases this with rfl | rfl | rfl <;> decide
      obtain ⟨pb, hpb⟩ : ∃ pb : Nat, Hid (pb = 2 ^ ix) := ⟨_, hide rfl⟩
      rw [← unhide hpb] at h2i
      have HO := hide (or_u8 hlo h2i)
      have HE : Hid (bB 0 (List.replicate (ix + 1) true) = lo ||| pb) := hide (by rw [unhide HS, unhide hpb, Nat.zero_add])
      go_wp2_with (go_at_call 51; refine (sbit_any ix (by omega) pb hpb _).mono ?_; rintro e' w5 ⟨rfl, hw⟩; obtain rfl := hw.symm; clear hw)
      go_roundw
      case rel => exact ⟨ix + 1, by omega, by go_num, by rw [unhide HE, unhide HO], (belA)⟩
      case measure => simp [intOf]; omega
    · obtain rfl : ix = sn := by omega
      obtain ⟨lo, hlo⟩ : ∃ lo, lo = bB 0 (List.replicate ix true) := ⟨_, rfl⟩
      rw [← hlo]
      have HL := hide hlo
      clear hlo
      obtain ⟨wz, hwz⟩ : ∃ wz, wz = wr := ⟨_, rfl⟩
      subst hwz
      have hWz : Below w.heap.size w wz := (belA)
      go_wp2
      go_loopw [3, 18] (fun wv i wr => ∃ iy : Nat, iy ≤ tn ∧ i = .int .i64 iy ∧ wv = .int .u8 ((lo ||| bB 3 (List.replicate iy true) : Nat) : Int) ∧ Below wz.heap.size wz wr) (fun _ i _ => tn - (intOf i).toNat)
      case atStart => exact ⟨0, Nat.zero_le _, rfl, by simp [bB], Below.refl _ _⟩
      case round =>
        obtain ⟨iy, hk2, rfl, rfl, hbq⟩ := hrel
        by_cases hlt2 : iy < tn
        · have hlq : lo ||| bB 3 (List.replicate iy true) < 32 := by rw [unhide HL]; exact bB_lt _ _ (by simp; omega) (by simp; omega)
          have hst2 : lo ||| bB 3 (List.replicate (iy + 1) true) = (lo ||| bB 3 (List.replicate iy true)) ||| 2 ^ (3 + iy) := by rw [evB_rep iy 3, Nat.or_assoc]
          generalize lo ||| bB 3 (List.replicate iy true) = lq at hst2 hlq
          have HS := hide hst2
          clear hst2
          have h2i : 2 ^ (3 + iy) < 32 := by
            have : iy = 0 ∨ iy = 1 := by omega
            rcases this with rfl | rfl <;> decide
          obtain ⟨pb, hpb⟩ : ∃ pb : Nat, Hid (pb = 2 ^ (3 + iy)) := ⟨_, hide rfl⟩
          rw [← unhide hpb] at h2i
          have HO := hide (or_u8 hlq h2i)
          have HE : Hid (lo ||| bB 3 (List.replicate (iy + 1) true) = lq ||| pb) := hide (by rw [unhide HS, unhide hpb])
          go_wp2_with (go_at_call 40; refine (tbit_any iy (by omega) pb hpb _).mono ?_; rintro e' w5 ⟨rfl, hw⟩; obtain rfl := hw.symm; clear hw)
          go_roundw
          case rel => exact ⟨iy + 1, by omega, by go_num, by rw [unhide HE, unhide HO], (belA)⟩
          case measure => simp [intOf]; omega
        · obtain rfl : iy = tn := by omega
          have HE : Hid ((lo ||| bB 3 (List.replicate iy true) : Nat) = evB ix iy) := hide (by rw [unhide HL]; rfl)
          go_wp2
          go_ret
          exact ⟨by rw [← unhide HE]; rfl, (belA)⟩

theorem hd_8_10 {b0 b1 o0x0 o0x1 o0x2 o0x3 o0x4 o0x5 o0x6 o0x7 o1x0 o1x1 o1x2 o1x3 o1x4 o1x5 o1x6 o1x7 o1x8 o1x9 : Nat} {v0x0 v0x1 v0x2 v0x3 v0x4 v0x5 v0x6 v0x7 v1x0 v1x1 v1x2 v1x3 v1x4 v1x5 v1x6 v1x7 v1x8 v1x9 : Value} {W W' : World} (h : ((W.cell? ⟨b0, o0x0, none⟩ = some (v0x0) ∧ W.cell? ⟨b0, o0x1, none⟩ = some (v0x1) ∧ W.cell? ⟨b0, o0x2, none⟩ = some (v0x2) ∧ W.cell? ⟨b0, o0x3, none⟩ = some (v0x3) ∧ W.cell? ⟨b0, o0x4, none⟩ = some (v0x4) ∧ W.cell? ⟨b0, o0x5, none⟩ = some (v0x5) ∧ W.cell? ⟨b0, o0x6, none⟩ = some (v0x6) ∧ W.cell? ⟨b0, o0x7, none⟩ = some (v0x7) ∧ W.cell? ⟨b1, o1x0, none⟩ = some (v1x0) ∧ W.cell? ⟨b1, o1x1, none⟩ = some (v1x1) ∧ W.cell? ⟨b1, o1x2, none⟩ = some (v1x2) ∧ W.cell? ⟨b1, o1x3, none⟩ = some (v1x3) ∧ W.cell? ⟨b1, o1x4, none⟩ = some (v1x4) ∧ W.cell? ⟨b1, o1x5, none⟩ = some (v1x5) ∧ W.cell? ⟨b1, o1x6, none⟩ = some (v1x6) ∧ W.cell? ⟨b1, o1x7, none⟩ = some (v1x7) ∧ W.cell? ⟨b1, o1x8, none⟩ = some (v1x8) ∧ W.cell? ⟨b1, o1x9, none⟩ = some (v1x9)) ∧ b0 < W.heap.size ∧ b1 < W.heap.size)) (hb : Below W.heap.size W W') : ((W'.cell? ⟨b0, o0x0, none⟩ = some (v0x0) ∧ W'.cell? ⟨b0, o0x1, none⟩ = some (v0x1) ∧ W'.cell? ⟨b0, o0x2, none⟩ = some (v0x2) ∧ W'.cell? ⟨b0, o0x3, none⟩ = some (v0x3) ∧ W'.cell? ⟨b0, o0x4, none⟩ = some (v0x4) ∧ W'.cell? ⟨b0, o0x5, none⟩ = some (v0x5) ∧ W'.cell? ⟨b0, o0x6, none⟩ = some (v0x6) ∧ W'.cell? ⟨b0, o0x7, none⟩ = some (v0x7) ∧ W'.cell? ⟨b1, o1x0, none⟩ = some (v1x0) ∧ W'.cell? ⟨b1, o1x1, none⟩ = some (v1x1) ∧ W'.cell? ⟨b1, o1x2, none⟩ = some (v1x2) ∧ W'.cell? ⟨b1, o1x3, none⟩ = some (v1x3) ∧ W'.cell? ⟨b1, o1x4, none⟩ = some (v1x4) ∧ W'.cell? ⟨b1, o1x5, none⟩ = some (v1x5) ∧ W'.cell? ⟨b1, o1x6, none⟩ = some (v1x6) ∧ W'.cell? ⟨b1, o1x7, none⟩ = some (v1x7) ∧ W'.cell? ⟨b1, o1x8, none⟩ = some (v1x8) ∧ W'.cell? ⟨b1, o1x9, none⟩ = some (v1x9)) ∧ b0 < W'.heap.size ∧ b1 < W'.heap.size) := by
  obtain ⟨⟨h0, h1, h2, h3, h4, h5, h6, h7, h8, h9, h10, h11, h12, h13, h14, h15, h16, h17⟩, s0, s1⟩ := h
  refine ⟨⟨?_, ?_, ?_, ?_, ?_, ?_, ?_, ?_, ?_, ?_, ?_, ?_, ?_, ?_, ?_, ?_, ?_, ?_⟩, Nat.lt_of_lt_of_le s0 hb.size, Nat.lt_of_lt_of_le s1 hb.size⟩
  · rw [hb.cell s0]; exact h0
  · rw [hb.cell s0]; exact h1
  · rw [hb.cell s0]; exact h2
  · rw [hb.cell s0]; exact h3
  · rw [hb.cell s0]; exact h4
  · rw [hb.cell s0]; exact h5
  · rw [hb.cell s0]; exact h6
  · rw [hb.cell s0]; exact h7
  · rw [hb.cell s1]; exact h8
  · rw [hb.cell s1]; exact h9
  · rw [hb.cell s1]; exact h10
  · rw [hb.cell s1]; exact h11
  · rw [hb.cell s1]; exact h12
  · rw [hb.cell s1]; exact h13
  · rw [hb.cell s1]; exact h14
  · rw [hb.cell s1]; exact h15
  · rw [hb.cell s1]; exact h16
  · rw [hb.cell s1]; exact h17

theorem hd_8_10_set {b0 b1 o0x0 o0x1 o0x2 o0x3 o0x4 o0x5 o0x6 o0x7 o1x0 o1x1 o1x2 o1x3 o1x4 o1x5 o1x6 o1x7 o1x8 o1x9 : Nat} {v0x0 v0x1 v0x2 v0x3 v0x4 v0x5 v0x6 v0x7 v1x0 v1x1 v1x2 v1x3 v1x4 v1x5 v1x6 v1x7 v1x8 v1x9 : Value} {W : World} {p : Addr} (h : ((W.cell? ⟨b0, o0x0, none⟩ = some (v0x0) ∧ W.cell? ⟨b0, o0x1, none⟩ = some (v0x1) ∧ W.cell? ⟨b0, o0x2, none⟩ = some (v0x2) ∧ W.cell? ⟨b0, o0x3, none⟩ = some (v0x3) ∧ W.cell? ⟨b0, o0x4, none⟩ = some (v0x4) ∧ W.cell? ⟨b0, o0x5, none⟩ = some (v0x5) ∧ W.cell? ⟨b0, o0x6, none⟩ = some (v0x6) ∧ W.cell? ⟨b0, o0x7, none⟩ = some (v0x7) ∧ W.cell? ⟨b1, o1x0, none⟩ = some (v1x0) ∧ W.cell? ⟨b1, o1x1, none⟩ = some (v1x1) ∧ W.cell? ⟨b1, o1x2, none⟩ = some (v1x2) ∧ W.cell? ⟨b1, o1x3, none⟩ = some (v1x3) ∧ W.cell? ⟨b1, o1x4, none⟩ = some (v1x4) ∧ W.cell? ⟨b1, o1x5, none⟩ = some (v1x5) ∧ W.cell? ⟨b1, o1x6, none⟩ = some (v1x6) ∧ W.cell? ⟨b1, o1x7, none⟩ = some (v1x7) ∧ W.cell? ⟨b1, o1x8, none⟩ = some (v1x8) ∧ W.cell? ⟨b1, o1x9, none⟩ = some (v1x9)) ∧ b0 < W.heap.size ∧ b1 < W.heap.size)) (p0 : p.block ≠ b0) (p1 : p.block ≠ b1) (u : Value) : (((W.setCell p u).cell? ⟨b0, o0x0, none⟩ = some (v0x0) ∧ (W.setCell p u).cell? ⟨b0, o0x1, none⟩ = some (v0x1) ∧ (W.setCell p u).cell? ⟨b0, o0x2, none⟩ = some (v0x2) ∧ (W.setCell p u).cell? ⟨b0, o0x3, none⟩ = some (v0x3) ∧ (W.setCell p u).cell? ⟨b0, o0x4, none⟩ = some (v0x4) ∧ (W.setCell p u).cell? ⟨b0, o0x5, none⟩ = some (v0x5) ∧ (W.setCell p u).cell? ⟨b0, o0x6, none⟩ = some (v0x6) ∧ (W.setCell p u).cell? ⟨b0, o0x7, none⟩ = some (v0x7) ∧ (W.setCell p u).cell? ⟨b1, o1x0, none⟩ = some (v1x0) ∧ (W.setCell p u).cell? ⟨b1, o1x1, none⟩ = some (v1x1) ∧ (W.setCell p u).cell? ⟨b1, o1x2, none⟩ = some (v1x2) ∧ (W.setCell p u).cell? ⟨b1, o1x3, none⟩ = some (v1x3) ∧ (W.setCell p u).cell? ⟨b1, o1x4, none⟩ = some (v1x4) ∧ (W.setCell p u).cell? ⟨b1, o1x5, none⟩ = some (v1x5) ∧ (W.setCell p u).cell? ⟨b1, o1x6, none⟩ = some (v1x6) ∧ (W.setCell p u).cell? ⟨b1, o1x7, none⟩ = some (v1x7) ∧ (W.setCell p u).cell? ⟨b1, o1x8, none⟩ = some (v1x8) ∧ (W.setCell p u).cell? ⟨b1, o1x9, none⟩ = some (v1x9)) ∧ b0 < (W.setCell p u).heap.size ∧ b1 < (W.setCell p u).heap.size) := by
  obtain ⟨⟨h0, h1, h2, h3, h4, h5, h6, h7, h8, h9, h10, h11, h12, h13, h14, h15, h16, h17⟩, s0, s1⟩ := h
  have hb : W.heap.size ≤ (W.setCell p u).heap.size := by simp [World.setCell]
  refine ⟨⟨?_, ?_, ?_, ?_, ?_, ?_, ?_, ?_, ?_, ?_, ?_, ?_, ?_, ?_, ?_, ?_, ?_, ?_⟩, Nat.lt_of_lt_of_le s0 hb, Nat.lt_of_lt_of_le s1 hb⟩
  · rw [cell_set_ne p0]; exact h0
  · rw [cell_set_ne p0]; exact h1
  · rw [cell_set_ne p0]; exact h2
  · rw [cell_set_ne p0]; exact h3
  · rw [cell_set_ne p0]; exact h4
  · rw [cell_set_ne p0]; exact h5
  · rw [cell_set_ne p0]; exact h6
  · rw [cell_set_ne p0]; exact h7
  · rw [cell_set_ne p1]; exact h8
  · rw [cell_set_ne p1]; exact h9
  · rw [cell_set_ne p1]; exact h10
  · rw [cell_set_ne p1]; exact h11
  · rw [cell_set_ne p1]; exact h12
  · rw [cell_set_ne p1]; exact h13
  · rw [cell_set_ne p1]; exact h14
  · rw [cell_set_ne p1]; exact h15
  · rw [cell_set_ne p1]; exact h16
  · rw [cell_set_ne p1]; exact h17

theorem hd_8_10_re {b0 b1 o0x0 o0x1 o0x2 o0x3 o0x4 o0x5 o0x6 o0x7 o1x0 o1x1 o1x2 o1x3 o1x4 o1x5 o1x6 o1x7 o1x8 o1x9 : Nat} {v0x0 v0x1 v0x2 v0x3 v0x4 v0x5 v0x6 v0x7 v1x0 v1x1 v1x2 v1x3 v1x4 v1x5 v1x6 v1x7 v1x8 v1x9 : Value} {W : World} {o o' : Obj} (h : (((W.alloc o).cell? ⟨b0, o0x0, none⟩ = some (v0x0) ∧ (W.alloc o).cell? ⟨b0, o0x1, none⟩ = some (v0x1) ∧ (W.alloc o).cell? ⟨b0, o0x2, none⟩ = some (v0x2) ∧ (W.alloc o).cell? ⟨b0, o0x3, none⟩ = some (v0x3) ∧ (W.alloc o).cell? ⟨b0, o0x4, none⟩ = some (v0x4) ∧ (W.alloc o).cell? ⟨b0, o0x5, none⟩ = some (v0x5) ∧ (W.alloc o).cell? ⟨b0, o0x6, none⟩ = some (v0x6) ∧ (W.alloc o).cell? ⟨b0, o0x7, none⟩ = some (v0x7) ∧ (W.alloc o).cell? ⟨b1, o1x0, none⟩ = some (v1x0) ∧ (W.alloc o).cell? ⟨b1, o1x1, none⟩ = some (v1x1) ∧ (W.alloc o).cell? ⟨b1, o1x2, none⟩ = some (v1x2) ∧ (W.alloc o).cell? ⟨b1, o1x3, none⟩ = some (v1x3) ∧ (W.alloc o).cell? ⟨b1, o1x4, none⟩ = some (v1x4) ∧ (W.alloc o).cell? ⟨b1, o1x5, none⟩ = some (v1x5) ∧ (W.alloc o).cell? ⟨b1, o1x6, none⟩ = some (v1x6) ∧ (W.alloc o).cell? ⟨b1, o1x7, none⟩ = some (v1x7) ∧ (W.alloc o).cell? ⟨b1, o1x8, none⟩ = some (v1x8) ∧ (W.alloc o).cell? ⟨b1, o1x9, none⟩ = some (v1x9)) ∧ b0 < (W.alloc o).heap.size ∧ b1 < (W.alloc o).heap.size)) (p0 : b0 < W.heap.size) (p1 : b1 < W.heap.size) : (((W.alloc o').cell? ⟨b0, o0x0, none⟩ = some (v0x0) ∧ (W.alloc o').cell? ⟨b0, o0x1, none⟩ = some (v0x1) ∧ (W.alloc o').cell? ⟨b0, o0x2, none⟩ = some (v0x2) ∧ (W.alloc o').cell? ⟨b0, o0x3, none⟩ = some (v0x3) ∧ (W.alloc o').cell? ⟨b0, o0x4, none⟩ = some (v0x4) ∧ (W.alloc o').cell? ⟨b0, o0x5, none⟩ = some (v0x5) ∧ (W.alloc o').cell? ⟨b0, o0x6, none⟩ = some (v0x6) ∧ (W.alloc o').cell? ⟨b0, o0x7, none⟩ = some (v0x7) ∧ (W.alloc o').cell? ⟨b1, o1x0, none⟩ = some (v1x0) ∧ (W.alloc o').cell? ⟨b1, o1x1, none⟩ = some (v1x1) ∧ (W.alloc o').cell? ⟨b1, o1x2, none⟩ = some (v1x2) ∧ (W.alloc o').cell? ⟨b1, o1x3, none⟩ = some (v1x3) ∧ (W.alloc o').cell? ⟨b1, o1x4, none⟩ = some (v1x4) ∧ (W.alloc o').cell? ⟨b1, o1x5, none⟩ = some (v1x5) ∧ (W.alloc o').cell? ⟨b1, o1x6, none⟩ = some (v1x6) ∧ (W.alloc o').cell? ⟨b1, o1x7, none⟩ = some (v1x7) ∧ (W.alloc o').cell? ⟨b1, o1x8, none⟩ = some (v1x8) ∧ (W.alloc o').cell? ⟨b1, o1x9, none⟩ = some (v1x9)) ∧ b0 < (W.alloc o').heap.size ∧ b1 < (W.alloc o').heap.size) := by
  obtain ⟨⟨h0, h1, h2, h3, h4, h5, h6, h7, h8, h9, h10, h11, h12, h13, h14, h15, h16, h17⟩, s0, s1⟩ := h
  have hb : Below W.heap.size (W.alloc o) (W.alloc o') := bel_re W o o'
  refine ⟨⟨?_, ?_, ?_, ?_, ?_, ?_, ?_, ?_, ?_, ?_, ?_, ?_, ?_, ?_, ?_, ?_, ?_, ?_⟩, Nat.lt_of_lt_of_le s0 hb.size, Nat.lt_of_lt_of_le s1 hb.size⟩
  · rw [hb.cell p0]; exact h0
  · rw [hb.cell p0]; exact h1
  · rw [hb.cell p0]; exact h2
  · rw [hb.cell p0]; exact h3
  · rw [hb.cell p0]; exact h4
  · rw [hb.cell p0]; exact h5
  · rw [hb.cell p0]; exact h6
  · rw [hb.cell p0]; exact h7
  · rw [hb.cell p1]; exact h8
  · rw [hb.cell p1]; exact h9
  · rw [hb.cell p1]; exact h10
  · rw [hb.cell p1]; exact h11
  · rw [hb.cell p1]; exact h12
  · rw [hb.cell p1]; exact h13
  · rw [hb.cell p1]; exact h14
  · rw [hb.cell p1]; exact h15
  · rw [hb.cell p1]; exact h16
  · rw [hb.cell p1]; exact h17

set_option linter.unusedSimpArgs false in
set_option maxRecDepth 20000 in
set_option maxHeartbeats 4000000 in
theorem isready_any (k z p l e : Int) (b : Bool) (v r : Int) (xn : Int) (xop : Bool) (xsrc : List Int) (xtsk : List Bool) (xsn : List SnD) (xsfn : Int) (xat : List Int) (xssn : List SnD) (a2 : Option Addr) (l2 c2 : Nat) (a3 : Option Addr) (l3 c3 : Nat) (a4 : Option Addr) (l4 c4 : Nat) (a6 : Option Addr) (l6 c6 : Nat) (a7 : Option Addr) (l7 c7 : Nat) (B : Nat) (w : World) (h : CkIs w B a2 l2 a3 l3 a4 l4 a6 l6 a7 l7 ⟨xn, xop, xsrc, xtsk, xsn, xsfn, xat, xssn⟩) (hl2 : l2 ≤ 3) (hl3 : l3 ≤ 2) : Calls Try.prog 26 #[.agg #[.int .i64 xn, .bool xop, .slice a2 l2 c2, .slice a3 l3 c3, .slice a4 l4 c4, .int .i64 xsfn, .slice a6 l6 c6, .slice a7 l7 c7], .agg #[.int .i64 (l2 : Int), .int .i64 (l3 : Int), .int .i64 k, .int .i64 z, .int .i64 p, .int .i64 l, .int .i64 e, .bool b, .int .i64 v, .int .i64 r]] w fun e' w' => e' = .returned (.bool (xop && ((xsrc.map hasT).all id && xtsk.all id))) ∧ Below w.heap.size w w' := by
  have le2 := h.src.len.1
  have le3 := h.tsk.len.1
  dsimp only at le2 le3
  cases xop
  · go_enter Try.func26, Try.ntmps26
    go_wp2_with fail
    refine wp_region_held_drew (S := (fun W => ((W.cell? ⟨w.heap.size, 0, none⟩ = some (.int .i64 xn) ∧ W.cell? ⟨w.heap.size, 1, none⟩ = some (.bool false) ∧ W.cell? ⟨w.heap.size, 2, none⟩ = some (.slice a2 l2 c2) ∧ W.cell? ⟨w.heap.size, 3, none⟩ = some (.slice a3 l3 c3) ∧ W.cell? ⟨w.heap.size, 4, none⟩ = some (.slice a4 l4 c4) ∧ W.cell? ⟨w.heap.size, 5, none⟩ = some (.int .i64 xsfn) ∧ W.cell? ⟨w.heap.size, 6, none⟩ = some (.slice a6 l6 c6) ∧ W.cell? ⟨w.heap.size, 7, none⟩ = some (.slice a7 l7 c7) ∧ W.cell? ⟨w.heap.size + 1, 0, none⟩ = some (.int .i64 (l2 : Int)) ∧ W.cell? ⟨w.heap.size + 1, 1, none⟩ = some (.int .i64 (l3 : Int)) ∧ W.cell? ⟨w.heap.size + 1, 2, none⟩ = some (.int .i64 k) ∧ W.cell? ⟨w.heap.size + 1, 3, none⟩ = some (.int .i64 z) ∧ W.cell? ⟨w.heap.size + 1, 4, none⟩ = some (.int .i64 p) ∧ W.cell? ⟨w.heap.size + 1, 5, none⟩ = some (.int .i64 l) ∧ W.cell? ⟨w.heap.size + 1, 6, none⟩ = some (.int .i64 e) ∧ W.cell? ⟨w.heap.size + 1, 7, none⟩ = some (.bool b) ∧ W.cell? ⟨w.heap.size + 1, 8, none⟩ = some (.int .i64 v) ∧ W.cell? ⟨w.heap.size + 1, 9, none⟩ = some (.int .i64 r)) ∧ w.heap.size < W.heap.size ∧ w.heap.size + 1 < W.heap.size))) (by kernel_rfl) ?_ (fun hHeld => ?_)
    · (try dsimp only); ((first | ((repeat (first | (with_reducible assumption) | (with_reducible refine hd_8_10 ?_ (by with_reducible assumption)) | (with_reducible refine hd_8_10 ?_ (bel_drew (Below.refl _ _))) | (with_reducible exact hd_8_10_re (by with_reducible assumption) (sB) (sB)) | (with_reducible refine hd_8_10 ?_ (bel_one _ _)) | (with_reducible refine hd_8_10_set ?_ (sB) (sB) _))); done) | (refine ⟨⟨?_, ?_, ?_, ?_, ?_, ?_, ?_, ?_, ?_, ?_, ?_, ?_, ?_, ?_, ?_, ?_, ?_, ?_⟩, ?_, ?_⟩ <;> first | (go_keep; done) | (simp; done) | (simp; omega) | omega)))
    refine kT 0 ?_ ?_ ?_
    rotate_left
    · (intro w9 hSw; (try dsimp only at hSw); go_simp <;> with_reducible rfl)
    try simp only [Act.put, tA, tZ, tS]
    refine kT 1 ?_ ?_ ?_
    rotate_left
    · (intro w9 hSw; (try dsimp only at hSw); go_simp <;> with_reducible rfl)
    try simp only [Act.put, tA, tZ, tS]
    refine kT 2 ?_ ?_ ?_
    rotate_left
    · (intro w9 hSw; (try dsimp only at hSw); go_simp <;> with_reducible rfl)
    try simp only [Act.put, tA, tZ, tS]
    refine kU 3 ?_
    try simp only [Act.put, tA, tZ, tS]
    refine kU 4 ?_
    try simp only [Act.put, tA, tZ, tS]
    refine kU 5 ?_
    try simp only [Act.put, tA, tZ, tS]
    refine kU 6 ?_
    try simp only [Act.put, tA, tZ, tS]
    refine kU 7 ?_
    try simp only [Act.put, tA, tZ, tS]
    refine kT 8 ?_ ?_ ?_
    rotate_left
    · (intro w9 hSw; (try dsimp only at hSw); go_simp <;> with_reducible rfl)
    try simp only [Act.put, tA, tZ, tS]
    refine kT 9 ?_ ?_ ?_
    rotate_left
    · (intro w9 hSw; (try dsimp only at hSw); go_simp <;> with_reducible rfl)
    try simp only [Act.put, tA, tZ, tS]
    refine wpAnyH_done (by kernel_rfl) ?_ _
    go_wp2
    go_ret
    exact ⟨rfl, (belA)⟩
  · obtain ⟨tn, HT⟩ : ∃ tn, Hid (tn = toldN xsrc xtsk) := ⟨_, hide rfl⟩
    obtain ⟨ev, HEv⟩ : ∃ ev, Hid (ev = evB l2 l3) := ⟨_, hide rfl⟩
    have ht32 : tn < 32 := by rw [unhide HT]; exact bB_lt _ _ (by simp; omega) (by omega)
    have he32 : ev < 32 := by rw [unhide HEv]; exact bB_lt _ _ (by simp; omega) (by simp; omega)
    have HD : Hid (decide (tn &&& ev = ev) = ((xsrc.map hasT).all id && xtsk.all id)) := hide (by rw [unhide HT, unhide HEv, ← le2, ← le3]; exact told_ev (by omega) (by omega))
    generalize ((xsrc.map hasT).all id && xtsk.all id) = rb at HD ⊢
    go_enter Try.func26, Try.ntmps26
    go_wp2_with fail
    refine wp_region_held_drew (S := (fun W => ((W.cell? ⟨w.heap.size, 0, none⟩ = some (.int .i64 xn) ∧ W.cell? ⟨w.heap.size, 1, none⟩ = some (.bool true) ∧ W.cell? ⟨w.heap.size, 2, none⟩ = some (.slice a2 l2 c2) ∧ W.cell? ⟨w.heap.size, 3, none⟩ = some (.slice a3 l3 c3) ∧ W.cell? ⟨w.heap.size, 4, none⟩ = some (.slice a4 l4 c4) ∧ W.cell? ⟨w.heap.size, 5, none⟩ = some (.int .i64 xsfn) ∧ W.cell? ⟨w.heap.size, 6, none⟩ = some (.slice a6 l6 c6) ∧ W.cell? ⟨w.heap.size, 7, none⟩ = some (.slice a7 l7 c7) ∧ W.cell? ⟨w.heap.size + 1, 0, none⟩ = some (.int .i64 (l2 : Int)) ∧ W.cell? ⟨w.heap.size + 1, 1, none⟩ = some (.int .i64 (l3 : Int)) ∧ W.cell? ⟨w.heap.size + 1, 2, none⟩ = some (.int .i64 k) ∧ W.cell? ⟨w.heap.size + 1, 3, none⟩ = some (.int .i64 z) ∧ W.cell? ⟨w.heap.size + 1, 4, none⟩ = some (.int .i64 p) ∧ W.cell? ⟨w.heap.size + 1, 5, none⟩ = some (.int .i64 l) ∧ W.cell? ⟨w.heap.size + 1, 6, none⟩ = some (.int .i64 e) ∧ W.cell? ⟨w.heap.size + 1, 7, none⟩ = some (.bool b) ∧ W.cell? ⟨w.heap.size + 1, 8, none⟩ = some (.int .i64 v) ∧ W.cell? ⟨w.heap.size + 1, 9, none⟩ = some (.int .i64 r)) ∧ w.heap.size < W.heap.size ∧ w.heap.size + 1 < W.heap.size))) (by kernel_rfl) ?_ (fun hHeld => ?_)
    · (try dsimp only); ((first | ((repeat (first | (with_reducible assumption) | (with_reducible refine hd_8_10 ?_ (by with_reducible assumption)) | (with_reducible refine hd_8_10 ?_ (bel_drew (Below.refl _ _))) | (with_reducible exact hd_8_10_re (by with_reducible assumption) (sB) (sB)) | (with_reducible refine hd_8_10 ?_ (bel_one _ _)) | (with_reducible refine hd_8_10_set ?_ (sB) (sB) _))); done) | (refine ⟨⟨?_, ?_, ?_, ?_, ?_, ?_, ?_, ?_, ?_, ?_, ?_, ?_, ?_, ?_, ?_, ?_, ?_, ?_⟩, ?_, ?_⟩ <;> first | (go_keep; done) | (simp; done) | (simp; omega) | omega)))
    refine kT 0 ?_ ?_ ?_
    rotate_left
    · (intro w9 hSw; (try dsimp only at hSw); go_simp <;> with_reducible rfl)
    try simp only [Act.put, tA, tZ, tS]
    refine kT 1 ?_ ?_ ?_
    rotate_left
    · (intro w9 hSw; (try dsimp only at hSw); go_simp <;> with_reducible rfl)
    try simp only [Act.put, tA, tZ, tS]
    refine kT 2 ?_ ?_ ?_
    rotate_left
    · (intro w9 hSw; (try dsimp only at hSw); go_simp <;> with_reducible rfl)
    try simp only [Act.put, tA, tZ, tS]
    refine kT 3 ?_ ?_ ?_
    rotate_left
    · (intro w9 hSw; (try dsimp only at hSw); go_simp <;> with_reducible rfl)
    try simp only [Act.put, tA, tZ, tS]
    refine kT 5 ?_ ?_ ?_
    rotate_left
    · (intro w9 hSw; (try dsimp only at hSw); go_simp <;> with_reducible rfl)
    try simp only [Act.put, tA, tZ, tS]
    refine wpAnyH_ready (rs := [4]) (by kernel_rfl) (by simp) ?_
    refine AllReadyH.cons (by simp only [gA, gZ, gS]; rfl) (fun K hK => ?_) AllReadyH.nil
    go_simp
    (go_at_call 38; refine (told_any ⟨xn, true, xsrc, xtsk, xsn, xsfn, xat, xssn⟩ a2 l2 c2 a3 l3 c3 a4 l4 c4 a6 l6 c6 a7 l7 c7 B _ (h.src.below (belA)) (h.tsk.below (belA)) hl2 hl3).mono ?_; rw [← unhide HT]; rintro e' y1 ⟨rfl, hb⟩; obtain ⟨hc, hf, hs⟩ := bcell hb)
    (try go_wp2_with fail)
    refine hK.out _ _ ?_ (fun hHeld2 => ?_)
    · (try dsimp only); ((first | ((repeat (first | (with_reducible assumption) | (with_reducible refine hd_8_10 ?_ (by with_reducible assumption)) | (with_reducible refine hd_8_10 ?_ (bel_drew (Below.refl _ _))) | (with_reducible exact hd_8_10_re (by with_reducible assumption) (sB) (sB)) | (with_reducible refine hd_8_10 ?_ (bel_one _ _)) | (with_reducible refine hd_8_10_set ?_ (sB) (sB) _))); done) | (refine ⟨⟨?_, ?_, ?_, ?_, ?_, ?_, ?_, ?_, ?_, ?_, ?_, ?_, ?_, ?_, ?_, ?_, ?_, ?_⟩, ?_, ?_⟩ <;> first | (go_keep; done) | (simp; done) | (simp; omega) | omega)))
    clear hK K hHeld
    have hHeld := hHeld2
    clear hHeld2
    try simp only [Act.put, tA, tZ, tS]
    refine wpAnyH_ready (rs := [6]) (by kernel_rfl) (by simp) ?_
    refine AllReadyH.cons (by simp only [gA, gZ, gS]; rfl) (fun K hK => ?_) AllReadyH.nil
    go_simp
    (go_at_call 46; refine (everyone_any l2 l3 k z p l e b v r _ hl2 hl3).mono ?_; rw [← unhide HEv]; rintro e' y2 ⟨rfl, hb⟩; obtain ⟨hc, hf, hs⟩ := bcell hb)
    (try go_wp2_with fail)
    refine hK.out _ _ ?_ (fun hHeld2 => ?_)
    · (try dsimp only); ((first | ((repeat (first | (with_reducible assumption) | (with_reducible refine hd_8_10 ?_ (by with_reducible assumption)) | (with_reducible refine hd_8_10 ?_ (bel_drew (Below.refl _ _))) | (with_reducible exact hd_8_10_re (by with_reducible assumption) (sB) (sB)) | (with_reducible refine hd_8_10 ?_ (bel_one _ _)) | (with_reducible refine hd_8_10_set ?_ (sB) (sB) _))); done) | (refine ⟨⟨?_, ?_, ?_, ?_, ?_, ?_, ?_, ?_, ?_, ?_, ?_, ?_, ?_, ?_, ?_, ?_, ?_, ?_⟩, ?_, ?_⟩ <;> first | (go_keep; done) | (simp; done) | (simp; omega) | omega)))
    clear hK K hHeld
    have hHeld := hHeld2
    clear hHeld2
    try simp only [Act.put, tA, tZ, tS]
    refine wpAnyH_ready (rs := [7]) (by kernel_rfl) (by simp) ?_
    refine AllReadyH.cons (by simp only [gA, gZ, gS]; rfl) (fun K hK => ?_) AllReadyH.nil
    go_simp
    (go_at_call 39; refine (has_any tn ev ht32 he32 _).mono ?_; rw [unhide HD]; rintro e' y3 ⟨rfl, hw⟩; obtain rfl := hw.symm; clear hw)
    (try go_wp2_with fail)
    refine hK.out _ _ ?_ (fun hHeld2 => ?_)
    · (try dsimp only); ((first | ((repeat (first | (with_reducible assumption) | (with_reducible refine hd_8_10 ?_ (by with_reducible assumption)) | (with_reducible refine hd_8_10 ?_ (bel_drew (Below.refl _ _))) | (with_reducible exact hd_8_10_re (by with_reducible assumption) (sB) (sB)) | (with_reducible refine hd_8_10 ?_ (bel_one _ _)) | (with_reducible refine hd_8_10_set ?_ (sB) (sB) _))); done) | (refine ⟨⟨?_, ?_, ?_, ?_, ?_, ?_, ?_, ?_, ?_, ?_, ?_, ?_, ?_, ?_, ?_, ?_, ?_, ?_⟩, ?_, ?_⟩ <;> first | (go_keep; done) | (simp; done) | (simp; omega) | omega)))
    clear hK K hHeld
    have hHeld := hHeld2
    clear hHeld2
    try simp only [Act.put, tA, tZ, tS]
    refine kT 8 ?_ ?_ ?_
    rotate_left
    · (intro w9 hSw; (try dsimp only at hSw); go_simp <;> with_reducible rfl)
    try simp only [Act.put, tA, tZ, tS]
    refine kT 9 ?_ ?_ ?_
    rotate_left
    · (intro w9 hSw; (try dsimp only at hSw); go_simp <;> with_reducible rfl)
    try simp only [Act.put, tA, tZ, tS]
    refine wpAnyH_done (by kernel_rfl) ?_ _
    go_wp2
    go_ret
    exact ⟨by simp, (belA)⟩
end Go.Proofs.Ytabphkmhafflbaa
