/- Proved here: an event is read by the program; the law, walked. -/
import Derived.Test.YtbbjjpgmekfbeaaDoorDskL
namespace Go.Proofs.YtbbjjpgmekfbeaaDoor
open Go.ChangeShapes Go.WideShapes Go.ChangeAt Go.RowKit Go.Maps
set_option linter.unusedVariables false


theorem bad_ev {x : ByteArray} {M : List ByteArray} (h : M.all goodN = false) : evX (x :: M) = (0, 0, 0, false) := by
  simp only [evX]
  split
  · rfl
  · exact if_neg (fun h9 => by rw [h] at h9; cases h9.2)
theorem nok_ev {x : ByteArray} {M : List ByteArray} (h : (evK x).1 = 0) : evX (x :: M) = (0, 0, 0, false) := if_pos h
theorem at_ns {x : ByteArray} {M : List ByteArray} {ns : List Int} (hN : NsOf M ns) (hA : allW ns = true) (j : Nat) : atN (x :: M) (j + 1) = ns.getD j 0 := by
  unfold atN
  rw [List.getElem?_cons_succ, List.getD]
  cases hM : M[j]? with
  | none =>
    have h1 : ns[j]? = none := by rw [List.getElem?_eq_none_iff] at hM ⊢; rw [hN.1]; exact hM
    rw [h1]; rfl
  | some y =>
    obtain ⟨z, hz⟩ : ∃ z, ns[j]? = some z := ⟨_, List.getElem?_eq_getElem (by have := (List.getElem?_eq_some_iff.1 hM).1; rw [hN.1]; exact this)⟩
    have h2 := List.all_eq_true.1 hA z (List.mem_of_getElem? hz)
    simp at h2
    rw [hz]
    show (num1 y.data.toList).1 = z
    rw [(rd_good (hN.2 j y z hM hz) h2.1 h2.2).2]
theorem all_good {M : List ByteArray} {ns : List Int} (hN : NsOf M ns) (hA : allW ns = true) : M.all goodN = true := by
  rw [List.all_eq_true]
  intro y hy
  obtain ⟨j, hj⟩ := List.getElem?_of_mem hy
  obtain ⟨z, hz⟩ : ∃ z, ns[j]? = some z := ⟨_, List.getElem?_eq_getElem (by have := (List.getElem?_eq_some_iff.1 hj).1; rw [hN.1]; exact this)⟩
  have h2 := List.all_eq_true.1 hA z (List.mem_of_getElem? hz)
  simp at h2
  exact (rd_good (hN.2 j y z hj hz) h2.1 h2.2).1
theorem read_ev {x : ByteArray} {M : List ByteArray} {ns : List Int} {c : Nat} {k : Int} (hN : NsOf M ns) (hA : allW ns = true) (hc : c ≤ 2) (hk : k ≠ 0) (he : evK x = (k, c)) : evX (x :: M) = readX c k ns := by
  simp only [evX, he]
  rw [if_neg hk]
  unfold oneE readX
  by_cases hl : ns.length = c
  · rw [if_pos hl, if_pos ⟨hN.1.symm.trans hl, all_good hN hA⟩]
    have h0 := at_ns (x := x) hN hA 0
    have h1 := at_ns (x := x) hN hA 1
    rw [show (0 : Nat) + 1 = 1 from rfl] at h0
    rw [show (1 : Nat) + 1 = 2 from rfl] at h1
    simp only [Prod.mk.injEq, true_and, and_true]
    constructor
    · split
      · exact h0
      · rw [List.eq_nil_of_length_eq_zero (l := ns) (by omega)]; rfl
    · split
      · exact h1
      · rw [List.getD, List.getElem?_eq_none (by omega)]; rfl
  · rw [if_neg hl, if_neg (fun h => hl (by rw [hN.1]; exact h.1))]
set_option linter.unusedSimpArgs false in
set_option maxRecDepth 20000 in
set_option maxHeartbeats 4000000 in
theorem implde_any {tp1 tp2 : TypeId} {p1 p2 : Value} {m : Int} (s : ByteArray) (w : World) (hE : Env tp1 tp2 p1 p2 m w) : Calls Tryd.prog 11 #[.string s] w fun e w' => DeP s w e w' := by
  have HE := hide hE
  clear hE
  have e0 : (w.alloc (.cells #[.int .i64 0, .int .i64 0, .int .i64 0] 29)).heap.size = w.heap.size + 1 := by simp
  have hmk : (Instr.makeMap 51 none).run Tryd.prog (w.alloc (.cells #[.int .i64 0, .int .i64 0, .int .i64 0] 29)) = .ok (.map (some (w.heap.size + 1))) ((w.alloc (.cells #[.int .i64 0, .int .i64 0, .int .i64 0] 29)).alloc (.map #[] 0)) := by rw [← e0]; rfl
  obtain ⟨w1, w2, w3, w4, w5, w6, w7, u1, u2, u3, u4, u5, u6, u7, hRd, hb7⟩ := readers_made (w.alloc (.cells #[.int .i64 0, .int .i64 0, .int .i64 0] 29)) e0
  clear e0
  have hR7 := (hb7.block w.heap.size (by simp)).trans blk_at0
  have hbA : Below w.heap.size w w7 := bel_trans (bel_one _ _) hb7
  have z7 : w.heap.size < w7.heap.size := by have h9 := hb7.size; simp at h9; omega
  clear hb7
  go_enter Tryd.func11, Tryd.ntmps11
  go_wp2_with fail
  clear hmk u1 u2 u3 u4 u5 u6 u7
  refine (wordnums_any s _ ((unhide HE).bel hbA)).mono ?_
  rintro e w8 ⟨x, v, ns, b, rfl, hxs, hb8, hc⟩
  have hR8 := (hb8.block w.heap.size z7).trans hR7
  have hbB : Below w.heap.size w w8 := bel_trans hbA hb8
  have z8 : w.heap.size < w8.heap.size := Nat.lt_of_lt_of_le z7 hb8.size
  obtain ⟨fv, hlk, hfv⟩ := readers_look (hRd.below hb8) (x := x) (by omega)
  clear hb8 hR7 hRd hbA
  obtain ⟨hs, rfl⟩ | ⟨hs, M, hW, ⟨av, cv, rfl, hN⟩, hB⟩ := hc
  · obtain ⟨LL, HLL⟩ : ∃ LL : List ByteArray, LL = [] := ⟨_, rfl⟩
    have HW : Hid (s.size ≤ 100 → Wo (bl LL) s.data.toList) := hide (fun h => absurd h hs)
    have HZ : Hid (¬ s.size ≤ 100 → LL = []) := hide (fun _ => HLL)
    have HV : Hid (evX LL = (0, 0, 0, false)) := hide (by rw [HLL]; rfl)
    clear HLL hfv
    have r0 : w8.cell? ⟨w.heap.size, 0, none⟩ = some (.int .i64 0) := by simp [World.cell?, hR8, go_sem]
    have rf0 : w8.frozen? ⟨w.heap.size, 0, none⟩ = false := by simp [World.frozen?, hR8, go_sem]
    have r1 : w8.cell? ⟨w.heap.size, 1, none⟩ = some (.int .i64 0) := by simp [World.cell?, hR8, go_sem]
    have rf1 : w8.frozen? ⟨w.heap.size, 1, none⟩ = false := by simp [World.frozen?, hR8, go_sem]
    have r2 : w8.cell? ⟨w.heap.size, 2, none⟩ = some (.int .i64 0) := by simp [World.cell?, hR8, go_sem]
    have rf2 : w8.frozen? ⟨w.heap.size, 2, none⟩ = false := by simp [World.frozen?, hR8, go_sem]
    go_wp2
    refine bodyPost_ret (v := .tuple #[.agg #[.int .i64 0, .int .i64 0, .int .i64 0], .bool false]) (by simp (maxDischargeDepth := 9) [results, Tryd.results11, go_sem, *]) rfl ⟨LL, unhide HW, unhide HZ, 0, 0, 0, false, rfl, unhide HV, (by repeat (first | (with_reducible exact Below.refl _ _) | (with_reducible assumption) | (with_reducible refine bel_set ?_ (by first | (simp; done) | (simp; omega)) _) | (with_reducible refine bel_alloc ?_ _) | (with_reducible refine bel_drew ?_) | (with_reducible refine bel_drewN ?_ _) | (with_reducible refine bel_trans ?_ (by with_reducible assumption))))⟩
  obtain ⟨LL, HLL⟩ : ∃ LL : List ByteArray, LL = x :: M := ⟨_, rfl⟩
  have HW : Hid (s.size ≤ 100 → Wo (bl LL) s.data.toList) := hide (fun _ => by rw [HLL]; exact hW)
  have HZ : Hid (¬ s.size ≤ 100 → LL = []) := hide (fun h => absurd hs h)
  clear hW
  obtain ⟨rfl, hNs, hA⟩ | ⟨rfl, hG⟩ := hB
  · obtain ⟨nl, hnl⟩ : ∃ nl, ns.length = nl := ⟨_, rfl⟩
    have HNL := hide hnl
    have HN := hide hN
    rw [hnl]
    clear hnl hN
    have HNs := hide hNs
    have HA := hide hA
    clear hNs hA
    by_cases e0 : x = ⟨#[115, 111, 117, 114, 99, 101]⟩
    · have hev : evK x = (1, 1) := by unfold evK; rw [if_pos e0]
      have HV : Hid (evX LL = readX 1 1 ns) := hide (by rw [HLL]; exact read_ev (unhide HNs) (unhide HA) (by omega) (by decide) hev)
      rw [hev] at hlk hfv
      obtain rfl := hfv (by decide)
      clear HLL hev e0 hfv HNs HA
      go_wp2_with fail
      refine (read1_any _ (unhide HNL) (unhide HN)).mono ?_
      rintro e w9 ⟨k9, a9, i9, b9, rfl, hr9, hb9⟩
      have HV9 := hide ((unhide HV).trans hr9)
      have hR9 := (hb9.block w.heap.size z8).trans hR8
      have hbC : Below w.heap.size w w9 := bel_trans hbB hb9
      have z9 : w.heap.size < w9.heap.size := Nat.lt_of_lt_of_le z8 hb9.size
      clear hb9 hr9 HV hR8 hbB hlk HN HNL
      have r0 : w9.cell? ⟨w.heap.size, 0, none⟩ = some (.int .i64 0) := by simp [World.cell?, hR9, go_sem]
      have rf0 : w9.frozen? ⟨w.heap.size, 0, none⟩ = false := by simp [World.frozen?, hR9, go_sem]
      have r1 : w9.cell? ⟨w.heap.size, 1, none⟩ = some (.int .i64 0) := by simp [World.cell?, hR9, go_sem]
      have rf1 : w9.frozen? ⟨w.heap.size, 1, none⟩ = false := by simp [World.frozen?, hR9, go_sem]
      have r2 : w9.cell? ⟨w.heap.size, 2, none⟩ = some (.int .i64 0) := by simp [World.cell?, hR9, go_sem]
      have rf2 : w9.frozen? ⟨w.heap.size, 2, none⟩ = false := by simp [World.frozen?, hR9, go_sem]
      go_wp2
      refine bodyPost_ret (v := .tuple #[.agg #[.int .i64 k9, .int .i64 a9, .int .i64 i9], .bool b9]) (by simp (maxDischargeDepth := 9) [results, Tryd.results11, go_sem, *]) rfl ⟨LL, unhide HW, unhide HZ, k9, a9, i9, b9, rfl, unhide HV9, (by repeat (first | (with_reducible exact Below.refl _ _) | (with_reducible assumption) | (with_reducible refine bel_set ?_ (by first | (simp; done) | (simp; omega)) _) | (with_reducible refine bel_alloc ?_ _) | (with_reducible refine bel_drew ?_) | (with_reducible refine bel_drewN ?_ _) | (with_reducible refine bel_trans ?_ (by with_reducible assumption))))⟩
    by_cases e1 : x = ⟨#[116, 97, 115, 107]⟩
    · have hev : evK x = (2, 2) := by unfold evK; rw [if_neg e0, if_pos e1]
      have HV : Hid (evX LL = readX 2 2 ns) := hide (by rw [HLL]; exact read_ev (unhide HNs) (unhide HA) (by omega) (by decide) hev)
      rw [hev] at hlk hfv
      obtain rfl := hfv (by decide)
      clear HLL hev e0 e1 hfv HNs HA
      go_wp2_with fail
      refine (read2_any _ (unhide HNL) (unhide HN)).mono ?_
      rintro e w9 ⟨k9, a9, i9, b9, rfl, hr9, hb9⟩
      have HV9 := hide ((unhide HV).trans hr9)
      have hR9 := (hb9.block w.heap.size z8).trans hR8
      have hbC : Below w.heap.size w w9 := bel_trans hbB hb9
      have z9 : w.heap.size < w9.heap.size := Nat.lt_of_lt_of_le z8 hb9.size
      clear hb9 hr9 HV hR8 hbB hlk HN HNL
      have r0 : w9.cell? ⟨w.heap.size, 0, none⟩ = some (.int .i64 0) := by simp [World.cell?, hR9, go_sem]
      have rf0 : w9.frozen? ⟨w.heap.size, 0, none⟩ = false := by simp [World.frozen?, hR9, go_sem]
      have r1 : w9.cell? ⟨w.heap.size, 1, none⟩ = some (.int .i64 0) := by simp [World.cell?, hR9, go_sem]
      have rf1 : w9.frozen? ⟨w.heap.size, 1, none⟩ = false := by simp [World.frozen?, hR9, go_sem]
      have r2 : w9.cell? ⟨w.heap.size, 2, none⟩ = some (.int .i64 0) := by simp [World.cell?, hR9, go_sem]
      have rf2 : w9.frozen? ⟨w.heap.size, 2, none⟩ = false := by simp [World.frozen?, hR9, go_sem]
      go_wp2
      refine bodyPost_ret (v := .tuple #[.agg #[.int .i64 k9, .int .i64 a9, .int .i64 i9], .bool b9]) (by simp (maxDischargeDepth := 9) [results, Tryd.results11, go_sem, *]) rfl ⟨LL, unhide HW, unhide HZ, k9, a9, i9, b9, rfl, unhide HV9, (by repeat (first | (with_reducible exact Below.refl _ _) | (with_reducible assumption) | (with_reducible refine bel_set ?_ (by first | (simp; done) | (simp; omega)) _) | (with_reducible refine bel_alloc ?_ _) | (with_reducible refine bel_drew ?_) | (with_reducible refine bel_drewN ?_ _) | (with_reducible refine bel_trans ?_ (by with_reducible assumption))))⟩
    by_cases e2 : x = ⟨#[97, 115, 107]⟩
    · have hev : evK x = (3, 0) := by unfold evK; rw [if_neg e0, if_neg e1, if_pos e2]
      have HV : Hid (evX LL = readX 0 3 ns) := hide (by rw [HLL]; exact read_ev (unhide HNs) (unhide HA) (by omega) (by decide) hev)
      rw [hev] at hlk hfv
      obtain rfl := hfv (by decide)
      clear HLL hev e0 e1 e2 hfv HNs HA
      go_wp2_with fail
      refine (read3_any _ (unhide HNL) (unhide HN)).mono ?_
      rintro e w9 ⟨k9, a9, i9, b9, rfl, hr9, hb9⟩
      have HV9 := hide ((unhide HV).trans hr9)
      have hR9 := (hb9.block w.heap.size z8).trans hR8
      have hbC : Below w.heap.size w w9 := bel_trans hbB hb9
      have z9 : w.heap.size < w9.heap.size := Nat.lt_of_lt_of_le z8 hb9.size
      clear hb9 hr9 HV hR8 hbB hlk HN HNL
      have r0 : w9.cell? ⟨w.heap.size, 0, none⟩ = some (.int .i64 0) := by simp [World.cell?, hR9, go_sem]
      have rf0 : w9.frozen? ⟨w.heap.size, 0, none⟩ = false := by simp [World.frozen?, hR9, go_sem]
      have r1 : w9.cell? ⟨w.heap.size, 1, none⟩ = some (.int .i64 0) := by simp [World.cell?, hR9, go_sem]
      have rf1 : w9.frozen? ⟨w.heap.size, 1, none⟩ = false := by simp [World.frozen?, hR9, go_sem]
      have r2 : w9.cell? ⟨w.heap.size, 2, none⟩ = some (.int .i64 0) := by simp [World.cell?, hR9, go_sem]
      have rf2 : w9.frozen? ⟨w.heap.size, 2, none⟩ = false := by simp [World.frozen?, hR9, go_sem]
      go_wp2
      refine bodyPost_ret (v := .tuple #[.agg #[.int .i64 k9, .int .i64 a9, .int .i64 i9], .bool b9]) (by simp (maxDischargeDepth := 9) [results, Tryd.results11, go_sem, *]) rfl ⟨LL, unhide HW, unhide HZ, k9, a9, i9, b9, rfl, unhide HV9, (by repeat (first | (with_reducible exact Below.refl _ _) | (with_reducible assumption) | (with_reducible refine bel_set ?_ (by first | (simp; done) | (simp; omega)) _) | (with_reducible refine bel_alloc ?_ _) | (with_reducible refine bel_drew ?_) | (with_reducible refine bel_drewN ?_ _) | (with_reducible refine bel_trans ?_ (by with_reducible assumption))))⟩
    by_cases e3 : x = ⟨#[115, 97, 118, 101]⟩
    · have hev : evK x = (4, 0) := by unfold evK; rw [if_neg e0, if_neg e1, if_neg e2, if_pos e3]
      have HV : Hid (evX LL = readX 0 4 ns) := hide (by rw [HLL]; exact read_ev (unhide HNs) (unhide HA) (by omega) (by decide) hev)
      rw [hev] at hlk hfv
      obtain rfl := hfv (by decide)
      clear HLL hev e0 e1 e2 e3 hfv HNs HA
      go_wp2_with fail
      refine (read4_any _ (unhide HNL) (unhide HN)).mono ?_
      rintro e w9 ⟨k9, a9, i9, b9, rfl, hr9, hb9⟩
      have HV9 := hide ((unhide HV).trans hr9)
      have hR9 := (hb9.block w.heap.size z8).trans hR8
      have hbC : Below w.heap.size w w9 := bel_trans hbB hb9
      have z9 : w.heap.size < w9.heap.size := Nat.lt_of_lt_of_le z8 hb9.size
      clear hb9 hr9 HV hR8 hbB hlk HN HNL
      have r0 : w9.cell? ⟨w.heap.size, 0, none⟩ = some (.int .i64 0) := by simp [World.cell?, hR9, go_sem]
      have rf0 : w9.frozen? ⟨w.heap.size, 0, none⟩ = false := by simp [World.frozen?, hR9, go_sem]
      have r1 : w9.cell? ⟨w.heap.size, 1, none⟩ = some (.int .i64 0) := by simp [World.cell?, hR9, go_sem]
      have rf1 : w9.frozen? ⟨w.heap.size, 1, none⟩ = false := by simp [World.frozen?, hR9, go_sem]
      have r2 : w9.cell? ⟨w.heap.size, 2, none⟩ = some (.int .i64 0) := by simp [World.cell?, hR9, go_sem]
      have rf2 : w9.frozen? ⟨w.heap.size, 2, none⟩ = false := by simp [World.frozen?, hR9, go_sem]
      go_wp2
      refine bodyPost_ret (v := .tuple #[.agg #[.int .i64 k9, .int .i64 a9, .int .i64 i9], .bool b9]) (by simp (maxDischargeDepth := 9) [results, Tryd.results11, go_sem, *]) rfl ⟨LL, unhide HW, unhide HZ, k9, a9, i9, b9, rfl, unhide HV9, (by repeat (first | (with_reducible exact Below.refl _ _) | (with_reducible assumption) | (with_reducible refine bel_set ?_ (by first | (simp; done) | (simp; omega)) _) | (with_reducible refine bel_alloc ?_ _) | (with_reducible refine bel_drew ?_) | (with_reducible refine bel_drewN ?_ _) | (with_reducible refine bel_trans ?_ (by with_reducible assumption))))⟩
    by_cases e4 : x = ⟨#[100, 114, 111, 112]⟩
    · have hev : evK x = (5, 0) := by unfold evK; rw [if_neg e0, if_neg e1, if_neg e2, if_neg e3, if_pos e4]
      have HV : Hid (evX LL = readX 0 5 ns) := hide (by rw [HLL]; exact read_ev (unhide HNs) (unhide HA) (by omega) (by decide) hev)
      rw [hev] at hlk hfv
      obtain rfl := hfv (by decide)
      clear HLL hev e0 e1 e2 e3 e4 hfv HNs HA
      go_wp2_with fail
      refine (read5_any _ (unhide HNL) (unhide HN)).mono ?_
      rintro e w9 ⟨k9, a9, i9, b9, rfl, hr9, hb9⟩
      have HV9 := hide ((unhide HV).trans hr9)
      have hR9 := (hb9.block w.heap.size z8).trans hR8
      have hbC : Below w.heap.size w w9 := bel_trans hbB hb9
      have z9 : w.heap.size < w9.heap.size := Nat.lt_of_lt_of_le z8 hb9.size
      clear hb9 hr9 HV hR8 hbB hlk HN HNL
      have r0 : w9.cell? ⟨w.heap.size, 0, none⟩ = some (.int .i64 0) := by simp [World.cell?, hR9, go_sem]
      have rf0 : w9.frozen? ⟨w.heap.size, 0, none⟩ = false := by simp [World.frozen?, hR9, go_sem]
      have r1 : w9.cell? ⟨w.heap.size, 1, none⟩ = some (.int .i64 0) := by simp [World.cell?, hR9, go_sem]
      have rf1 : w9.frozen? ⟨w.heap.size, 1, none⟩ = false := by simp [World.frozen?, hR9, go_sem]
      have r2 : w9.cell? ⟨w.heap.size, 2, none⟩ = some (.int .i64 0) := by simp [World.cell?, hR9, go_sem]
      have rf2 : w9.frozen? ⟨w.heap.size, 2, none⟩ = false := by simp [World.frozen?, hR9, go_sem]
      go_wp2
      refine bodyPost_ret (v := .tuple #[.agg #[.int .i64 k9, .int .i64 a9, .int .i64 i9], .bool b9]) (by simp (maxDischargeDepth := 9) [results, Tryd.results11, go_sem, *]) rfl ⟨LL, unhide HW, unhide HZ, k9, a9, i9, b9, rfl, unhide HV9, (by repeat (first | (with_reducible exact Below.refl _ _) | (with_reducible assumption) | (with_reducible refine bel_set ?_ (by first | (simp; done) | (simp; omega)) _) | (with_reducible refine bel_alloc ?_ _) | (with_reducible refine bel_drew ?_) | (with_reducible refine bel_drewN ?_ _) | (with_reducible refine bel_trans ?_ (by with_reducible assumption))))⟩
    by_cases e5 : x = ⟨#[99, 111, 109, 109, 105, 116]⟩
    · have hev : evK x = (6, 1) := by unfold evK; rw [if_neg e0, if_neg e1, if_neg e2, if_neg e3, if_neg e4, if_pos e5]
      have HV : Hid (evX LL = readX 1 6 ns) := hide (by rw [HLL]; exact read_ev (unhide HNs) (unhide HA) (by omega) (by decide) hev)
      rw [hev] at hlk hfv
      obtain rfl := hfv (by decide)
      clear HLL hev e0 e1 e2 e3 e4 e5 hfv HNs HA
      go_wp2_with fail
      refine (read6_any _ (unhide HNL) (unhide HN)).mono ?_
      rintro e w9 ⟨k9, a9, i9, b9, rfl, hr9, hb9⟩
      have HV9 := hide ((unhide HV).trans hr9)
      have hR9 := (hb9.block w.heap.size z8).trans hR8
      have hbC : Below w.heap.size w w9 := bel_trans hbB hb9
      have z9 : w.heap.size < w9.heap.size := Nat.lt_of_lt_of_le z8 hb9.size
      clear hb9 hr9 HV hR8 hbB hlk HN HNL
      have r0 : w9.cell? ⟨w.heap.size, 0, none⟩ = some (.int .i64 0) := by simp [World.cell?, hR9, go_sem]
      have rf0 : w9.frozen? ⟨w.heap.size, 0, none⟩ = false := by simp [World.frozen?, hR9, go_sem]
      have r1 : w9.cell? ⟨w.heap.size, 1, none⟩ = some (.int .i64 0) := by simp [World.cell?, hR9, go_sem]
      have rf1 : w9.frozen? ⟨w.heap.size, 1, none⟩ = false := by simp [World.frozen?, hR9, go_sem]
      have r2 : w9.cell? ⟨w.heap.size, 2, none⟩ = some (.int .i64 0) := by simp [World.cell?, hR9, go_sem]
      have rf2 : w9.frozen? ⟨w.heap.size, 2, none⟩ = false := by simp [World.frozen?, hR9, go_sem]
      go_wp2
      refine bodyPost_ret (v := .tuple #[.agg #[.int .i64 k9, .int .i64 a9, .int .i64 i9], .bool b9]) (by simp (maxDischargeDepth := 9) [results, Tryd.results11, go_sem, *]) rfl ⟨LL, unhide HW, unhide HZ, k9, a9, i9, b9, rfl, unhide HV9, (by repeat (first | (with_reducible exact Below.refl _ _) | (with_reducible assumption) | (with_reducible refine bel_set ?_ (by first | (simp; done) | (simp; omega)) _) | (with_reducible refine bel_alloc ?_ _) | (with_reducible refine bel_drew ?_) | (with_reducible refine bel_drewN ?_ _) | (with_reducible refine bel_trans ?_ (by with_reducible assumption))))⟩
    by_cases e6 : x = ⟨#[99, 114, 97, 115, 104]⟩
    · have hev : evK x = (7, 0) := by unfold evK; rw [if_neg e0, if_neg e1, if_neg e2, if_neg e3, if_neg e4, if_neg e5, if_pos e6]
      have HV : Hid (evX LL = readX 0 7 ns) := hide (by rw [HLL]; exact read_ev (unhide HNs) (unhide HA) (by omega) (by decide) hev)
      rw [hev] at hlk hfv
      obtain rfl := hfv (by decide)
      clear HLL hev e0 e1 e2 e3 e4 e5 e6 hfv HNs HA
      go_wp2_with fail
      refine (read7_any _ (unhide HNL) (unhide HN)).mono ?_
      rintro e w9 ⟨k9, a9, i9, b9, rfl, hr9, hb9⟩
      have HV9 := hide ((unhide HV).trans hr9)
      have hR9 := (hb9.block w.heap.size z8).trans hR8
      have hbC : Below w.heap.size w w9 := bel_trans hbB hb9
      have z9 : w.heap.size < w9.heap.size := Nat.lt_of_lt_of_le z8 hb9.size
      clear hb9 hr9 HV hR8 hbB hlk HN HNL
      have r0 : w9.cell? ⟨w.heap.size, 0, none⟩ = some (.int .i64 0) := by simp [World.cell?, hR9, go_sem]
      have rf0 : w9.frozen? ⟨w.heap.size, 0, none⟩ = false := by simp [World.frozen?, hR9, go_sem]
      have r1 : w9.cell? ⟨w.heap.size, 1, none⟩ = some (.int .i64 0) := by simp [World.cell?, hR9, go_sem]
      have rf1 : w9.frozen? ⟨w.heap.size, 1, none⟩ = false := by simp [World.frozen?, hR9, go_sem]
      have r2 : w9.cell? ⟨w.heap.size, 2, none⟩ = some (.int .i64 0) := by simp [World.cell?, hR9, go_sem]
      have rf2 : w9.frozen? ⟨w.heap.size, 2, none⟩ = false := by simp [World.frozen?, hR9, go_sem]
      go_wp2
      refine bodyPost_ret (v := .tuple #[.agg #[.int .i64 k9, .int .i64 a9, .int .i64 i9], .bool b9]) (by simp (maxDischargeDepth := 9) [results, Tryd.results11, go_sem, *]) rfl ⟨LL, unhide HW, unhide HZ, k9, a9, i9, b9, rfl, unhide HV9, (by repeat (first | (with_reducible exact Below.refl _ _) | (with_reducible assumption) | (with_reducible refine bel_set ?_ (by first | (simp; done) | (simp; omega)) _) | (with_reducible refine bel_alloc ?_ _) | (with_reducible refine bel_drew ?_) | (with_reducible refine bel_drewN ?_ _) | (with_reducible refine bel_trans ?_ (by with_reducible assumption))))⟩
    have hev : evK x = (0, 0) := by unfold evK; rw [if_neg e0, if_neg e1, if_neg e2, if_neg e3, if_neg e4, if_neg e5, if_neg e6]
    have HV : Hid (evX LL = (0, 0, 0, false)) := hide (by rw [HLL]; exact nok_ev (by rw [hev]))
    rw [hev] at hlk
    clear HLL hev e0 e1 e2 e3 e4 e5 e6 hfv HNs HA HN HNL
    have r0 : w8.cell? ⟨w.heap.size, 0, none⟩ = some (.int .i64 0) := by simp [World.cell?, hR8, go_sem]
    have rf0 : w8.frozen? ⟨w.heap.size, 0, none⟩ = false := by simp [World.frozen?, hR8, go_sem]
    have r1 : w8.cell? ⟨w.heap.size, 1, none⟩ = some (.int .i64 0) := by simp [World.cell?, hR8, go_sem]
    have rf1 : w8.frozen? ⟨w.heap.size, 1, none⟩ = false := by simp [World.frozen?, hR8, go_sem]
    have r2 : w8.cell? ⟨w.heap.size, 2, none⟩ = some (.int .i64 0) := by simp [World.cell?, hR8, go_sem]
    have rf2 : w8.frozen? ⟨w.heap.size, 2, none⟩ = false := by simp [World.frozen?, hR8, go_sem]
    go_wp2
    refine bodyPost_ret (v := .tuple #[.agg #[.int .i64 0, .int .i64 0, .int .i64 0], .bool false]) (by simp (maxDischargeDepth := 9) [results, Tryd.results11, go_sem, *]) rfl ⟨LL, unhide HW, unhide HZ, 0, 0, 0, false, rfl, unhide HV, (by repeat (first | (with_reducible exact Below.refl _ _) | (with_reducible assumption) | (with_reducible refine bel_set ?_ (by first | (simp; done) | (simp; omega)) _) | (with_reducible refine bel_alloc ?_ _) | (with_reducible refine bel_drew ?_) | (with_reducible refine bel_drewN ?_ _) | (with_reducible refine bel_trans ?_ (by with_reducible assumption))))⟩
  · have HV : Hid (evX LL = (0, 0, 0, false)) := hide (by rw [HLL]; exact bad_ev hG)
    clear HLL hfv hG hN
    have r0 : w8.cell? ⟨w.heap.size, 0, none⟩ = some (.int .i64 0) := by simp [World.cell?, hR8, go_sem]
    have rf0 : w8.frozen? ⟨w.heap.size, 0, none⟩ = false := by simp [World.frozen?, hR8, go_sem]
    have r1 : w8.cell? ⟨w.heap.size, 1, none⟩ = some (.int .i64 0) := by simp [World.cell?, hR8, go_sem]
    have rf1 : w8.frozen? ⟨w.heap.size, 1, none⟩ = false := by simp [World.frozen?, hR8, go_sem]
    have r2 : w8.cell? ⟨w.heap.size, 2, none⟩ = some (.int .i64 0) := by simp [World.cell?, hR8, go_sem]
    have rf2 : w8.frozen? ⟨w.heap.size, 2, none⟩ = false := by simp [World.frozen?, hR8, go_sem]
    go_wp2
    refine bodyPost_ret (v := .tuple #[.agg #[.int .i64 0, .int .i64 0, .int .i64 0], .bool false]) (by simp (maxDischargeDepth := 9) [results, Tryd.results11, go_sem, *]) rfl ⟨LL, unhide HW, unhide HZ, 0, 0, 0, false, rfl, unhide HV, (by repeat (first | (with_reducible exact Below.refl _ _) | (with_reducible assumption) | (with_reducible refine bel_set ?_ (by first | (simp; done) | (simp; omega)) _) | (with_reducible refine bel_alloc ?_ _) | (with_reducible refine bel_drew ?_) | (with_reducible refine bel_drewN ?_ _) | (with_reducible refine bel_trans ?_ (by with_reducible assumption))))⟩

set_option linter.unusedSimpArgs false in
set_option maxRecDepth 20000 in
set_option maxHeartbeats 1000000 in
theorem eqEv_any (k a i : Int) (w : World) : Calls Tryd.prog 12 #[.agg #[.int .i64 k, .int .i64 a, .int .i64 i], .agg #[.int .i64 k, .int .i64 a, .int .i64 i]] w fun e w' => e = .returned (.bool true) ∧ Below w.heap.size w w' := by
  go_enter Tryd.func12, Tryd.ntmps12
  go_wp2
  go_ret
  exact ⟨rfl, (by repeat (first | (with_reducible exact Below.refl _ _) | (with_reducible assumption) | (with_reducible refine bel_set ?_ (by first | (simp; done) | (simp; omega)) _) | (with_reducible refine bel_alloc ?_ _) | (with_reducible refine bel_drew ?_) | (with_reducible refine bel_drewN ?_ _) | (with_reducible refine bel_trans ?_ (by with_reducible assumption))))⟩
theorem bl_inj9 {L M : List ByteArray} {s : ByteArray} (h1 : s.size ≤ 100 → Wo (bl L) s.data.toList) (h2 : ¬ s.size ≤ 100 → L = []) (g1 : s.size ≤ 100 → Wo (bl M) s.data.toList) (g2 : ¬ s.size ≤ 100 → M = []) : L = M := by
  by_cases h : s.size ≤ 100
  · exact bl_inj (wo_uniq _ (h1 h) (g1 h))
  · rw [h2 h, g2 h]
set_option linter.unusedSimpArgs false in
set_option maxRecDepth 20000 in
set_option maxHeartbeats 1000000 in
theorem lawDskEvent {tp1 tp2 : TypeId} {p1 p2 : Value} {m : Int} (s : ByteArray) (w : World) (hE : Env tp1 tp2 p1 p2 m w) : Calls Tryd.prog 4 #[.string s] w fun e w' => e = .returned (.bool true) ∧ Below w.heap.size w w' := by
  have HE := hide hE
  clear hE
  by_cases hz : (1048576 : Int) < (s.size : Int)
  · go_enter Tryd.func4, Tryd.ntmps4
    go_wp2_with fail
    go_ret
    exact ⟨rfl, Below.refl _ _⟩
  · have hs : s.size ≤ 1048576 := by omega
    go_enter Tryd.func4, Tryd.ntmps4
    go_wp2_with fail
    refine (specdskevent_any s _ hs).mono ?_
    rintro e w1 ⟨L, hL1, hL2, k, a, i, b, rfl, hR1, hb1⟩
    have HR1 := hide hR1
    have HL1 := hide hL1
    have HL2 := hide hL2
    clear hR1 hL1 hL2
    have HE1 := hide ((unhide HE).bel hb1)
    go_wp2_with fail
    refine (implde_any s _ ((unhide HE1).bel (bel_one _ _))).mono ?_
    rintro e w2 ⟨L', hM1, hM2, k', a', i', b', rfl, hR2, hb2⟩
    obtain rfl := bl_inj9 (unhide HL1) (unhide HL2) hM1 hM2
    have h9 := (unhide HR1).symm.trans hR2
    simp only [Prod.mk.injEq] at h9
    obtain ⟨rfl, rfl, rfl, rfl⟩ := h9
    clear HR1 hR2 HL1 HL2 hM1 hM2
    have hX2 := (hb2.block w1.heap.size (by simp)).trans blk_at0
    have x0 : w2.cell? ⟨w1.heap.size, 0, none⟩ = some (.int .i64 k) := by simp [World.cell?, hX2, go_sem]
    have x1 : w2.cell? ⟨w1.heap.size, 1, none⟩ = some (.int .i64 a) := by simp [World.cell?, hX2, go_sem]
    have x2 : w2.cell? ⟨w1.heap.size, 2, none⟩ = some (.int .i64 i) := by simp [World.cell?, hX2, go_sem]
    have hz2 : w1.heap.size < w2.heap.size := by have h9 := hb2.size; simp at h9; omega
    have hbb := bel_trans hb1 (bel_trans (bel_one _ _) hb2)
    clear hb1 hb2 hX2
    have hcc : (b == b) = true := by cases b <;> rfl
    go_wp2_with fail
    refine (eqEv_any _ _ _ _).mono ?_
    rintro e w3 ⟨rfl, hb3⟩
    go_wp2
    go_ret
    exact ⟨rfl, bel_trans (bel_alloc hbb _) hb3⟩
end Go.Proofs.YtbbjjpgmekfbeaaDoor
