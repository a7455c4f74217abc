/- Laid together: what the claim needs of the texts that were built one by one. -/
import Derived.Test.YtbjhpiannjepkaaGreatPsCkpR
import Derived.Test.YtbjhpiannjepkaaGreatPsBase
namespace Go.Proofs.YtbjhpiannjepkaaGreat
open Go.ChangeShapes Go.WideShapes Go.ChangeAt Go.RowKit Go.Deep
set_option linter.unusedVariables false

/-- What is safe. -/
structure CsD where
  sfn : Int
  at_ : List Int
  ssn : List SnD

/-- Checkpoints. -/
structure CkD where
  n : Int
  op : Bool
  src : List Int
  tsk : List Bool
  sn : List SnD
  sfn : Int
  at_ : List Int
  ssn : List SnD

set_option maxRecDepth 20000 in
set_option maxHeartbeats 1000000 in
theorem szCs_one (x : CsD) (a1 : Option Addr) (l1 c1 : Nat) (a2 : Option Addr) (l2 c2 : Nat) (L : Int) (w : World) (h1 : InB w 0 a1 l1 x.at_) (h2 : SnB w 0 a2 l2 x.ssn) (h0L : 0 ≤ L) (hL : L ≤ 1048576) : Calls Tryz.prog 18 #[.agg #[.int .i64 x.sfn, .slice a1 l1 c1, .slice a2 l2 c2], .int .i64 L] w fun e w' => SzP L (l1 ≤ 1048576 ∧ (l2 ≤ 1048576 ∧ ∀ y ∈ x.ssn, y.sm)) e ∧ Below w.heap.size w w' := by
  go_enter Tryz.func18, Tryz.ntmps18
  go_wp2_with fail
  refine (szIn_p a1 l1 c1 L _ h1.len.2 (by omega) (by omega)).mono ?_
  rintro e w0x ⟨⟨r0, rfl, hr⟩, hw⟩
  obtain rfl := hw.symm
  clear hw
  rcases hr with rfl | ⟨p0, q0, s0⟩
  · go_wp2
    go_ret
    exact ⟨⟨_, rfl, Or.inl rfl⟩, (belB)⟩
  go_wp2_with fail
  refine (szSn_p a2 l2 c2 x.ssn r0 _ (h2.below (belB)) (by omega) (by omega)).mono ?_
  rintro e y1 ⟨⟨r1, rfl, hr⟩, hb1⟩
  obtain ⟨hc1, hf1, hs1⟩ := bcell hb1
  have hz1 : w.heap.size < y1.heap.size := by have h9 := hb1.size; (try simp at h9); omega
  rcases hr with rfl | ⟨p1, q1, s1⟩
  · go_wp2
    go_ret
    exact ⟨⟨_, rfl, Or.inl rfl⟩, (belB)⟩
  go_wp2
  go_ret
  exact ⟨⟨_, rfl, Or.inr ⟨p1, by omega, s0, s1⟩⟩, (belB)⟩

set_option maxRecDepth 20000 in
set_option maxHeartbeats 1000000 in
theorem eqCs_one (B1 B2 : Nat) (x : CsD) (a1x a1y : Option Addr) (l1 c1x c1y : Nat) (a2x a2y : Option Addr) (l2 c2x c2y : Nat) (w : World) (h1x : InB w B1 a1x l1 x.at_) (h1y : InB w B2 a1y l1 x.at_) (h2x : SnB w B1 a2x l2 x.ssn) (h2y : SnB w B2 a2y l2 x.ssn) : Calls Tryz.prog 35 #[.agg #[.int .i64 x.sfn, .slice a1x l1 c1x, .slice a2x l2 c2x], .agg #[.int .i64 x.sfn, .slice a1y l1 c1y, .slice a2y l2 c2y]] w fun e w' => e = .returned (.bool true) ∧ Below w.heap.size w w' := by
  go_enter Tryz.func35, Tryz.ntmps35
  go_wp2_with (first
    | (go_at_call 32; refine (eqIn_b B1 B2 a1x a1y l1 c1x c1y x.at_ _ (h1x.below (belB)) (h1y.below (belB))).mono ?_; rintro e' w0 ⟨rfl, hb0⟩; obtain ⟨hc0, hf0, hs0⟩ := bcell hb0; have hz00 : w.heap.size < w0.heap.size := (by have h9 := hb0.size; (try simp at h9); omega); have hz01 : w.heap.size + 1 < w0.heap.size := (by have h9 := hb0.size; (try simp at h9); omega))
    | (go_at_call 34; refine (eqSn_b B1 B2 a2x a2y l2 c2x c2y x.ssn _ (h2x.below (belB)) (h2y.below (belB))).mono ?_; rintro e' w1 ⟨rfl, hb1⟩; obtain ⟨hc1, hf1, hs1⟩ := bcell hb1; have hz10 : w.heap.size < w1.heap.size := (by have h9 := hb1.size; (try simp at h9); omega); have hz11 : w.heap.size + 1 < w1.heap.size := (by have h9 := hb1.size; (try simp at h9); omega)))
  go_ret
  exact ⟨rfl, (belB)⟩

set_option maxRecDepth 20000 in
set_option maxHeartbeats 1000000 in
theorem szCk_one (x : CkD) (a2 : Option Addr) (l2 c2 : Nat) (a3 : Option Addr) (l3 c3 : Nat) (a4 : Option Addr) (l4 c4 : Nat) (a6 : Option Addr) (l6 c6 : Nat) (a7 : Option Addr) (l7 c7 : Nat) (L : Int) (w : World) (h2 : InB w 0 a2 l2 x.src) (h3 : BoB w 0 a3 l3 x.tsk) (h4 : SnB w 0 a4 l4 x.sn) (h6 : InB w 0 a6 l6 x.at_) (h7 : SnB w 0 a7 l7 x.ssn) (h0L : 0 ≤ L) (hL : L ≤ 1048576) : Calls Tryz.prog 5 #[.agg #[.int .i64 x.n, .bool x.op, .slice a2 l2 c2, .slice a3 l3 c3, .slice a4 l4 c4, .int .i64 x.sfn, .slice a6 l6 c6, .slice a7 l7 c7], .int .i64 L] w fun e w' => SzP L (l2 ≤ 1048576 ∧ l3 ≤ 1048576 ∧ (l4 ≤ 1048576 ∧ ∀ y ∈ x.sn, y.sm) ∧ l6 ≤ 1048576 ∧ (l7 ≤ 1048576 ∧ ∀ y ∈ x.ssn, y.sm)) e ∧ Below w.heap.size w w' := by
  go_enter Tryz.func5, Tryz.ntmps5
  go_wp2_with fail
  refine (szIn_p a2 l2 c2 L _ h2.len.2 (by omega) (by omega)).mono ?_
  rintro e w0x ⟨⟨r0, rfl, hr⟩, hw⟩
  obtain rfl := hw.symm
  clear hw
  rcases hr with rfl | ⟨p0, q0, s0⟩
  · go_wp2
    go_ret
    exact ⟨⟨_, rfl, Or.inl rfl⟩, (belB)⟩
  go_wp2_with fail
  refine (szBo_p a3 l3 c3 r0 _ h3.len.2 (by omega) (by omega)).mono ?_
  rintro e w1x ⟨⟨r1, rfl, hr⟩, hw⟩
  obtain rfl := hw.symm
  clear hw
  rcases hr with rfl | ⟨p1, q1, s1⟩
  · go_wp2
    go_ret
    exact ⟨⟨_, rfl, Or.inl rfl⟩, (belB)⟩
  go_wp2_with fail
  refine (szSn_p a4 l4 c4 x.sn r1 _ (h4.below (belB)) (by omega) (by omega)).mono ?_
  rintro e y2 ⟨⟨r2, rfl, hr⟩, hb2⟩
  obtain ⟨hc2, hf2, hs2⟩ := bcell hb2
  have hz2 : w.heap.size < y2.heap.size := by have h9 := hb2.size; (try simp at h9); omega
  rcases hr with rfl | ⟨p2, q2, s2⟩
  · go_wp2
    go_ret
    exact ⟨⟨_, rfl, Or.inl rfl⟩, (belB)⟩
  go_wp2_with fail
  refine (szCs_one ⟨x.sfn, x.at_, x.ssn⟩ a6 l6 c6 a7 l7 c7 r2 _ (h6.below (belB)) (h7.below (belB)) (by omega) (by omega)).mono ?_
  rintro e y3 ⟨⟨r3, rfl, hr⟩, hb3⟩
  obtain ⟨hc3, hf3, hs3⟩ := bcell hb3
  have hz3 : w.heap.size < y3.heap.size := by have h9 := hb3.size; (try simp at h9); omega
  rcases hr with rfl | ⟨p3, q3, s3⟩
  · go_wp2
    go_ret
    exact ⟨⟨_, rfl, Or.inl rfl⟩, (belB)⟩
  go_wp2
  go_ret
  exact ⟨⟨_, rfl, Or.inr ⟨p3, by omega, s0, s1, s2, s3.1, s3.2⟩⟩, (belB)⟩

set_option maxRecDepth 20000 in
set_option maxHeartbeats 1000000 in
theorem eqCk_one (B1 B2 : Nat) (x : CkD) (a2x a2y : Option Addr) (l2 c2x c2y : Nat) (a3x a3y : Option Addr) (l3 c3x c3y : Nat) (a4x a4y : Option Addr) (l4 c4x c4y : Nat) (a6x a6y : Option Addr) (l6 c6x c6y : Nat) (a7x a7y : Option Addr) (l7 c7x c7y : Nat) (w : World) (h2x : InB w B1 a2x l2 x.src) (h2y : InB w B2 a2y l2 x.src) (h3x : BoB w B1 a3x l3 x.tsk) (h3y : BoB w B2 a3y l3 x.tsk) (h4x : SnB w B1 a4x l4 x.sn) (h4y : SnB w B2 a4y l4 x.sn) (h6x : InB w B1 a6x l6 x.at_) (h6y : InB w B2 a6y l6 x.at_) (h7x : SnB w B1 a7x l7 x.ssn) (h7y : SnB w B2 a7y l7 x.ssn) : Calls Tryz.prog 10 #[.agg #[.int .i64 x.n, .bool x.op, .slice a2x l2 c2x, .slice a3x l3 c3x, .slice a4x l4 c4x, .int .i64 x.sfn, .slice a6x l6 c6x, .slice a7x l7 c7x], .agg #[.int .i64 x.n, .bool x.op, .slice a2y l2 c2y, .slice a3y l3 c3y, .slice a4y l4 c4y, .int .i64 x.sfn, .slice a6y l6 c6y, .slice a7y l7 c7y]] w fun e w' => e = .returned (.bool true) ∧ Below w.heap.size w w' := by
  go_enter Tryz.func10, Tryz.ntmps10
  go_wp2_with (first
    | (go_at_call 32; refine (eqIn_b B1 B2 a2x a2y l2 c2x c2y x.src _ (h2x.below (belB)) (h2y.below (belB))).mono ?_; rintro e' w0 ⟨rfl, hb0⟩; obtain ⟨hc0, hf0, hs0⟩ := bcell hb0; have hz00 : w.heap.size < w0.heap.size := (by have h9 := hb0.size; (try simp at h9); omega); have hz01 : w.heap.size + 1 < w0.heap.size := (by have h9 := hb0.size; (try simp at h9); omega))
    | (go_at_call 33; refine (eqBo_b B1 B2 a3x a3y l3 c3x c3y x.tsk _ (h3x.below (belB)) (h3y.below (belB))).mono ?_; rintro e' w1 ⟨rfl, hb1⟩; obtain ⟨hc1, hf1, hs1⟩ := bcell hb1; have hz10 : w.heap.size < w1.heap.size := (by have h9 := hb1.size; (try simp at h9); omega); have hz11 : w.heap.size + 1 < w1.heap.size := (by have h9 := hb1.size; (try simp at h9); omega))
    | (go_at_call 34; refine (eqSn_b B1 B2 a4x a4y l4 c4x c4y x.sn _ (h4x.below (belB)) (h4y.below (belB))).mono ?_; rintro e' w2 ⟨rfl, hb2⟩; obtain ⟨hc2, hf2, hs2⟩ := bcell hb2; have hz20 : w.heap.size < w2.heap.size := (by have h9 := hb2.size; (try simp at h9); omega); have hz21 : w.heap.size + 1 < w2.heap.size := (by have h9 := hb2.size; (try simp at h9); omega))
    | (go_at_call 35; refine (eqCs_one B1 B2 ⟨x.sfn, x.at_, x.ssn⟩ a6x a6y l6 c6x c6y a7x a7y l7 c7x c7y _ (h6x.below (belB)) (h6y.below (belB)) (h7x.below (belB)) (h7y.below (belB))).mono ?_; rintro e' w3 ⟨rfl, hb3⟩; obtain ⟨hc3, hf3, hs3⟩ := bcell hb3; have hz30 : w.heap.size < w3.heap.size := (by have h9 := hb3.size; (try simp at h9); omega); have hz31 : w.heap.size + 1 < w3.heap.size := (by have h9 := hb3.size; (try simp at h9); omega)))
  go_ret
  exact ⟨rfl, (belB)⟩
end Go.Proofs.YtbjhpiannjepkaaGreat
