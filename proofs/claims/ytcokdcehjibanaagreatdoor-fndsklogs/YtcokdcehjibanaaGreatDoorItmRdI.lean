/- Proved here: an item is read by the program. -/
import Derived.Test.YtcokdcehjibanaaGreatDoorItmRdS
namespace Go.Proofs.YtcokdcehjibanaaGreatDoor
open Go.ChangeShapes Go.WideShapes Go.ChangeAt Go.RowKit
set_option linter.unusedVariables false


theorem joinW_len (L : List (List UInt8)) : L.length ≤ (joinW L).length + 1 := by
  induction L with
  | nil => simp
  | cons x t ih => cases t with
    | nil => simp
    | cons y t =>
      simp only [joinW, List.length_append, List.length_cons] at ih ⊢
      omega
theorem joinW_mem (L : List (List UInt8)) : ∀ x ∈ L, x.length ≤ (joinW L).length := by
  induction L with
  | nil => intro x h; simp at h
  | cons y t ih => cases t with
    | nil => intro x h; simp at h; rw [h]; simp [joinW]
    | cons z t =>
      intro x h
      simp only [joinW, List.length_append, List.length_cons]
      rcases List.mem_cons.1 h with rfl | h
      · omega
      · have := ih x h
        omega
theorem split_any {tp1 tp2 : TypeId} {p1 p2 : Value} {m : Int} {s : ByteArray} {w : World} (hE : Env tp1 tp2 p1 p2 m w) (hs : s.size ≤ 100) : Calls Tryz.prog 45 #[.string s, .string ⟨#[32]⟩] w fun e w' => ∃ L : List ByteArray, e = .returned (.slice (some ⟨w.heap.size, 0, none⟩) L.length L.length) ∧ StRs w' (some ⟨w.heap.size, 0, none⟩) L.length (stL L) ∧ Wo (bl L) s.data.toList ∧ (0 < L.length ∧ L.length ≤ 101) ∧ (∀ x ∈ L, x.size ≤ 100) ∧ Below w.heap.size w w' := by
  refine (Tryz.strings_Split s ⟨#[32]⟩ m w (by omega) hE.ml (by decide)).mono ?_
  rintro e w' ⟨rfl, rfl⟩
  have hwo := splitB_wo s
  have hlen : (Lib.splitB ⟨#[32]⟩ 0 (Lib.countB s ⟨#[32]⟩) s).length = Lib.countB s ⟨#[32]⟩ + 1 := Lib.splitB_all _ (by decide) 0 _ s rfl
  generalize Lib.splitB ⟨#[32]⟩ 0 (Lib.countB s ⟨#[32]⟩) s = L at hwo hlen ⊢
  have hsz : s.data.toList.length = s.size := by rw [Array.length_toList]; rfl
  have h1 := joinW_len (bl L)
  have h2 := joinW_mem (bl L)
  have hwo : Wo (bl L) s.data.toList := hwo
  rw [hwo.2.2, hsz] at h1 h2
  have h3 : (bl L).length = L.length := by simp [bl]
  refine ⟨L, by rw [hlen], ⟨stL_len L, by unfold maxLen; omega, Or.inr ⟨_, 0, rfl, fun i x hx => ?_⟩⟩, hwo, ⟨by omega, by omega⟩, fun x hx => ?_, bel_one _ _⟩
  · simp only [stL, List.getElem?_map, Option.map_eq_some_iff] at hx
    obtain ⟨y, hy, rfl⟩ := hx
    have hi := (List.getElem?_eq_some_iff.1 hy).1
    simp [StRAt, go_sem, hy]
  · have := h2 x.data.toList (by simp [bl]; exact ⟨x, hx, rfl⟩)
    rw [Array.length_toList] at this
    have h9 : x.data.size = x.size := rfl
    omega
/-- Numbers lie in a slice. -/
def NumsAt (W : World) (a : Option Addr) (ns : List Int) : Prop := ns = [] ∨ ∃ g, a = some ⟨g, 0, none⟩ ∧ ∀ (i : Nat) (z : Int), ns[i]? = some z → W.cell? ⟨g, i, none⟩ = some (.int .i64 z)
theorem numsAt_of {W : World} {B : Nat} {v : Value} {ns : List Int} (h : OwnI W B v ns) : ∃ a c, v = .slice a ns.length c ∧ NumsAt W a ns := by
  obtain ⟨hlen, h | ⟨g, cap, cur, rfl, hB, hblk, hnc, hcm, hsz, htk⟩⟩ := h
  · obtain ⟨rfl, h0⟩ := h
    have : ns = [] := List.eq_nil_of_length_eq_zero h0
    subst this
    exact ⟨none, 0, rfl, Or.inl rfl⟩
  · refine ⟨_, cap, rfl, Or.inr ⟨g, rfl, fun i z hz => ?_⟩⟩
    have h1 : (ns.map fun z => Value.int .i64 z)[i]? = some (.int .i64 z) := by simp [hz]
    have hi := (List.getElem?_eq_some_iff.1 hz).1
    rw [Joins.cell_of_block hblk i, ← Array.getElem?_toList]
    rw [← htk, List.getElem?_take_of_lt (by simpa using hi)] at h1
    exact h1
/-- The item of a word and the numbers behind it. -/
def itX (x : ByteArray) (ns : List Int) : Int × Int × Int × Int × Int := if x = ⟨#[114, 101, 99]⟩ ∧ ns.length = 3 then (1, ns.getD 0 0, ns.getD 1 0, ns.getD 2 0, 0) else if x = ⟨#[109, 97, 114, 107]⟩ ∧ ns.length = 1 then (2, ns.getD 0 0, 0, 0, 0) else if x = ⟨#[119, 97, 108, 108]⟩ ∧ ns.length = 1 then (3, 0, 0, 0, ns.getD 0 0) else (0, 0, 0, 0, 0)
theorem three {α : Type} {l : List α} (h : l.length = 3) : ∃ a b c, l = [a, b, c] := by
  match l, h with
  | [a, b, c], _ => exact ⟨a, b, c, rfl⟩
theorem one {α : Type} {l : List α} (h : l.length = 1) : ∃ a, l = [a] := by
  match l, h with
  | [a], _ => exact ⟨a, rfl⟩
/-- The words are all numbers. -/
def NsOf (M : List ByteArray) (ns : List Int) : Prop := ns.length = M.length ∧ ∀ (i : Nat) (y : ByteArray) (z : Int), M[i]? = some y → ns[i]? = some z → RdP y z true
theorem itX_back {x : ByteArray} {M : List ByteArray} {ns : List Int} {q t k v n : Int} (hN : NsOf M ns) (hX : itX x ns = (q, t, k, v, n)) (ho : okItm q t k v n = true) : x :: M = itW q t k v n := by
  unfold itX at hX
  split at hX
  · rename_i hc
    obtain ⟨rfl, hl⟩ := hc
    obtain ⟨m1, m2, m3, rfl⟩ := three (hN.1.symm.trans hl)
    obtain ⟨a, b, c, rfl⟩ := three hl
    simp only [List.getD_cons_zero, List.getD_cons_succ, Prod.mk.injEq] at hX
    obtain ⟨rfl, rfl, rfl, rfl, rfl⟩ := hX
    rw [rd_txt (hN.2 0 m1 _ rfl rfl), rd_txt (hN.2 1 m2 _ rfl rfl), rd_txt (hN.2 2 m3 _ rfl rfl)]
    simp [itW]
  · split at hX
    · rename_i hc
      obtain ⟨rfl, hl⟩ := hc
      obtain ⟨m1, rfl⟩ := one (hN.1.symm.trans hl)
      obtain ⟨a, rfl⟩ := one hl
      simp only [List.getD_cons_zero, Prod.mk.injEq] at hX
      obtain ⟨rfl, rfl, rfl, rfl, rfl⟩ := hX
      rw [rd_txt (hN.2 0 m1 _ rfl rfl)]
      simp [itW]
    · split at hX
      · rename_i hc
        obtain ⟨rfl, hl⟩ := hc
        obtain ⟨m1, rfl⟩ := one (hN.1.symm.trans hl)
        obtain ⟨a, rfl⟩ := one hl
        simp only [List.getD_cons_zero, Prod.mk.injEq] at hX
        obtain ⟨rfl, rfl, rfl, rfl, rfl⟩ := hX
        rw [rd_txt (hN.2 0 m1 _ rfl rfl)]
        simp [itW]
      · simp only [Prod.mk.injEq] at hX
        obtain ⟨rfl, rfl, rfl, rfl, rfl⟩ := hX
        have := (okItm_bd ho).1
        omega
set_option linter.unusedSimpArgs false in
theorem itX_fwd {x : ByteArray} {M : List ByteArray} {ns : List Int} {q t k v n : Int} (hN : NsOf M ns) (h : x :: M = itW q t k v n) (ho : okItm q t k v n = true) : itX x ns = (q, t, k, v, n) := by
  obtain ⟨hq, bt, bk, bv, bn, c1, c2, c3⟩ := okItm_bd ho
  have n1 : (⟨#[109, 97, 114, 107]⟩ : ByteArray) ≠ ⟨#[114, 101, 99]⟩ := ba_ne (by decide)
  have n2 : (⟨#[119, 97, 108, 108]⟩ : ByteArray) ≠ ⟨#[114, 101, 99]⟩ := ba_ne (by decide)
  have n3 : (⟨#[119, 97, 108, 108]⟩ : ByteArray) ≠ ⟨#[109, 97, 114, 107]⟩ := ba_ne (by decide)
  rcases hq with rfl | rfl | rfl
  · have := c1 rfl
    subst this
    simp only [itW, if_true, List.cons.injEq] at h
    obtain ⟨rfl, rfl⟩ := h
    obtain ⟨a, b, c, rfl⟩ := three hN.1
    have h1 := (rd_decI (by omega) (by omega) rfl (hN.2 0 _ _ rfl rfl)).2
    have h2 := (rd_decI (by omega) (by omega) rfl (hN.2 1 _ _ rfl rfl)).2
    have h3 := (rd_decI (by omega) (by omega) rfl (hN.2 2 _ _ rfl rfl)).2
    subst h1 h2 h3
    simp [itX]
  · obtain ⟨rfl, rfl, rfl⟩ := c2 rfl
    simp only [itW, if_true, if_false, Int.reduceEq, List.cons.injEq] at h
    obtain ⟨rfl, rfl⟩ := h
    obtain ⟨a, rfl⟩ := one hN.1
    have h1 := (rd_decI (by omega) (by omega) rfl (hN.2 0 _ _ rfl rfl)).2
    subst h1
    simp [itX]
  · obtain ⟨rfl, rfl, rfl⟩ := c3 rfl
    simp only [itW, if_true, if_false, Int.reduceEq, List.cons.injEq] at h
    obtain ⟨rfl, rfl⟩ := h
    obtain ⟨a, rfl⟩ := one hN.1
    have h1 := (rd_decI (by omega) (by omega) rfl (hN.2 0 _ _ rfl rfl)).2
    subst h1
    simp [itX, n3]
set_option linter.unusedSimpArgs false in
theorem itw_rd {M : List ByteArray} {x : ByteArray} {q t k v n : Int} (h : x :: M = itW q t k v n) (ho : okItm q t k v n = true) : ∀ y ∈ M, ∀ z, ¬ RdP y z false := by
  obtain ⟨hq, bt, bk, bv, bn, c1, c2, c3⟩ := okItm_bd ho
  intro y hy z hr
  rcases hq with rfl | rfl | rfl
  · simp only [itW, if_true, List.cons.injEq] at h
    obtain ⟨rfl, rfl⟩ := h
    simp only [List.mem_cons, List.not_mem_nil, or_false] at hy
    rcases hy with rfl | rfl | rfl <;> cases (rd_decI (by omega) (by omega) rfl hr).1
  · simp only [itW, if_true, if_false, Int.reduceEq, List.cons.injEq] at h
    obtain ⟨rfl, rfl⟩ := h
    simp only [List.mem_cons, List.not_mem_nil, or_false] at hy
    rcases hy with rfl
    cases (rd_decI (by omega) (by omega) rfl hr).1
  · simp only [itW, if_true, if_false, Int.reduceEq, List.cons.injEq] at h
    obtain ⟨rfl, rfl⟩ := h
    simp only [List.mem_cons, List.not_mem_nil, or_false] at hy
    rcases hy with rfl
    cases (rd_decI (by omega) (by omega) rfl hr).1
end Go.Proofs.YtcokdcehjibanaaGreatDoor
