/- Proved here: what a new task is in memory; copies of an operator's rows. -/
import Derived.Test.YtppdfmclhklkhaaTskN
import Derived.Test.YtppdfmclhklkhaaRwInt
import Derived.Test.YtppdfmclhklkhaaStepA
import Derived.Test.YtppdfmclhklkhaaOwnB
import Derived.Deep.Onto
namespace Go.Proofs.Ytppdfmclhklkhaa
open Go.ChangeShapes Go.WideShapes Go.ChangeAt Go.RowKit
set_option linter.unusedVariables false

/-- The cells of channels that have but a mark; such channels in memory of the call's own. -/
def flatTi (ms : List Int) : List Value := ms.flatMap (fun m => [.slice none 0 0, .int .i64 m, .bool false])
theorem flatTi_len (ms : List Int) : (flatTi ms).length = ms.length * 3 := by
  induction ms with
  | nil => rfl
  | cons x r ih => show (([.slice none 0 0, .int .i64 x, .bool false] : List Value) ++ flatTi r).length = _; rw [List.length_append, ih]; simp; omega
theorem flatTi_snoc (ms : List Int) (m : Int) : flatTi (ms ++ [m]) = flatTi ms ++ [.slice none 0 0, .int .i64 m, .bool false] := by simp [flatTi]
theorem flatTi_get {ms : List Int} {i : Nat} {m : Int} (h : ms[i]? = some m) : (flatTi ms)[i * 3]? = some (.slice none 0 0) ∧ (flatTi ms)[i * 3 + 1]? = some (.int .i64 m) ∧ (flatTi ms)[i * 3 + 2]? = some (.bool false) := by
  induction ms generalizing i with
  | nil => simp at h
  | cons y r ih =>
    have hf : flatTi (y :: r) = [.slice none 0 0, .int .i64 y, .bool false] ++ flatTi r := rfl
    cases i with
    | zero =>
      simp at h
      subst h
      rw [hf]
      exact ⟨rfl, rfl, rfl⟩
    | succ i =>
      simp at h
      obtain ⟨h0, h1, h2⟩ := ih h
      have hl : ([.slice none 0 0, .int .i64 y, .bool false] : List Value).length = 3 := rfl
      rw [hf]
      refine ⟨?_, ?_, ?_⟩
      · rw [List.getElem?_append_right (by omega), hl, show (i + 1) * 3 - 3 = i * 3 by omega]; exact h0
      · rw [List.getElem?_append_right (by omega), hl, show (i + 1) * 3 + 1 - 3 = i * 3 + 1 by omega]; exact h1
      · rw [List.getElem?_append_right (by omega), hl, show (i + 1) * 3 + 2 - 3 = i * 3 + 2 by omega]; exact h2
def OwnTi (W : World) (B : Nat) (v : Value) (ms : List Int) : Prop := W.ownsRow B 70 3 v ms.length (flatTi ms)
theorem ownTi_snoc {w1 : World} {B : Nat} {v' : Value} {ms : List Int} {m : Int} (ho : w1.ownsRow B 70 3 v' (ms.length + 1) (flatTi ms ++ [.slice none 0 0, .int .i64 m, .bool false])) : OwnTi w1 B v' (ms ++ [m]) := by
  unfold OwnTi
  rw [flatTi_snoc]
  simpa using ho
def tiOf (m : Int) : TiD := ⟨[], m, false⟩
def qvs (l : List TiD) : List QV := l.map (fun _ => ⟨none, 0, 0⟩)
theorem qvs_get {l : List TiD} {i : Nat} {q : QV} (h : (qvs l)[i]? = some q) : q = ⟨none, 0, 0⟩ ∧ i < l.length := by
  simp only [qvs, List.getElem?_map, Option.map_eq_some_iff] at h
  obtain ⟨x, hx, rfl⟩ := h
  exact ⟨rfl, (List.getElem?_eq_some_iff.1 hx).1⟩
/-- A new task in memory of the call's own. -/
def NewP (w : World) (D : TkD) (om : Int) (e : Ending) (w' : World) : Prop := ∃ ia il ic oa ol oc, (il = D.ins.length ∧ ol = D.rows.length) ∧ e = .returned (.agg #[.slice ia il ic, .int .i64 om, .slice oa ol oc, .int .i64 0, .int .i64 0, .slice none 0 0, .slice none 0 0]) ∧ TkIs w' w.heap.size ia il oa ol none 0 none 0 D ∧ WrTk w' ia il ic (qvs D.ins) oa ol oc none 0 0 none 0 0 ∧ Below w.heap.size w w'
theorem rowPn_none : rowPn none 0 = none := rfl
theorem rowLp_none : rowLp none 0 = none := rfl
theorem new_is {w W : World} {iv ov : Value} {ms : List Int} {rows : List OrR} (hT : OwnTi W w.heap.size iv ms) (hO : OwnOr W w.heap.size ov rows) (hne : ∀ b, iv.ownBlock = some b → ov.ownBlock ≠ some b) (hm : ms.length ≤ 1048576) (hr : rows.length ≤ 1048576) :
    ∃ ia ic oa oc, iv = .slice ia ms.length ic ∧ ov = .slice oa rows.length oc ∧ TkIs W w.heap.size ia ms.length oa rows.length none 0 none 0 ⟨ms.map tiOf, rows, [], []⟩ ∧ WrTk W ia ms.length ic (qvs (ms.map tiOf)) oa rows.length oc none 0 0 none 0 0 := by
  obtain ⟨oa, oc, rfl, hOr, hWo, hge⟩ := holdOr hO hr
  have hq : ∀ (i : Nat) (q : QV), (qvs (ms.map tiOf))[i]? = some q → q.l ≤ 1048576 := fun i q hx => by rw [(qvs_get hx).1]; simp
  have hql : (qvs (ms.map tiOf)).length = ms.length := by simp [qvs]
  have hqb : ∀ (i : Nat) (q : QV), (qvs (ms.map tiOf))[i]? = some q → ∀ b, q.blk ≠ some b := fun i q hx b => by rw [(qvs_get hx).1]; unfold QV.blk; rw [rowIw_zero]; simp
  have hap : ∀ (i j : Nat) (q q' : QV), i ≠ j → (qvs (ms.map tiOf))[i]? = some q → (qvs (ms.map tiOf))[j]? = some q' → ∀ b, q.blk = some b → q'.blk ≠ some b := fun i j q q' _ hx _ b hb => absurd hb (hqb i q hx b)
  have hmm : ms.length ≤ maxLen := by unfold maxLen; omega
  have hPn : PnB W w.heap.size none 0 [] := ⟨⟨rfl, Nat.zero_le _, Or.inl rfl⟩, fun g o h => absurd h (by omega)⟩
  have hLp : LpB W w.heap.size none 0 [] := ⟨⟨rfl, Nat.zero_le _, Or.inl rfl⟩, fun g o h => absurd h (by omega)⟩
  have hs2 : ∀ b, rowOr oa rows.length = some b → rowPn none 0 ≠ some b ∧ rowLp none 0 ≠ some b := fun b _ => ⟨by rw [rowPn_none]; simp, by rw [rowLp_none]; simp⟩
  have hs3 : ∀ b, rowPn none 0 = some b → rowLp none 0 ≠ some b := fun b h => by rw [rowPn_none] at h; cases h
  obtain ⟨hlen, h | ⟨g, cap, cur, rfl, hB, hblk, hnc, hcm, hsz, htk⟩⟩ := hT
  · obtain ⟨rfl, h0⟩ := h
    obtain rfl := List.eq_nil_of_length_eq_zero h0
    exact ⟨none, 0, oa, oc, rfl, rfl, ⟨⟨rfl, Nat.zero_le _, Or.inl rfl⟩, ⟨hOr, hge⟩, hPn, hLp⟩, ⟨⟨rfl, hq, Or.inl rfl, hap⟩, hWo, Or.inl rfl, Or.inl rfl, ⟨by simp, hr, by simp, by simp⟩, fun b hb => by
      rcases hb with hb | ⟨i, q, hx, hb⟩
      · cases hb
      · exact absurd hb (hqb i q hx b), hs2, hs3⟩⟩
  · have hcell : ∀ j u, j < ms.length * 3 → (flatTi ms)[j]? = some u → W.cell? ⟨g, j, none⟩ = some u := by
      intro j u hj hu
      rw [Joins.cell_of_block hblk j, ← Array.getElem?_toList]
      rw [← htk, List.getElem?_take_of_lt hj] at hu
      exact hu
    refine ⟨some ⟨g, 0, none⟩, cap, oa, oc, rfl, rfl, ⟨⟨by simp, hmm, Or.inr ⟨g, 0, rfl, hB, ?_⟩⟩, ⟨hOr, hge⟩, hPn, hLp⟩, ⟨⟨hql, hq, Or.inr ⟨g, rfl, ⟨cur, hblk, hsz⟩, hnc, ?_⟩, hap⟩, hWo, Or.inl rfl, Or.inl rfl, ⟨hm, hr, by simp, by simp⟩, ?_, hs2, hs3⟩⟩
    · intro i x hx
      simp only [List.getElem?_map, Option.map_eq_some_iff] at hx
      obtain ⟨m, hmi, rfl⟩ := hx
      have hi : i < ms.length := (List.getElem?_eq_some_iff.1 hmi).1
      obtain ⟨f0, f1, f2⟩ := flatTi_get hmi
      rw [Nat.zero_add]
      exact ⟨none, 0, 0, hcell _ _ (by omega) f0, hcell _ _ (by omega) f1, hcell _ _ (by omega) f2, ⟨rfl, Nat.zero_le _, Or.inl rfl⟩, fun _ _ h => absurd h (by omega)⟩
    · intro i q hx
      obtain ⟨rfl, hi⟩ := qvs_get hx
      have hi' : i < ms.length := by simpa using hi
      obtain ⟨f0, _, _⟩ := flatTi_get (List.getElem?_eq_getElem hi')
      exact ⟨hcell _ _ (by omega) f0, Or.inl rfl, hqb i _ hx g⟩
    · intro b hb
      have hbg : b = g := by
        rcases hb with hb | ⟨i, q, hx, hb⟩
        · by_cases h0 : ms.length = 0
          · unfold rowTi at hb; rw [if_pos h0] at hb; cases hb
          · rw [rowTi_pos h0] at hb; cases hb; rfl
        · exact absurd hb (hqb i q hx b)
      subst hbg
      refine ⟨fun e => ?_, by rw [rowPn_none]; simp, by rw [rowLp_none]; simp⟩
      rcases hWo with hW | ⟨g', ha', _, _⟩
      · rw [hW, rowOr_zero] at e; cases e
      · by_cases h0 : rows.length = 0
        · rw [h0, rowOr_zero] at e; cases e
        · rw [ha', rowOr_pos h0] at e
          cases e
          exact hne b rfl (by rw [ha']; rfl)

/-- An operator's rows in a block at its beginning. -/
def OrG (W : World) (g len : Nat) (xs : List OrR) : Prop := xs.length = len ∧ len ≤ maxLen ∧ OrRsAt W g 0 xs ∧ BlkOr W g 80 len
theorem OrG.rs {W : World} {g len : Nat} {xs : List OrR} (h : OrG W g len xs) : OrRs W (some ⟨g, 0, none⟩) len xs := ⟨h.1, h.2.1, Or.inr ⟨g, 0, rfl, h.2.2.1⟩⟩
theorem OrG.wr {W : World} {g len : Nat} {xs : List OrR} (h : OrG W g len xs) : WrOr W (some ⟨g, 0, none⟩) len len := Or.inr ⟨g, rfl, h.2.2.2, Nat.le_refl _⟩
theorem OrG.lt {W : World} {g len : Nat} {xs : List OrR} (h : OrG W g len xs) : g < W.heap.size := h.2.2.2.lt
theorem OrG.below {W W' : World} {g len : Nat} {xs : List OrR} (h : OrG W g len xs) (hb : Below W.heap.size W W') : OrG W' g len xs := ⟨h.1, h.2.1, h.2.2.1.below hb (fun _ => h.lt), h.2.2.2.below hb h.lt⟩
theorem OrG.set {W : World} {p : Addr} {v : Value} {g len : Nat} {xs : List OrR} (h : OrG W g len xs) (hp : p.block ≠ g) : OrG (W.setCell p v) g len xs := by
  have hgb : (W.setCell p v).heap[g]? = W.heap[g]? := Below.heap_setCell _ _ _ _ (fun e => hp e.symm)
  obtain ⟨h1, h2, h3, cur, c1, c2⟩ := h
  refine ⟨h1, h2, fun i x hx => (h3 i x hx).grown (grown_one p v) (fun e => hp (by injection e with e; exact e.symm)), cur, hgb.trans c1, c2⟩
theorem OrG.cells {W : World} {g len : Nat} {xs : List OrR} (h : OrG W g len xs) : ∀ j u, (flatOr xs)[j]? = some u → W.cell? ((⟨g, 0, none⟩ : Addr).add j) = some u := by
  intro j u hu
  have e : ((⟨g, 0, none⟩ : Addr).add j) = ⟨g, j, none⟩ := by
    unfold Addr.add
    split
    · rename_i h0; rw [h0]
    · simp
  rw [e]
  have hj : j < xs.length * 13 := by rw [← flatOr_len]; exact (List.getElem?_eq_some_iff.1 hu).1
  have hi : j / 13 < xs.length := by omega
  obtain ⟨x, hx⟩ : ∃ x, xs[j / 13]? = some x := ⟨_, List.getElem?_eq_getElem hi⟩
  obtain ⟨f0, f1, f2, f3, f4, f5, f6, f7, f8, f9, f10, f11, f12⟩ := flatOr_get hx
  obtain ⟨c0, c1, c2, c3, c4, c5, c6, c7, c8, c9, c10, c11, c12⟩ := h.2.2.1 (j / 13) x hx
  rw [Nat.zero_add] at c0 c1 c2 c3 c4 c5 c6 c7 c8 c9 c10 c11 c12
  have hmod : j = j / 13 * 13 ∨ j = j / 13 * 13 + 1 ∨ j = j / 13 * 13 + 2 ∨ j = j / 13 * 13 + 3 ∨ j = j / 13 * 13 + 4 ∨ j = j / 13 * 13 + 5 ∨ j = j / 13 * 13 + 6 ∨ j = j / 13 * 13 + 7 ∨ j = j / 13 * 13 + 8 ∨ j = j / 13 * 13 + 9 ∨ j = j / 13 * 13 + 10 ∨ j = j / 13 * 13 + 11 ∨ j = j / 13 * 13 + 12 := by omega
  rcases hmod with hj | hj | hj | hj | hj | hj | hj | hj | hj | hj | hj | hj | hj
  · rw [hj, f0] at hu; cases hu; rw [hj]; exact c0
  · rw [hj, f1] at hu; cases hu; rw [hj]; exact c1
  · rw [hj, f2] at hu; cases hu; rw [hj]; exact c2
  · rw [hj, f3] at hu; cases hu; rw [hj]; exact c3
  · rw [hj, f4] at hu; cases hu; rw [hj]; exact c4
  · rw [hj, f5] at hu; cases hu; rw [hj]; exact c5
  · rw [hj, f6] at hu; cases hu; rw [hj]; exact c6
  · rw [hj, f7] at hu; cases hu; rw [hj]; exact c7
  · rw [hj, f8] at hu; cases hu; rw [hj]; exact c8
  · rw [hj, f9] at hu; cases hu; rw [hj]; exact c9
  · rw [hj, f10] at hu; cases hu; rw [hj]; exact c10
  · rw [hj, f11] at hu; cases hu; rw [hj]; exact c11
  · rw [hj, f12] at hu; cases hu; rw [hj]; exact c12
theorem flatOr_one (xs : List OrR) : ∀ u ∈ flatOr xs, u.oneCell' = true := by
  intro u hu
  simp only [flatOr, List.mem_flatMap] at hu
  obtain ⟨x, _, hx⟩ := hu
  simp only [OrR.cells, List.mem_cons, List.not_mem_nil, or_false] at hx
  rcases hx with rfl | rfl | rfl | rfl | rfl | rfl | rfl | rfl | rfl | rfl | rfl | rfl | rfl <;> rfl
end Go.Proofs.Ytppdfmclhklkhaa
