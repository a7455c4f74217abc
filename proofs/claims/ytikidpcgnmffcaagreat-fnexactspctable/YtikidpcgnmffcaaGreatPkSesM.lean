/- Laid together: what the claim needs of the texts that were built one by one. -/
import Derived.Test.YtikidpcgnmffcaaGreatPkTabOfM
import Derived.Test.YtikidpcgnmffcaaGreatPkRwLat
import Derived.Test.YtikidpcgnmffcaaGreatPkWin2
import Derived.Test.YtikidpcgnmffcaaGreatPkBase
namespace Go.Proofs.YtikidpcgnmffcaaGreat
open Go.RowKit
set_option linter.unusedVariables false

/-- One value more is known. -/
def addF (g : Ag4) (v : Int) : Ag4 := (bo g.1 1 g.1 1 (wrap64 (g.1 + 1)), bo g.1 1 g.2.1 v (wrap64 (g.2.1 + v)), bo g.1 1 g.2.2.1 v (loI g.2.2.1 v), bo g.1 1 g.2.2.2 v (hiI g.2.2.2 v))

/-- A pair, as a pane that has but what is new. -/
def pnOf (x : LpR) : PnR := ⟨x.ke, x.st, x.en, 0, 1, 1, x.va, x.va, x.va⟩

theorem addF_both (g : Ag4) (v : Int) : addF g v = bothF g 1 v v v := rfl

/-- Sessions so far: the span, what is known, and those apart. -/
structure Ses where
  a : Int
  b : Int
  g : Ag4
  l : List TbR

def sesStep (k a b : Int) (q : Ses) (r : TbR) : Ses := if r.ky = k ∧ touchB r.st r.en a b = true then ⟨loI q.a r.st, hiI q.b r.en, bothF q.g r.n r.su r.le r.mo, q.l⟩ else ⟨q.a, q.b, q.g, q.l ++ [r]⟩

def sesAll (k a b : Int) (g : Ag4) (rows : List TbR) : Ses := rows.foldl (sesStep k a b) ⟨a, b, g, []⟩

def sesRow (k : Int) (q : Ses) : TbR := ⟨k, q.a, q.b, q.g.1, q.g.2.1, q.g.2.2.1, q.g.2.2.2⟩

def sesPut (k a b : Int) (g : Ag4) (rows : List TbR) : List TbR := insR (sesRow k (sesAll k a b g rows)) (kpTb k (sesAll k a b g rows).a (sesAll k a b g rows).b (sesAll k a b g rows).l)

theorem sesAll_snoc {k a b : Int} {g : Ag4} {rows : List TbR} {i : Nat} {r : TbR} (h : rows[i]? = some r) : sesAll k a b g (rows.take (i + 1)) = sesStep k a b (sesAll k a b g (rows.take i)) r := by
  unfold sesAll
  rw [List.take_add_one, h, List.foldl_append]
  rfl

theorem sesStep_len (k a b : Int) (q : Ses) (r : TbR) : (sesStep k a b q r).l.length ≤ q.l.length + 1 := by
  unfold sesStep; split <;> simp

theorem sesAll_len (k a b : Int) (g : Ag4) (rows : List TbR) : (sesAll k a b g rows).l.length ≤ rows.length := by
  suffices h : ∀ (rows : List TbR) (q : Ses), (rows.foldl (sesStep k a b) q).l.length ≤ q.l.length + rows.length by
    have := h rows ⟨a, b, g, []⟩; simpa [sesAll] using this
  intro rows
  induction rows with
  | nil => intro q; simp
  | cons r t ih =>
    intro q
    have h1 := ih (sesStep k a b q r)
    have h2 := sesStep_len k a b q r
    simp only [List.foldl_cons, List.length_cons]
    omega

theorem sesPut_len (k a b : Int) (g : Ag4) (rows : List TbR) : (sesPut k a b g rows).length ≤ rows.length + 1 := by
  unfold sesPut
  rw [insR_len]
  have h1 := sesAll_len k a b g rows
  have h2 : (kpTb k (sesAll k a b g rows).a (sesAll k a b g rows).b (sesAll k a b g rows).l).length ≤ (sesAll k a b g rows).l.length := List.length_filter_le _ _
  omega

/-- The table behind one more pair. -/
def stepP (kd : Int) (rows : List TbR) (x : LpR) : List TbR := if kd = 3 then sesPut x.ke x.st x.en (addF ag0 x.va) rows else tabStep true rows (pnOf x)

def tabP (kd : Int) (prs : List LpR) : List TbR := prs.foldl (stepP kd) []

theorem tabP_snoc {kd : Int} {prs : List LpR} {i : Nat} {x : LpR} (h : prs[i]? = some x) : tabP kd (prs.take (i + 1)) = stepP kd (tabP kd (prs.take i)) x := by
  unfold tabP
  rw [List.take_add_one, h, List.foldl_append]
  rfl

theorem tabP_app (kd : Int) (prs : List LpR) (x : LpR) : tabP kd (prs ++ [x]) = stepP kd (tabP kd prs) x := by
  unfold tabP
  rw [List.foldl_append]
  rfl

theorem stepP_len (kd : Int) (rows : List TbR) (x : LpR) : (stepP kd rows x).length ≤ rows.length + 1 := by
  unfold stepP
  split
  · exact sesPut_len _ _ _ _ _
  · exact tabStep_len _ _ _

theorem tabP_len (kd : Int) (prs : List LpR) : (tabP kd prs).length ≤ prs.length := by
  suffices h : ∀ (prs : List LpR) (rows : List TbR), (prs.foldl (stepP kd) rows).length ≤ rows.length + prs.length by
    have := h prs []; simpa [tabP] using this
  intro prs
  induction prs with
  | nil => intro rows; simp
  | cons x t ih =>
    intro rows
    have h1 := ih (stepP kd rows x)
    have h2 := stepP_len kd rows x
    simp only [List.foldl_cons, List.length_cons]
    omega

/-- Where windows do not grow: as panes tell it. -/
theorem tabP_panes {kd : Int} (h : ¬ kd = 3) (prs : List LpR) : tabP kd prs = tabOfL true (prs.map pnOf) := by
  unfold tabP tabOfL
  rw [List.foldl_map]
  congr 1
  funext rows x
  unfold stepP
  rw [if_neg h]

theorem stepP_row {kd : Int} (h : ¬ kd = 3) (rows : List TbR) (x : LpR) : stepP kd rows x = insR (⟨x.ke, x.st, x.en, (addF (aggF (findT x.ke x.st x.en rows)) x.va).1, (addF (aggF (findT x.ke x.st x.en rows)) x.va).2.1, (addF (aggF (findT x.ke x.st x.en rows)) x.va).2.2.1, (addF (aggF (findT x.ke x.st x.en rows)) x.va).2.2.2⟩ : TbR) (kpTb x.ke x.st x.en rows) := by
  unfold stepP
  rw [if_neg h]
  rfl
end Go.Proofs.YtikidpcgnmffcaaGreat
