/- Laid together: what the claim needs of the texts that were built one by one. -/
import Derived.Test.YtikidpcgnmffcaaGreatPkBase
import Derived.Test.YtikidpcgnmffcaaGreatPkRwPan
namespace Go.Proofs.YtikidpcgnmffcaaGreat
open Go.ChangeShapes Go.WideShapes Go.ChangeAt Go.RowKit
set_option linter.unusedVariables false

/-- What is known of a window, if a row was found. -/
def aggF : Option TbR → Int × Int × Int × Int
  | some x => (x.n, x.su, x.le, x.mo)
  | none => (0, 0, 0, 0)

/-- What is known of both. -/
def bothF (f : Int × Int × Int × Int) (n s l m : Int) : Int × Int × Int × Int := (bo f.1 n f.1 n (wrap64 (f.1 + n)), bo f.1 n f.2.1 s (wrap64 (f.2.1 + s)), bo f.1 n f.2.2.1 l (loI f.2.2.1 l), bo f.1 n f.2.2.2 m (hiI f.2.2.2 m))

def tabAgg (pc : Bool) (rows : List TbR) (p : PnR) : Int × Int × Int × Int := if pc then bothF (aggF (findT p.ky p.st p.en rows)) p.n p.su p.le p.mo else (p.n, p.su, p.le, p.mo)

def tabRow (p : PnR) (g : Int × Int × Int × Int) : TbR := ⟨p.ky, p.st, p.en, g.1, g.2.1, g.2.2.1, g.2.2.2⟩

def tabStep (pc : Bool) (rows : List TbR) (p : PnR) : List TbR := if p.kd = 3 then kpTb p.ky p.st p.en rows else insR (tabRow p (tabAgg pc rows p)) (kpTb p.ky p.st p.en rows)

def tabOfL (pc : Bool) (ps : List PnR) : List TbR := ps.foldl (tabStep pc) []

theorem tabStep_len (pc : Bool) (rows : List TbR) (p : PnR) : (tabStep pc rows p).length ≤ rows.length + 1 := by
  unfold tabStep
  split
  · exact Nat.le_trans (kpTb_le _ _ _ _) (Nat.le_succ _)
  · rw [insR_len]; exact Nat.succ_le_succ (kpTb_le _ _ _ _)

theorem foundV_is (o : Option TbR) {n s l m : Int} (h : aggF o = (n, s, l, m)) : ∃ b, foundV o = .tuple #[.agg #[.int .i64 n, .int .i64 s, .int .i64 l, .int .i64 m], .bool b] := by
  cases o with
  | none => cases h; exact ⟨false, rfl⟩
  | some x => cases h; exact ⟨true, rfl⟩

theorem specboth_at {n s l m n' s' l' m' x y u v : Int} (w : World) (h : Hid (bothF (n, s, l, m) n' s' l' m' = (x, y, u, v))) : Calls Tryz.prog 30 #[.agg #[.int .i64 n, .int .i64 s, .int .i64 l, .int .i64 m], .agg #[.int .i64 n', .int .i64 s', .int .i64 l', .int .i64 m']] w fun e w' => e = .returned (.agg #[.int .i64 x, .int .i64 y, .int .i64 u, .int .i64 v]) ∧ Below w.heap.size w w' := by
  have h9 := unhide h
  simp only [bothF, Prod.mk.injEq] at h9
  obtain ⟨rfl, rfl, rfl, rfl⟩ := h9
  exact specboth_any n s l m n' s' l' m' w
end Go.Proofs.YtikidpcgnmffcaaGreat
