/- Laid together: what the claim needs of the texts that were built one by one. -/
import Derived.Test.YtikidpcgnmffcaaGreatPkTabOfM
import Derived.Test.YtikidpcgnmffcaaGreatPkBoth2
import Derived.Test.YtikidpcgnmffcaaGreatPkBase
import Derived.Test.YtikidpcgnmffcaaGreatPkRwaPan
import Derived.BigQuiet
namespace Go.Proofs.YtikidpcgnmffcaaGreat
open Go.ChangeShapes Go.WideShapes Go.ChangeAt Go.RowKit Go.Maps
set_option linter.unusedVariables false

theorem OwnsV.store {w : World} {b n : Nat} {m : P3 → Option Value} (h : OwnsV w b n m) (hn : n < maxLen) (q : P3) (hq : ok3 q) (val : Value) :
    ∃ w', (Instr.mapUpdate 74 (.map (some b)) (.agg #[.int .i64 q.1, .int .i64 q.2.1, .int .i64 q.2.2]) val).run Tryz.prog w = .ok () w' ∧ OwnsV w' b (n + 1) (fun x => if x = q then some val else m x) ∧ w.grownBy w' (some b) :=
  OwnsOp.store h key3 Tryz.underlying74 hn some3 inj3 q hq val (ps := []) rfl

theorem OwnsV.drop {w : World} {b n : Nat} {m : P3 → Option Value} (h : OwnsV w b n m) (q : P3) (hq : ok3 q) (ty : TypeId) :
    ∃ w', (Builtin.delete_ #[74, 76] ty #[.map (some b), .agg #[.int .i64 q.1, .int .i64 q.2.1, .int .i64 q.2.2]]).run Tryz.prog w = .ok (.tuple #[]) w' ∧ OwnsV w' b n (fun x => if x = q then none else m x) ∧ w.grownBy w' (some b) :=
  OwnsOp.drop h key3 Tryz.underlying74 some3 inj3 q hq ty

theorem OwnsV.more {w : World} {b n n2 : Nat} {m : P3 → Option Value} (h : OwnsV w b n m) (hn : n ≤ n2) : OwnsV w b n2 m := OwnsOp.more h hn

theorem OwnsV.bel {w w' : World} {b n : Nat} {m : P3 → Option Value} (h : OwnsV w b n m) (hb : Below w.heap.size w w') : OwnsV w' b n m := OwnsOp.below h hb

theorem step_both {f : P3 → Option Ag4} {p : PnR} {a b c d : Int} (h : ¬ p.kd = 3) (hb : bothF ((f (plP p)).getD ag0) p.n p.su p.le p.mo = (a, b, c, d)) : (fun x => if x = plP p then some (.agg #[.int .i64 a, .int .i64 b, .int .i64 c, .int .i64 d]) else (f x).map agV) = fun x => (stepF true f p x).map agV := by
  funext x
  unfold stepF
  by_cases e : x = plP p
  · simp [e, h, hb, agV]
  · simp [e]

theorem val_get {m : Option Ag4} {a b c d : Int} (h : m.getD ag0 = (a, b, c, d)) : (m.map agV).getD (agV ag0) = .agg #[.int .i64 a, .int .i64 b, .int .i64 c, .int .i64 d] := by
  cases m with
  | none => simp only [Option.getD_none] at h; unfold ag0 at h; cases h; rfl
  | some x => simp at h; simp [h, agV]
end Go.Proofs.YtikidpcgnmffcaaGreat
