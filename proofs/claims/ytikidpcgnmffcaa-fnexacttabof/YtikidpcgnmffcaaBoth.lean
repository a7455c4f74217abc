/- Proved here: what is known of both, and with one value more, in the program and in the specification, at every argument. -/
import Derived.Test.YtikidpcgnmffcaaAgg
import Derived.LoopN
namespace Go.Proofs.Ytikidpcgnmffcaa
open Go.ChangeShapes Go.WideShapes Go.ChangeAt Go.RowKit
set_option linter.unusedVariables false

/-- One number of what is known of both. -/
def bo (n n' x x' c : Int) : Int := if n = 0 then x' else if n' = 0 then x else c
theorem bo_1 (n' x x' c : Int) : bo 0 n' x x' c = x' := rfl
theorem bo_2 {n : Int} (h : n ≠ 0) (x x' c : Int) : bo n 0 x x' c = x := by unfold bo; rw [if_neg h]; rfl
theorem bo_3 {n n' : Int} (h : n ≠ 0) (h' : n' ≠ 0) (x x' c : Int) : bo n n' x x' c = c := by unfold bo; rw [if_neg h, if_neg h']
theorem ret_agg4 {a b c d a' b' c' d' : Int} (h1 : a' = a) (h2 : b' = b) (h3 : c' = c) (h4 : d' = d) : Ending.returned (.agg #[.int .i64 a, .int .i64 b, .int .i64 c, .int .i64 d]) = .returned (.agg #[.int .i64 a', .int .i64 b', .int .i64 c', .int .i64 d']) := by rw [h1, h2, h3, h4]

set_option maxHeartbeats 1000000 in
theorem both_any (n s l m n' s' l' m' : Int) (w : World) : Calls Try.prog 37 #[.agg #[.int .i64 n, .int .i64 s, .int .i64 l, .int .i64 m], .agg #[.int .i64 n', .int .i64 s', .int .i64 l', .int .i64 m']] w fun e w' => e = .returned (.agg #[.int .i64 (bo n n' n n' (wrap64 (n + n'))), .int .i64 (bo n n' s s' (wrap64 (s + s'))), .int .i64 (bo n n' l l' (loI l l')), .int .i64 (bo n n' m m' (hiI m m'))]) ∧ Below w.heap.size w w' := by
  by_cases h1 : n = 0
  · subst h1
    have hq := hide (bo_1 n')
    go_enter Try.func37, Try.ntmps37
    go_wp2
    refine bodyPost_ret (v := .agg #[.int .i64 n', .int .i64 s', .int .i64 l', .int .i64 m']) (by simp [results, Try.results37, go_sem]) rfl ⟨ret_agg4 (unhide hq _ _ _) (unhide hq _ _ _) (unhide hq _ _ _) (unhide hq _ _ _), ?_⟩
    exact (by repeat (first | exact Below.refl _ _ | exact bel_one _ _ | assumption | refine bel_alloc ?_ _ | refine bel_set ?_ (by first | (simp; done) | (simp; omega)) _ | refine bel_drew ?_ | refine bel_drewN ?_ _ | refine bel_trans ?_ (by assumption)))
  have g1 : (n == 0) = false := by simpa using h1
  by_cases h2 : n' = 0
  · subst h2
    have hq := hide (bo_2 h1)
    clear h1
    go_enter Try.func37, Try.ntmps37
    go_wp2
    refine bodyPost_ret (v := .agg #[.int .i64 n, .int .i64 s, .int .i64 l, .int .i64 m]) (by simp [results, Try.results37, go_sem]) rfl ⟨ret_agg4 (unhide hq _ _ _) (unhide hq _ _ _) (unhide hq _ _ _) (unhide hq _ _ _), ?_⟩
    exact (by repeat (first | exact Below.refl _ _ | exact bel_one _ _ | assumption | refine bel_alloc ?_ _ | refine bel_set ?_ (by first | (simp; done) | (simp; omega)) _ | refine bel_drew ?_ | refine bel_drewN ?_ _ | refine bel_trans ?_ (by assumption)))
  have g2 : (n' == 0) = false := by simpa using h2
  have hq := hide (bo_3 h1 h2)
  clear h1 h2
  by_cases h3 : l' < l <;> by_cases h4 : m < m'
  · have k3 := hide (loI_c h3)
    have k4 := hide (hiI_d h4)
    go_enter Try.func37, Try.ntmps37
    go_wp2
    all_goals first
      | (exfalso; omega)
      | (refine bodyPost_ret (v := .agg #[.int .i64 (wrap64 (n + n')), .int .i64 (wrap64 (s + s')), .int .i64 l', .int .i64 m']) (by simp [results, Try.results37, go_sem]) rfl ⟨ret_agg4 (unhide hq _ _ _) (unhide hq _ _ _) ((unhide hq _ _ _).trans (unhide k3)) ((unhide hq _ _ _).trans (unhide k4)), ?_⟩; exact (by repeat (first | exact Below.refl _ _ | exact bel_one _ _ | assumption | refine bel_alloc ?_ _ | refine bel_set ?_ (by first | (simp; done) | (simp; omega)) _ | refine bel_drew ?_ | refine bel_drewN ?_ _ | refine bel_trans ?_ (by assumption))))
  · have k3 := hide (loI_c h3)
    have k4 := hide (hiI_b h4)
    go_enter Try.func37, Try.ntmps37
    go_wp2
    all_goals first
      | (exfalso; omega)
      | (refine bodyPost_ret (v := .agg #[.int .i64 (wrap64 (n + n')), .int .i64 (wrap64 (s + s')), .int .i64 l', .int .i64 m]) (by simp [results, Try.results37, go_sem]) rfl ⟨ret_agg4 (unhide hq _ _ _) (unhide hq _ _ _) ((unhide hq _ _ _).trans (unhide k3)) ((unhide hq _ _ _).trans (unhide k4)), ?_⟩; exact (by repeat (first | exact Below.refl _ _ | exact bel_one _ _ | assumption | refine bel_alloc ?_ _ | refine bel_set ?_ (by first | (simp; done) | (simp; omega)) _ | refine bel_drew ?_ | refine bel_drewN ?_ _ | refine bel_trans ?_ (by assumption))))
  · have k3 := hide (loI_a h3)
    have k4 := hide (hiI_d h4)
    go_enter Try.func37, Try.ntmps37
    go_wp2
    all_goals first
      | (exfalso; omega)
      | (refine bodyPost_ret (v := .agg #[.int .i64 (wrap64 (n + n')), .int .i64 (wrap64 (s + s')), .int .i64 l, .int .i64 m']) (by simp [results, Try.results37, go_sem]) rfl ⟨ret_agg4 (unhide hq _ _ _) (unhide hq _ _ _) ((unhide hq _ _ _).trans (unhide k3)) ((unhide hq _ _ _).trans (unhide k4)), ?_⟩; exact (by repeat (first | exact Below.refl _ _ | exact bel_one _ _ | assumption | refine bel_alloc ?_ _ | refine bel_set ?_ (by first | (simp; done) | (simp; omega)) _ | refine bel_drew ?_ | refine bel_drewN ?_ _ | refine bel_trans ?_ (by assumption))))
  · have k3 := hide (loI_a h3)
    have k4 := hide (hiI_b h4)
    go_enter Try.func37, Try.ntmps37
    go_wp2
    all_goals first
      | (exfalso; omega)
      | (refine bodyPost_ret (v := .agg #[.int .i64 (wrap64 (n + n')), .int .i64 (wrap64 (s + s')), .int .i64 l, .int .i64 m]) (by simp [results, Try.results37, go_sem]) rfl ⟨ret_agg4 (unhide hq _ _ _) (unhide hq _ _ _) ((unhide hq _ _ _).trans (unhide k3)) ((unhide hq _ _ _).trans (unhide k4)), ?_⟩; exact (by repeat (first | exact Below.refl _ _ | exact bel_one _ _ | assumption | refine bel_alloc ?_ _ | refine bel_set ?_ (by first | (simp; done) | (simp; omega)) _ | refine bel_drew ?_ | refine bel_drewN ?_ _ | refine bel_trans ?_ (by assumption))))

set_option maxHeartbeats 1000000 in
theorem specboth_any (n s l m n' s' l' m' : Int) (w : World) : Calls Try.prog 23 #[.agg #[.int .i64 n, .int .i64 s, .int .i64 l, .int .i64 m], .agg #[.int .i64 n', .int .i64 s', .int .i64 l', .int .i64 m']] w fun e w' => e = .returned (.agg #[.int .i64 (bo n n' n n' (wrap64 (n + n'))), .int .i64 (bo n n' s s' (wrap64 (s + s'))), .int .i64 (bo n n' l l' (loI l l')), .int .i64 (bo n n' m m' (hiI m m'))]) ∧ Below w.heap.size w w' := by
  by_cases h1 : n = 0
  · subst h1
    have hq := hide (bo_1 n')
    go_enter Try.func23, Try.ntmps23
    go_wp2
    refine bodyPost_ret (v := .agg #[.int .i64 n', .int .i64 s', .int .i64 l', .int .i64 m']) (by simp [results, Try.results23, go_sem]) rfl ⟨ret_agg4 (unhide hq _ _ _) (unhide hq _ _ _) (unhide hq _ _ _) (unhide hq _ _ _), ?_⟩
    exact (by repeat (first | exact Below.refl _ _ | exact bel_one _ _ | assumption | refine bel_alloc ?_ _ | refine bel_set ?_ (by first | (simp; done) | (simp; omega)) _ | refine bel_drew ?_ | refine bel_drewN ?_ _ | refine bel_trans ?_ (by assumption)))
  have g1 : (n == 0) = false := by simpa using h1
  by_cases h2 : n' = 0
  · subst h2
    have hq := hide (bo_2 h1)
    clear h1
    go_enter Try.func23, Try.ntmps23
    go_wp2
    refine bodyPost_ret (v := .agg #[.int .i64 n, .int .i64 s, .int .i64 l, .int .i64 m]) (by simp [results, Try.results23, go_sem]) rfl ⟨ret_agg4 (unhide hq _ _ _) (unhide hq _ _ _) (unhide hq _ _ _) (unhide hq _ _ _), ?_⟩
    exact (by repeat (first | exact Below.refl _ _ | exact bel_one _ _ | assumption | refine bel_alloc ?_ _ | refine bel_set ?_ (by first | (simp; done) | (simp; omega)) _ | refine bel_drew ?_ | refine bel_drewN ?_ _ | refine bel_trans ?_ (by assumption)))
  have g2 : (n' == 0) = false := by simpa using h2
  have hq := hide (bo_3 h1 h2)
  clear h1 h2
  by_cases h3 : l' < l <;> by_cases h4 : m < m'
  · have k3 := hide (loI_c h3)
    have k4 := hide (hiI_d h4)
    go_enter Try.func23, Try.ntmps23
    go_wp2
    all_goals first
      | (exfalso; omega)
      | (refine bodyPost_ret (v := .agg #[.int .i64 (wrap64 (n + n')), .int .i64 (wrap64 (s + s')), .int .i64 l', .int .i64 m']) (by simp [results, Try.results23, go_sem]) rfl ⟨ret_agg4 (unhide hq _ _ _) (unhide hq _ _ _) ((unhide hq _ _ _).trans (unhide k3)) ((unhide hq _ _ _).trans (unhide k4)), ?_⟩; exact (by repeat (first | exact Below.refl _ _ | exact bel_one _ _ | assumption | refine bel_alloc ?_ _ | refine bel_set ?_ (by first | (simp; done) | (simp; omega)) _ | refine bel_drew ?_ | refine bel_drewN ?_ _ | refine bel_trans ?_ (by assumption))))
  · have k3 := hide (loI_c h3)
    have k4 := hide (hiI_b h4)
    go_enter Try.func23, Try.ntmps23
    go_wp2
    all_goals first
      | (exfalso; omega)
      | (refine bodyPost_ret (v := .agg #[.int .i64 (wrap64 (n + n')), .int .i64 (wrap64 (s + s')), .int .i64 l', .int .i64 m]) (by simp [results, Try.results23, go_sem]) rfl ⟨ret_agg4 (unhide hq _ _ _) (unhide hq _ _ _) ((unhide hq _ _ _).trans (unhide k3)) ((unhide hq _ _ _).trans (unhide k4)), ?_⟩; exact (by repeat (first | exact Below.refl _ _ | exact bel_one _ _ | assumption | refine bel_alloc ?_ _ | refine bel_set ?_ (by first | (simp; done) | (simp; omega)) _ | refine bel_drew ?_ | refine bel_drewN ?_ _ | refine bel_trans ?_ (by assumption))))
  · have k3 := hide (loI_a h3)
    have k4 := hide (hiI_d h4)
    go_enter Try.func23, Try.ntmps23
    go_wp2
    all_goals first
      | (exfalso; omega)
      | (refine bodyPost_ret (v := .agg #[.int .i64 (wrap64 (n + n')), .int .i64 (wrap64 (s + s')), .int .i64 l, .int .i64 m']) (by simp [results, Try.results23, go_sem]) rfl ⟨ret_agg4 (unhide hq _ _ _) (unhide hq _ _ _) ((unhide hq _ _ _).trans (unhide k3)) ((unhide hq _ _ _).trans (unhide k4)), ?_⟩; exact (by repeat (first | exact Below.refl _ _ | exact bel_one _ _ | assumption | refine bel_alloc ?_ _ | refine bel_set ?_ (by first | (simp; done) | (simp; omega)) _ | refine bel_drew ?_ | refine bel_drewN ?_ _ | refine bel_trans ?_ (by assumption))))
  · have k3 := hide (loI_a h3)
    have k4 := hide (hiI_b h4)
    go_enter Try.func23, Try.ntmps23
    go_wp2
    all_goals first
      | (exfalso; omega)
      | (refine bodyPost_ret (v := .agg #[.int .i64 (wrap64 (n + n')), .int .i64 (wrap64 (s + s')), .int .i64 l, .int .i64 m]) (by simp [results, Try.results23, go_sem]) rfl ⟨ret_agg4 (unhide hq _ _ _) (unhide hq _ _ _) ((unhide hq _ _ _).trans (unhide k3)) ((unhide hq _ _ _).trans (unhide k4)), ?_⟩; exact (by repeat (first | exact Below.refl _ _ | exact bel_one _ _ | assumption | refine bel_alloc ?_ _ | refine bel_set ?_ (by first | (simp; done) | (simp; omega)) _ | refine bel_drew ?_ | refine bel_drewN ?_ _ | refine bel_trans ?_ (by assumption))))

end Go.Proofs.Ytikidpcgnmffcaa
