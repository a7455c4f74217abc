/- Proved here: what is known of both, and with one value more, in the program and in the specification, at every argument. -/
import Derived.Test.YtbockbdlojkpiaaGreatAgg
import Derived.LoopN
namespace Go.Proofs.YtbockbdlojkpiaaGreat
open Go.ChangeShapes Go.WideShapes Go.ChangeAt Go.RowKit
set_option linter.unusedVariables false

/-- One number of what is known of both. -/
def bo (n n' x x' c : Int) : Int := if n = 0 then x' else if n' = 0 then x else c
theorem bo_1 (n' x x' c : Int) : bo 0 n' x x' c = x' := rfl
theorem bo_2 {n : Int} (h : n ≠ 0) (x x' c : Int) : bo n 0 x x' c = x := by unfold bo; rw [if_neg h]; rfl
theorem bo_3 {n n' : Int} (h : n ≠ 0) (h' : n' ≠ 0) (x x' c : Int) : bo n n' x x' c = c := by unfold bo; rw [if_neg h, if_neg h']
theorem ret_agg4 {a b c d a' b' c' d' : Int} (h1 : a' = a) (h2 : b' = b) (h3 : c' = c) (h4 : d' = d) : Ending.returned (.agg #[.int .i64 a, .int .i64 b, .int .i64 c, .int .i64 d]) = .returned (.agg #[.int .i64 a', .int .i64 b', .int .i64 c', .int .i64 d']) := by rw [h1, h2, h3, h4]

set_option maxHeartbeats 1000000 in
theorem both_any (n s l m n' s' l' m' : Int) (w : World) : Calls Tryz.prog 56 #[.agg #[.int .i64 n, .int .i64 s, .int .i64 l, .int .i64 m], .agg #[.int .i64 n', .int .i64 s', .int .i64 l', .int .i64 m']] w fun e w' => e = .returned (.agg #[.int .i64 (bo n n' n n' (wrap64 (n + n'))), .int .i64 (bo n n' s s' (wrap64 (s + s'))), .int .i64 (bo n n' l l' (loI l l')), .int .i64 (bo n n' m m' (hiI m m'))]) ∧ Below w.heap.size w w' := by
  by_cases h1 : n = 0
  · subst h1
    have hq := hide (bo_1 n')
    go_enter Tryz.func56, Tryz.ntmps56
    go_wp2
    refine bodyPost_ret (v := .agg #[.int .i64 n', .int .i64 s', .int .i64 l', .int .i64 m']) (by simp [results, Tryz.results56, go_sem]) rfl ⟨ret_agg4 (unhide hq _ _ _) (unhide hq _ _ _) (unhide hq _ _ _) (unhide hq _ _ _), ?_⟩
    exact (by repeat (first | exact Below.refl _ _ | exact bel_one _ _ | assumption | refine bel_alloc ?_ _ | refine bel_set ?_ (by first | (simp; done) | (simp; omega)) _ | refine bel_drew ?_ | refine bel_drewN ?_ _ | refine bel_trans ?_ (by assumption)))
  have g1 : (n == 0) = false := by simpa using h1
  by_cases h2 : n' = 0
  · subst h2
    have hq := hide (bo_2 h1)
    clear h1
    go_enter Tryz.func56, Tryz.ntmps56
    go_wp2
    refine bodyPost_ret (v := .agg #[.int .i64 n, .int .i64 s, .int .i64 l, .int .i64 m]) (by simp [results, Tryz.results56, go_sem]) rfl ⟨ret_agg4 (unhide hq _ _ _) (unhide hq _ _ _) (unhide hq _ _ _) (unhide hq _ _ _), ?_⟩
    exact (by repeat (first | exact Below.refl _ _ | exact bel_one _ _ | assumption | refine bel_alloc ?_ _ | refine bel_set ?_ (by first | (simp; done) | (simp; omega)) _ | refine bel_drew ?_ | refine bel_drewN ?_ _ | refine bel_trans ?_ (by assumption)))
  have g2 : (n' == 0) = false := by simpa using h2
  have hq := hide (bo_3 h1 h2)
  clear h1 h2
  by_cases h3 : l' < l <;> by_cases h4 : m < m'
  · have k3 := hide (loI_c h3)
    have k4 := hide (hiI_d h4)
    go_enter Tryz.func56, Tryz.ntmps56
    go_wp2
    all_goals first
      | (exfalso; omega)
      | (refine bodyPost_ret (v := .agg #[.int .i64 (wrap64 (n + n')), .int .i64 (wrap64 (s + s')), .int .i64 l', .int .i64 m']) (by simp [results, Tryz.results56, go_sem]) rfl ⟨ret_agg4 (unhide hq _ _ _) (unhide hq _ _ _) ((unhide hq _ _ _).trans (unhide k3)) ((unhide hq _ _ _).trans (unhide k4)), ?_⟩; exact (by repeat (first | exact Below.refl _ _ | exact bel_one _ _ | assumption | refine bel_alloc ?_ _ | refine bel_set ?_ (by first | (simp; done) | (simp; omega)) _ | refine bel_drew ?_ | refine bel_drewN ?_ _ | refine bel_trans ?_ (by assumption))))
  · have k3 := hide (loI_c h3)
    have k4 := hide (hiI_b h4)
    go_enter Tryz.func56, Tryz.ntmps56
    go_wp2
    all_goals first
      | (exfalso; omega)
      | (refine bodyPost_ret (v := .agg #[.int .i64 (wrap64 (n + n')), .int .i64 (wrap64 (s + s')), .int .i64 l', .int .i64 m]) (by simp [results, Tryz.results56, go_sem]) rfl ⟨ret_agg4 (unhide hq _ _ _) (unhide hq _ _ _) ((unhide hq _ _ _).trans (unhide k3)) ((unhide hq _ _ _).trans (unhide k4)), ?_⟩; exact (by repeat (first | exact Below.refl _ _ | exact bel_one _ _ | assumption | refine bel_alloc ?_ _ | refine bel_set ?_ (by first | (simp; done) | (simp; omega)) _ | refine bel_drew ?_ | refine bel_drewN ?_ _ | refine bel_trans ?_ (by assumption))))
  · have k3 := hide (loI_a h3)
    have k4 := hide (hiI_d h4)
    go_enter Tryz.func56, Tryz.ntmps56
    go_wp2
    all_goals first
      | (exfalso; omega)
      | (refine bodyPost_ret (v := .agg #[.int .i64 (wrap64 (n + n')), .int .i64 (wrap64 (s + s')), .int .i64 l, .int .i64 m']) (by simp [results, Tryz.results56, go_sem]) rfl ⟨ret_agg4 (unhide hq _ _ _) (unhide hq _ _ _) ((unhide hq _ _ _).trans (unhide k3)) ((unhide hq _ _ _).trans (unhide k4)), ?_⟩; exact (by repeat (first | exact Below.refl _ _ | exact bel_one _ _ | assumption | refine bel_alloc ?_ _ | refine bel_set ?_ (by first | (simp; done) | (simp; omega)) _ | refine bel_drew ?_ | refine bel_drewN ?_ _ | refine bel_trans ?_ (by assumption))))
  · have k3 := hide (loI_a h3)
    have k4 := hide (hiI_b h4)
    go_enter Tryz.func56, Tryz.ntmps56
    go_wp2
    all_goals first
      | (exfalso; omega)
      | (refine bodyPost_ret (v := .agg #[.int .i64 (wrap64 (n + n')), .int .i64 (wrap64 (s + s')), .int .i64 l, .int .i64 m]) (by simp [results, Tryz.results56, go_sem]) rfl ⟨ret_agg4 (unhide hq _ _ _) (unhide hq _ _ _) ((unhide hq _ _ _).trans (unhide k3)) ((unhide hq _ _ _).trans (unhide k4)), ?_⟩; exact (by repeat (first | exact Below.refl _ _ | exact bel_one _ _ | assumption | refine bel_alloc ?_ _ | refine bel_set ?_ (by first | (simp; done) | (simp; omega)) _ | refine bel_drew ?_ | refine bel_drewN ?_ _ | refine bel_trans ?_ (by assumption))))

set_option maxHeartbeats 1000000 in
theorem specboth_any (n s l m n' s' l' m' : Int) (w : World) : Calls Tryz.prog 52 #[.agg #[.int .i64 n, .int .i64 s, .int .i64 l, .int .i64 m], .agg #[.int .i64 n', .int .i64 s', .int .i64 l', .int .i64 m']] w fun e w' => e = .returned (.agg #[.int .i64 (bo n n' n n' (wrap64 (n + n'))), .int .i64 (bo n n' s s' (wrap64 (s + s'))), .int .i64 (bo n n' l l' (loI l l')), .int .i64 (bo n n' m m' (hiI m m'))]) ∧ Below w.heap.size w w' := by
  by_cases h1 : n = 0
  · subst h1
    have hq := hide (bo_1 n')
    go_enter Tryz.func52, Tryz.ntmps52
    go_wp2
    refine bodyPost_ret (v := .agg #[.int .i64 n', .int .i64 s', .int .i64 l', .int .i64 m']) (by simp [results, Tryz.results52, go_sem]) rfl ⟨ret_agg4 (unhide hq _ _ _) (unhide hq _ _ _) (unhide hq _ _ _) (unhide hq _ _ _), ?_⟩
    exact (by repeat (first | exact Below.refl _ _ | exact bel_one _ _ | assumption | refine bel_alloc ?_ _ | refine bel_set ?_ (by first | (simp; done) | (simp; omega)) _ | refine bel_drew ?_ | refine bel_drewN ?_ _ | refine bel_trans ?_ (by assumption)))
  have g1 : (n == 0) = false := by simpa using h1
  by_cases h2 : n' = 0
  · subst h2
    have hq := hide (bo_2 h1)
    clear h1
    go_enter Tryz.func52, Tryz.ntmps52
    go_wp2
    refine bodyPost_ret (v := .agg #[.int .i64 n, .int .i64 s, .int .i64 l, .int .i64 m]) (by simp [results, Tryz.results52, go_sem]) rfl ⟨ret_agg4 (unhide hq _ _ _) (unhide hq _ _ _) (unhide hq _ _ _) (unhide hq _ _ _), ?_⟩
    exact (by repeat (first | exact Below.refl _ _ | exact bel_one _ _ | assumption | refine bel_alloc ?_ _ | refine bel_set ?_ (by first | (simp; done) | (simp; omega)) _ | refine bel_drew ?_ | refine bel_drewN ?_ _ | refine bel_trans ?_ (by assumption)))
  have g2 : (n' == 0) = false := by simpa using h2
  have hq := hide (bo_3 h1 h2)
  clear h1 h2
  by_cases h3 : l' < l <;> by_cases h4 : m < m'
  · have k3 := hide (loI_c h3)
    have k4 := hide (hiI_d h4)
    go_enter Tryz.func52, Tryz.ntmps52
    go_wp2
    all_goals first
      | (exfalso; omega)
      | (refine bodyPost_ret (v := .agg #[.int .i64 (wrap64 (n + n')), .int .i64 (wrap64 (s + s')), .int .i64 l', .int .i64 m']) (by simp [results, Tryz.results52, go_sem]) rfl ⟨ret_agg4 (unhide hq _ _ _) (unhide hq _ _ _) ((unhide hq _ _ _).trans (unhide k3)) ((unhide hq _ _ _).trans (unhide k4)), ?_⟩; exact (by repeat (first | exact Below.refl _ _ | exact bel_one _ _ | assumption | refine bel_alloc ?_ _ | refine bel_set ?_ (by first | (simp; done) | (simp; omega)) _ | refine bel_drew ?_ | refine bel_drewN ?_ _ | refine bel_trans ?_ (by assumption))))
  · have k3 := hide (loI_c h3)
    have k4 := hide (hiI_b h4)
    go_enter Tryz.func52, Tryz.ntmps52
    go_wp2
    all_goals first
      | (exfalso; omega)
      | (refine bodyPost_ret (v := .agg #[.int .i64 (wrap64 (n + n')), .int .i64 (wrap64 (s + s')), .int .i64 l', .int .i64 m]) (by simp [results, Tryz.results52, go_sem]) rfl ⟨ret_agg4 (unhide hq _ _ _) (unhide hq _ _ _) ((unhide hq _ _ _).trans (unhide k3)) ((unhide hq _ _ _).trans (unhide k4)), ?_⟩; exact (by repeat (first | exact Below.refl _ _ | exact bel_one _ _ | assumption | refine bel_alloc ?_ _ | refine bel_set ?_ (by first | (simp; done) | (simp; omega)) _ | refine bel_drew ?_ | refine bel_drewN ?_ _ | refine bel_trans ?_ (by assumption))))
  · have k3 := hide (loI_a h3)
    have k4 := hide (hiI_d h4)
    go_enter Tryz.func52, Tryz.ntmps52
    go_wp2
    all_goals first
      | (exfalso; omega)
      | (refine bodyPost_ret (v := .agg #[.int .i64 (wrap64 (n + n')), .int .i64 (wrap64 (s + s')), .int .i64 l, .int .i64 m']) (by simp [results, Tryz.results52, go_sem]) rfl ⟨ret_agg4 (unhide hq _ _ _) (unhide hq _ _ _) ((unhide hq _ _ _).trans (unhide k3)) ((unhide hq _ _ _).trans (unhide k4)), ?_⟩; exact (by repeat (first | exact Below.refl _ _ | exact bel_one _ _ | assumption | refine bel_alloc ?_ _ | refine bel_set ?_ (by first | (simp; done) | (simp; omega)) _ | refine bel_drew ?_ | refine bel_drewN ?_ _ | refine bel_trans ?_ (by assumption))))
  · have k3 := hide (loI_a h3)
    have k4 := hide (hiI_b h4)
    go_enter Tryz.func52, Tryz.ntmps52
    go_wp2
    all_goals first
      | (exfalso; omega)
      | (refine bodyPost_ret (v := .agg #[.int .i64 (wrap64 (n + n')), .int .i64 (wrap64 (s + s')), .int .i64 l, .int .i64 m]) (by simp [results, Tryz.results52, go_sem]) rfl ⟨ret_agg4 (unhide hq _ _ _) (unhide hq _ _ _) ((unhide hq _ _ _).trans (unhide k3)) ((unhide hq _ _ _).trans (unhide k4)), ?_⟩; exact (by repeat (first | exact Below.refl _ _ | exact bel_one _ _ | assumption | refine bel_alloc ?_ _ | refine bel_set ?_ (by first | (simp; done) | (simp; omega)) _ | refine bel_drew ?_ | refine bel_drewN ?_ _ | refine bel_trans ?_ (by assumption))))

theorem with_any (n s l m v : Int) (w : World) : Calls Tryz.prog 31 #[.agg #[.int .i64 n, .int .i64 s, .int .i64 l, .int .i64 m], .int .i64 v] w fun e w' => e = .returned (.agg #[.int .i64 (bo n 1 n 1 (wrap64 (n + 1))), .int .i64 (bo n 1 s v (wrap64 (s + v))), .int .i64 (bo n 1 l v (loI l v)), .int .i64 (bo n 1 m v (hiI m v))]) ∧ Below w.heap.size w w' := by
  go_enter Tryz.func31, Tryz.ntmps31
  go_wp2_with (first
    | (go_at_call 56; refine (both_any _ _ _ _ _ _ _ _ _).mono ?_; rintro e w' ⟨rfl, hb⟩; obtain ⟨hc, hf, hs⟩ := bcell hb; (try have hz0 : w.heap.size < w'.heap.size := (by have h9 := hb.size; (try simp at h9); omega)); (try have hz1 : w.heap.size + 1 < w'.heap.size := (by have h9 := hb.size; (try simp at h9); omega)); (try have hz2 : w.heap.size + 2 < w'.heap.size := (by have h9 := hb.size; (try simp at h9); omega))))
  refine bodyPost_ret (v := .agg #[.int .i64 (bo n 1 n 1 (wrap64 (n + 1))), .int .i64 (bo n 1 s v (wrap64 (s + v))), .int .i64 (bo n 1 l v (loI l v)), .int .i64 (bo n 1 m v (hiI m v))]) (by simp [results, Tryz.results31, go_sem, hc]) rfl ⟨rfl, ?_⟩
  exact (by repeat (first | exact Below.refl _ _ | exact bel_one _ _ | assumption | refine bel_alloc ?_ _ | refine bel_set ?_ (by first | (simp; done) | (simp; omega)) _ | refine bel_drew ?_ | refine bel_drewN ?_ _ | refine bel_trans ?_ (by assumption)))

theorem specadd_any (n s l m v : Int) (w : World) : Calls Tryz.prog 28 #[.agg #[.int .i64 n, .int .i64 s, .int .i64 l, .int .i64 m], .int .i64 v] w fun e w' => e = .returned (.agg #[.int .i64 (bo n 1 n 1 (wrap64 (n + 1))), .int .i64 (bo n 1 s v (wrap64 (s + v))), .int .i64 (bo n 1 l v (loI l v)), .int .i64 (bo n 1 m v (hiI m v))]) ∧ Below w.heap.size w w' := by
  go_enter Tryz.func28, Tryz.ntmps28
  go_wp2_with (first
    | (go_at_call 52; refine (specboth_any _ _ _ _ _ _ _ _ _).mono ?_; rintro e w' ⟨rfl, hb⟩; obtain ⟨hc, hf, hs⟩ := bcell hb; (try have hz0 : w.heap.size < w'.heap.size := (by have h9 := hb.size; (try simp at h9); omega)); (try have hz1 : w.heap.size + 1 < w'.heap.size := (by have h9 := hb.size; (try simp at h9); omega)); (try have hz2 : w.heap.size + 2 < w'.heap.size := (by have h9 := hb.size; (try simp at h9); omega))))
  refine bodyPost_ret (v := .agg #[.int .i64 (bo n 1 n 1 (wrap64 (n + 1))), .int .i64 (bo n 1 s v (wrap64 (s + v))), .int .i64 (bo n 1 l v (loI l v)), .int .i64 (bo n 1 m v (hiI m v))]) (by simp [results, Tryz.results28, go_sem, hc]) rfl ⟨rfl, ?_⟩
  exact (by repeat (first | exact Below.refl _ _ | exact bel_one _ _ | assumption | refine bel_alloc ?_ _ | refine bel_set ?_ (by first | (simp; done) | (simp; omega)) _ | refine bel_drew ?_ | refine bel_drewN ?_ _ | refine bel_trans ?_ (by assumption)))

end Go.Proofs.YtbockbdlojkpiaaGreat
