/- Laid together: what the claim needs of the texts that were built one by one. -/
import Derived.Test.YtabphkmhafflbaaPkCkpQ
import Derived.Laws.CopyOwn
import Derived.Deep.RegionLaw
import Derived.Lib.SliceRun
import Derived.Test.YtabphkmhafflbaaPkBase
namespace Go.Proofs.Ytabphkmhafflbaa
open Go.ChangeShapes Go.WideShapes Go.ChangeAt Go.RowKit Go.Deep
set_option linter.unusedVariables false

theorem sizeInU : (Try.prog.info? 3).map (·.size) = some 1 := by kernel_rfl

theorem bit0 : bits BinOp.and IntKind.u64 0 4294967295 = 0 := by kernel_rfl

theorem bit1 : bits BinOp.and IntKind.u64 1 4294967295 = 1 := by kernel_rfl

theorem bit2 : bits BinOp.and IntKind.u64 2 4294967295 = 2 := by kernel_rfl

theorem bit3 : bits BinOp.and IntKind.u64 3 4294967295 = 3 := by kernel_rfl

set_option maxRecDepth 20000 in
set_option maxHeartbeats 4000000 in
theorem mul64_any (s : Nat) (hs : 1 ≤ s ∧ s ≤ 3) (w : World) : Calls Try.prog 54 #[.int .u64 1, .int .u64 s] w fun e w' => e = .returned (.tuple #[.int .u64 0, .int .u64 s]) ∧ w' = w := by
  have h0 := bit0
  have h1 := bit1
  obtain rfl | rfl | rfl : s = 1 ∨ s = 2 ∨ s = 3 := by omega
  · go_enter Try.func54, Try.ntmps54
    go_wp2
    exact bodyPost_ret (v := .tuple #[.int .u64 0, .int .u64 1]) (by simp [results, Try.results54, go_sem, *]) rfl ⟨rfl, rfl⟩
  · have h2 := bit2
    go_enter Try.func54, Try.ntmps54
    go_wp2
    exact bodyPost_ret (v := .tuple #[.int .u64 0, .int .u64 2]) (by simp [results, Try.results54, go_sem, *]) rfl ⟨rfl, rfl⟩
  · have h3 := bit3
    go_enter Try.func54, Try.ntmps54
    go_wp2
    exact bodyPost_ret (v := .tuple #[.int .u64 0, .int .u64 3]) (by simp [results, Try.results54, go_sem, *]) rfl ⟨rfl, rfl⟩

theorem mul_any (s : Nat) (hs : 1 ≤ s ∧ s ≤ 3) (w : World) : Calls Try.prog 47 #[.int .u64 1, .int .u64 s] w fun e w' => e = .returned (.tuple #[.int .u64 0, .int .u64 s]) ∧ w' = w := by
  go_enter Try.func47, Try.ntmps47
  go_wp2_with (go_at_call 54; refine (mul64_any s hs _).mono ?_; rintro e' w' ⟨rfl, rfl⟩)
  exact bodyPost_ret (v := .tuple #[.int .u64 0, .int .u64 s]) (by simp [results, Try.results47, go_sem]) rfl ⟨rfl, rfl⟩

theorem splice_one {s n : Nat} (hs : s ≤ 3) (hn : n < s) : splice (List.replicate n (Value.int .i64 (-1)) ++ List.replicate (s - n) (Value.int .i64 0)) n [Value.int .i64 (-1)] = (List.replicate (n + 1) (Value.int .i64 (-1)) ++ List.replicate (s - (n + 1)) (Value.int .i64 0)) := by
  have h : (s = 1 ∧ n = 0) ∨ (s = 2 ∧ (n = 0 ∨ n = 1)) ∨ (s = 3 ∧ (n = 0 ∨ n = 1 ∨ n = 2)) := by omega
  rcases h with ⟨rfl, rfl⟩ | ⟨rfl, rfl | rfl⟩ | ⟨rfl, rfl | rfl | rfl⟩ <;> rfl

theorem own_rep {W : World} {B g n : Nat} {a b : Value} {ty : Nat} (h : W.heap[g]? = some (.cells (List.replicate n a ++ List.replicate (n - n) b).toArray ty (0, 0))) (hB : B ≤ g) (hn : n ≤ 1000) : W.ownsRow B ty 1 (.slice (some ⟨g, 0, none⟩) n n) n (List.replicate n a) := by
  rw [Nat.sub_self, List.replicate_zero, List.append_nil] at h
  exact ⟨by simp, Or.inr ⟨g, n, _, rfl, hB, h, Nat.le_refl _, by unfold maxLen; omega, by simp, by simp⟩⟩

set_option maxRecDepth 20000 in
set_option maxHeartbeats 4000000 in
theorem repeat_any (s g : Nat) (hs : 1 ≤ s ∧ s ≤ 3) (w : World) (hx : w.cell? ⟨g, 0, none⟩ = some (.int .i64 (-1))) : Calls Try.prog 30 #[.slice (some ⟨g, 0, none⟩) 1 1, .int .i64 s] w fun e w' => ∃ v, e = .returned v ∧ w'.ownsRow w.heap.size 3 1 v s (List.replicate s (.int .i64 (-1))) ∧ Below w.heap.size w w' := by
  obtain ⟨C, ⟨hC, hCl⟩, hmk⟩ := mkIn0 s hs
  obtain rfl : C = (List.replicate s (Value.int .i64 0)).toArray := by rw [← hCl]
  clear hC hCl
  have u0 : IntKind.u64.wrap (s : Int) = s := by obtain rfl | rfl | rfl : s = 1 ∨ s = 2 ∨ s = 3 := (by omega) <;> rfl
  have u1 : IntKind.i64.wrap (s : Int) = s := IntWalk.i64_in _ (by omega)
  have hgl : g < w.heap.size := cell_lt hx
  obtain ⟨w3, hcp, hG, hb3⟩ : ∃ w3, (Builtin.copy_ #[26, 26] 3 #[.slice (some ⟨w.heap.size, 0, none⟩) s s, .slice (some ⟨g, 0, none⟩) 1 1]).run Try.prog (w.alloc (.cells (Array.replicate s (Value.int .i64 0)) 3)) = .ok (.int .i64 1) w3 ∧ w3.heap[w.heap.size]? = some (.cells (List.replicate 1 (Value.int .i64 (-1)) ++ List.replicate (s - 1) (Value.int .i64 0)).toArray 3 (0, 0)) ∧ Below w.heap.size w w3 := by
    have hg : (w.alloc (.cells (Array.replicate s (Value.int .i64 0)) 3)).heap[w.heap.size]? = some (.cells (Array.replicate s (Value.int .i64 0)) 3 (0, 0)) := blk_new rfl
    have hr := run_copy_row (P := Try.prog) (w.alloc (.cells (Array.replicate s (Value.int .i64 0)) 3)) 26 26 3 3 w.heap.size 0 s s ⟨g, 0, none⟩ 1 1 (Array.replicate s (Value.int .i64 0)) 3 [.int .i64 (-1)] Try.underlying26 sizeInU hg (by simp only [Nat.min_def]; split <;> simp <;> omega) (fun j u hj => by
      cases j with
      | zero => simp at hj; subst hj; exact ((bel_one w _).cell (p := ⟨g, 0, none⟩) hgl).trans hx
      | succ j => simp at hj) (by simp; omega) (by simp [Value.oneCell'])
    refine ⟨_, hr, ?_, below_setRow (bel_one _ _) (Nat.le_refl _) _⟩
    rw [setRow_heap _ _ _ _ _ _ hg]
    obtain rfl | rfl | rfl : s = 1 ∨ s = 2 ∨ s = 3 := by omega
    · rfl
    · rfl
    · rfl
  go_enter Try.func30, Try.ntmps30
  go_wp2_with (go_at_call 47; refine (mul_any s hs _).mono ?_; rintro e' w6 ⟨rfl, hw⟩; obtain rfl := hw.symm; clear hw)
  go_loopw [8] (fun nv wr => ∃ (n : Nat), nv = .int .i64 n ∧ (1 ≤ n ∧ n ≤ s) ∧ wr.heap[w.heap.size]? = some (.cells (List.replicate n (Value.int .i64 (-1)) ++ List.replicate (s - n) (Value.int .i64 0)).toArray 3 (0, 0)) ∧ Below w.heap.size w wr) (fun n _ => s - (intOf n).toNat)
  case atStart => exact ⟨1, rfl, ⟨Nat.le_refl _, hs.1⟩, hG, hb3⟩
  case round =>
    obtain ⟨n, rfl, ⟨hn1, hn2⟩, hB, hb⟩ := hrel
    clear hG hb3 hcp hmk
    by_cases hlt : (n : Int) < (s : Int)
    · have HB := hide hB
      clear hB
      have hsrc : ∀ (j : Nat) (u : Value), ([Value.int .i64 (-1)] : List Value)[j]? = some u → wr.cell? ((⟨w.heap.size, 0, none⟩ : Addr).add j) = some u := fun j u hj => by
        cases j with
        | zero =>
          simp at hj; subst hj
          obtain ⟨m, rfl⟩ : ∃ m, n = m + 1 := ⟨n - 1, by omega⟩
          simp [World.cell?, Addr.add, unhide HB, List.replicate_succ, go_sem]
        | succ j => simp at hj
      go_wp2_with fail
      have hmin : 1 = Nat.min n (s - n) := by simp only [Nat.min_def]; split <;> omega
      have hm1 : Hid (([Value.int .i64 (-1)] : List Value).length = Nat.min n (s - n)) := hide hmin
      have hsn : ¬ s = n := by omega
      clear hmin
      go_region_law (go_loud (refine step_copy_splice rfl (.tmp 41) (.tmp 44) 26 26 rfl 3 Try.underlying26 sizeInU (some ⟨w.heap.size, n, none⟩) (some ⟨w.heap.size, 0, none⟩) (s - n) (s - n) n s (by simp [Act.eval, Act.put]) (by simp [Act.eval, Act.put]) w.heap.size n (List.replicate n (Value.int .i64 (-1)) ++ List.replicate (s - n) (Value.int .i64 0)) 3 (by exact unhide HB) [.int .i64 (-1)] (unhide hm1) (fun _ => ⟨rfl, _, rfl, (by exact hsrc)⟩) (by simp; omega) (by simp [Value.oneCell']) w.heap.size w (by repeat (first | (with_reducible exact hb) | (with_reducible refine bel_drew ?_) | (with_reducible refine bel_drewN ?_ _))) (Nat.le_refl _) ?_; intro w4 hG4 hb4))
      have hwr : IntKind.i64.wrap ((n : Int) + 1) = (n : Int) + 1 := IntWalk.i64_in _ (by omega)
      rw [splice_one hs.2 (by omega)] at hG4
      simp only [Act.put, List.getElem_toArray, List.getElem_cons_succ, List.getElem_cons_zero, List.setIfInBounds_toArray, List.set_cons_zero, List.set_cons_succ]
      refine ⟨⟨_, _, _, _, _, _, _, _, _, _, _, _, _, _, ?rel, rfl⟩, ?ms⟩
      case rel => exact ⟨n + 1, by simp [hwr], ⟨by omega, by omega⟩, unhide hG4, hb4⟩
      case ms =>
        show s - (intOf (.int .i64 (IntKind.i64.wrap ((n : Int) + 1)))).toNat < s - (intOf (.int .i64 (n : Int))).toNat
        rw [hwr]
        simp [intOf]
        omega
    · obtain rfl : n = s := by omega
      go_wp2
      go_ret
      exact ⟨_, rfl, own_rep hB (Nat.le_refl _) (by omega), hb⟩
end Go.Proofs.Ytabphkmhafflbaa
