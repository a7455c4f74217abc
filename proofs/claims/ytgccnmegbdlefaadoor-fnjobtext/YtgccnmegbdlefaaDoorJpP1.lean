/- Proved here: a job's line is read, in the program. -/
import Derived.Test.YtgccnmegbdlefaaDoorJpR
import Derived.Test.YtgccnmegbdlefaaDoorJpI
import Derived.Lib.Strings
namespace Go.Proofs.YtgccnmegbdlefaaDoor
open Go.ChangeShapes Go.WideShapes Go.ChangeAt Go.RowKit
set_option linter.unusedVariables false
set_option linter.unusedSimpArgs false

/-- What the reading asks of the variables. -/
structure EnvJ (tp1 tp2 : TypeId) (p1 p2 : Value) (w : World) : Prop where
  tab : Lib.TabIs Tryd.prog w "internal/strconv.uint64pow10" .u64 Lib.pow10Tab
  es : w.var? Tryd.prog "strconv.ErrSyntax" = some #[.iface tp1 p1]
  er : w.var? Tryd.prog "strconv.ErrRange" = some #[.iface tp2 p2]
  wg : WordsG w
  et : w.cell? ⟨1, 0, none⟩ = some (.iface 89 (.agg #[.pointer (some ⟨7, 51, none⟩)]))
  lt : 1 < w.heap.size
theorem gESJ : Tryd.prog.globalNamed "strconv.ErrSyntax" = some 5 := by kernel_rfl
theorem gERJ : Tryd.prog.globalNamed "strconv.ErrRange" = some 6 := by kernel_rfl
theorem EnvJ.bel {tp1 tp2 : TypeId} {p1 p2 : Value} {w w' : World} (h : EnvJ tp1 tp2 p1 p2 w) (hb : Below w.heap.size w w') : EnvJ tp1 tp2 p1 p2 w' :=
  ⟨tab_bel h.tab hb, Joins.var_stays gESJ h.es hb (Nat.le_refl _), Joins.var_stays gERJ h.er hb (Nat.le_refl _), h.wg.below hb, (hb.cell (p := ⟨1, 0, none⟩) h.lt).trans h.et, Nat.lt_of_lt_of_le h.lt hb.size⟩
theorem cutPre (s p : ByteArray) : ∃ (D : ByteArray) (f : Bool), (⟨(Lib.trimPrefix s.data.toList p.data.toList).toArray⟩ : ByteArray) = D ∧ Lib.hasPrefix s.data.toList p.data.toList = f ∧ D.size ≤ s.size ∧ (f = true → s.data.toList = p.data.toList ++ D.data.toList) ∧ (f = false → ∀ r, s.data.toList ≠ p.data.toList ++ r) := by
  refine ⟨_, _, rfl, rfl, ?_, ?_, ?_⟩
  · have := Lib.trimPrefix_le s.data.toList p.data.toList
    have e : (⟨(Lib.trimPrefix s.data.toList p.data.toList).toArray⟩ : ByteArray).size = (Lib.trimPrefix s.data.toList p.data.toList).length := by show (Array.size _) = _; simp
    rw [e]; simpa using this
  · intro h
    have h1 : p.data.toList <+: s.data.toList := List.isPrefixOf_iff_prefix.1 h
    obtain ⟨r, hr⟩ := h1
    show s.data.toList = p.data.toList ++ (Lib.trimPrefix s.data.toList p.data.toList).toArray.toList
    unfold Lib.trimPrefix
    rw [if_pos h, ← hr, List.drop_left' rfl]
  · intro h r hr
    have : Lib.hasPrefix s.data.toList p.data.toList = true := List.isPrefixOf_iff_prefix.2 ⟨r, hr.symm⟩
    rw [h] at this; cases this
/-- How a line's reading ends. -/
def LnP (i : Nat) (s : ByteArray) (w : World) (e : Ending) (w' : World) : Prop := ∃ (n : Int) (b : Bool), e = .returned (.tuple #[.int .i64 n, .bool b]) ∧ ((b = true ∧ LnR i s n) ∨ (b = false ∧ ∀ m, ¬ LnR i s m)) ∧ Below w.heap.size w w'
theorem lnp_no {i : Nat} {s : ByteArray} {w w' : World} (h : ∀ m, ¬ LnR i s m) (hb : Below w.heap.size w w') : LnP i s w (.returned (.tuple #[.int .i64 0, .bool false])) w' := ⟨0, false, rfl, Or.inr ⟨rfl, h⟩, hb⟩
set_option maxRecDepth 20000 in
set_option maxHeartbeats 4000000 in
theorem readjobline_any {tp1 tp2 : TypeId} {p1 p2 : Value} {i : Nat} {x : ByteArray} (s : ByteArray) (w : World) (hx : jNames[i]? = some x) (hE : EnvJ tp1 tp2 p1 p2 w) (hs : s.size ≤ 1048576) : Calls Tryd.prog 42 #[.string s, .string x] w fun e w' => LnP i s w e w' := by
  have HX := hide hx
  have hxs := jNames_sz x (List.mem_of_getElem? hx)
  have n0 : ¬ 9223372036854775807 < x.size + 1 := by omega
  obtain ⟨D, f, hD, hf, hDs, hft, hff⟩ := cutPre s (x ++ ⟨#[32]⟩)
  have hcut := hide (Tryd.strings_CutPrefix s (x ++ ⟨#[32]⟩))
  rw [hD, hf] at hcut
  have el : ∀ m : Int, x.data.toList ++ 32 :: Lib.itoa m = (x ++ ⟨#[32]⟩ : ByteArray).data.toList ++ Lib.itoa m := fun m => by simp
  have HEl := hide el
  have HFT := hide hft
  have HFF := hide hff
  clear hD hf hx el hft hff
  go_enter Tryd.func42, Tryd.ntmps42
  go_wp2_with fail
  refine (unhide hcut _).mono ?_
  rintro e1 w1 ⟨rfl, hw1⟩
  obtain rfl := hw1.symm
  clear hw1
  go_wp2_with fail
  refine (readnum_any D _ (by omega) tp1 tp2 p1 p2 hE.tab hE.es hE.er).mono ?_
  rintro e2 w2 ⟨n, b, rfl, hR, hb2⟩
  have HR := hide hR
  clear hR hE hcut
  cases f with
  | false =>
    go_wp2_with (first | (go_at_call 38; refine (within_any _ _ _ _).mono ?_; rintro e8 w8 ⟨rfl, hw8⟩; obtain rfl := hw8.symm; clear hw8))
    refine bodyPost_ret (v := .tuple #[.int .i64 0, .bool false]) (by simp (maxDischargeDepth := 9) [results, Tryd.results42, go_sem, *]) rfl ?_
    exact lnp_no (fun m hm => by obtain ⟨y, hy, h1, _⟩ := hm; rw [unhide HX] at hy; obtain rfl := Option.some.inj hy; rw [unhide HEl] at h1; exact unhide HFF (by first | trivial | rfl) _ h1) hb2
  | true =>
    cases b with
    | false =>
      go_wp2_with (first | (go_at_call 38; refine (within_any _ _ _ _).mono ?_; rintro e8 w8 ⟨rfl, hw8⟩; obtain rfl := hw8.symm; clear hw8))
      refine bodyPost_ret (v := .tuple #[.int .i64 0, .bool false]) (by simp (maxDischargeDepth := 9) [results, Tryd.results42, go_sem, *]) rfl ?_
      exact lnp_no (fun m hm => by
        obtain ⟨y, hy, h1, hbd, _⟩ := hm; rw [unhide HX] at hy; obtain rfl := Option.some.inj hy
        rw [unhide HEl, unhide HFT (by first | trivial | rfl)] at h1
        have h2 := List.append_cancel_left h1
        exact absurd (rd_itoa hbd.1 hbd.2 h2 (unhide HR)).1 (by simp)) hb2
    | true =>
      cases hB : inB n (-9999999) 9999999
      · go_wp2_with (first | (go_at_call 38; refine (within_any _ _ _ _).mono ?_; rintro e8 w8 ⟨rfl, hw8⟩; obtain rfl := hw8.symm; clear hw8))
        refine bodyPost_ret (v := .tuple #[.int .i64 0, .bool false]) (by simp (maxDischargeDepth := 9) [results, Tryd.results42, go_sem, *]) rfl ?_
        exact lnp_no (fun m hm => by
          obtain ⟨y, hy, h1, hbd, _⟩ := hm; rw [unhide HX] at hy; obtain rfl := Option.some.inj hy
          rw [unhide HEl, unhide HFT (by first | trivial | rfl)] at h1
          have h2 := List.append_cancel_left h1
          have h3 := (rd_itoa hbd.1 hbd.2 h2 (unhide HR)).2
          rw [h3, inB_iff.2 hbd] at hB; cases hB) hb2
      have hD : Hid (D.data.toList = Lib.itoa n) := hide (by rcases unhide HR with ⟨_, _, h⟩ | ⟨h, _⟩; exact h.symm; cases h)
      have hbd := inB_iff.1 hB
      have HL : Hid ((i = 7 → 0 ≤ n ∧ n ≤ 1) → LnR i s n) := hide (fun h7 => ⟨x, unhide HX, by rw [unhide HEl, unhide HFT (by first | trivial | rfl), unhide hD], hbd, h7⟩)
      have HU : Hid (∀ m, LnR i s m → m = n ∧ (i = 7 → 0 ≤ m ∧ m ≤ 1)) := hide (fun m hm => by
        obtain ⟨y, hy, h1, hbd', h7⟩ := hm; rw [unhide HX] at hy; obtain rfl := Option.some.inj hy
        rw [unhide HEl, unhide HFT (by first | trivial | rfl)] at h1
        exact ⟨((rd_itoa hbd'.1 hbd'.2 (List.append_cancel_left h1) (unhide HR)).2).symm, h7⟩)
      by_cases hp : x = ⟨#[112, 105, 101, 99, 101]⟩
      · have h7 := i7 (unhide HX) hp
        have tp : (x.toList == [112, 105, 101, 99, 101]) = true := by rw [hp, Go.ByteArray.toList_eq]; rfl
        cases hC : inB n 0 1
        · go_wp2_with (first | (go_at_call 38; refine (within_any _ _ _ _).mono ?_; rintro e8 w8 ⟨rfl, hw8⟩; obtain rfl := hw8.symm; clear hw8))
          refine bodyPost_ret (v := .tuple #[.int .i64 0, .bool false]) (by simp (maxDischargeDepth := 9) [results, Tryd.results42, go_sem, *]) rfl ?_
          exact lnp_no (fun m hm => by
            obtain ⟨rfl, h8⟩ := unhide HU m hm
            rw [inB_iff.2 (h8 h7)] at hC; cases hC) hb2
        · go_wp2_with (first | (go_at_call 38; refine (within_any _ _ _ _).mono ?_; rintro e8 w8 ⟨rfl, hw8⟩; obtain rfl := hw8.symm; clear hw8))
          refine bodyPost_ret (v := .tuple #[.int .i64 n, .bool true]) (by simp (maxDischargeDepth := 9) [results, Tryd.results42, go_sem, *]) rfl ?_
          exact ⟨n, true, rfl, Or.inl ⟨rfl, unhide HL (fun _ => inB_iff.1 hC)⟩, hb2⟩
      · have h7 : i ≠ 7 := fun h => by subst h; exact hp (Option.some.inj (unhide HX)).symm
        have tp : (x.toList == [112, 105, 101, 99, 101]) = false := by
          have := toL_n hp
          rw [show (⟨#[112, 105, 101, 99, 101]⟩ : ByteArray).toList = [112, 105, 101, 99, 101] from by rw [Go.ByteArray.toList_eq]] at this
          exact this
        go_wp2_with (first | (go_at_call 38; refine (within_any _ _ _ _).mono ?_; rintro e8 w8 ⟨rfl, hw8⟩; obtain rfl := hw8.symm; clear hw8))
        refine bodyPost_ret (v := .tuple #[.int .i64 n, .bool true]) (by simp (maxDischargeDepth := 9) [results, Tryd.results42, go_sem, *]) rfl ?_
        exact ⟨n, true, rfl, Or.inl ⟨rfl, unhide HL (fun h => absurd h h7)⟩, hb2⟩
end Go.Proofs.YtgccnmegbdlefaaDoor
