/- Proved here: tasks whole: counted, copied into new memory, held against themselves. -/
import Derived.Test.YtppdfmclhklkhaaTskR
import Derived.Test.YtppdfmclhklkhaaRwaPan
import Derived.Test.YtppdfmclhklkhaaRwaLat
namespace Go.Proofs.Ytppdfmclhklkhaa
open Go.ChangeShapes Go.WideShapes Go.ChangeAt Go.RowKit
set_option linter.unusedVariables false

/-- Such rows, in a block that is not below B. -/
def OrB (W : World) (B : Nat) (a : Option Addr) (n : Nat) (xs : List OrR) : Prop := OrRs W a n xs ∧ ∀ g o, 0 < n → a = some ⟨g, o, none⟩ → B ≤ g
theorem OrB.below {W W' : World} {B : Nat} {a : Option Addr} {n : Nat} {xs : List OrR} (h : OrB W B a n xs) (hb : Below W.heap.size W W') : OrB W' B a n xs := ⟨h.1.below hb, h.2⟩
theorem OrB.set {W : World} {B : Nat} {p : Addr} {v : Value} {a : Option Addr} {n : Nat} {xs : List OrR} (h : OrB W B a n xs) (hp : p.block < B) : OrB (W.setCell p v) B a n xs := ⟨h.1.grown (grown_one p v) (fun g o hn ha => by have := h.2 g o hn ha; simp; omega), h.2⟩
theorem OrB.less {W : World} {B B' : Nat} {a : Option Addr} {n : Nat} {xs : List OrR} (h : OrB W B a n xs) (hB : B' ≤ B) : OrB W B' a n xs := ⟨h.1, fun g o hn ha => Nat.le_trans hB (h.2 g o hn ha)⟩
/-- Such rows, in a block that is not below B. -/
def PnB (W : World) (B : Nat) (a : Option Addr) (n : Nat) (xs : List PnR) : Prop := PnRs W a n xs ∧ ∀ g o, 0 < n → a = some ⟨g, o, none⟩ → B ≤ g
theorem PnB.below {W W' : World} {B : Nat} {a : Option Addr} {n : Nat} {xs : List PnR} (h : PnB W B a n xs) (hb : Below W.heap.size W W') : PnB W' B a n xs := ⟨h.1.below hb, h.2⟩
theorem PnB.set {W : World} {B : Nat} {p : Addr} {v : Value} {a : Option Addr} {n : Nat} {xs : List PnR} (h : PnB W B a n xs) (hp : p.block < B) : PnB (W.setCell p v) B a n xs := ⟨h.1.grown (grown_one p v) (fun g o hn ha => by have := h.2 g o hn ha; simp; omega), h.2⟩
theorem PnB.less {W : World} {B B' : Nat} {a : Option Addr} {n : Nat} {xs : List PnR} (h : PnB W B a n xs) (hB : B' ≤ B) : PnB W B' a n xs := ⟨h.1, fun g o hn ha => Nat.le_trans hB (h.2 g o hn ha)⟩
/-- Such rows, in a block that is not below B. -/
def LpB (W : World) (B : Nat) (a : Option Addr) (n : Nat) (xs : List LpR) : Prop := LpRs W a n xs ∧ ∀ g o, 0 < n → a = some ⟨g, o, none⟩ → B ≤ g
theorem LpB.below {W W' : World} {B : Nat} {a : Option Addr} {n : Nat} {xs : List LpR} (h : LpB W B a n xs) (hb : Below W.heap.size W W') : LpB W' B a n xs := ⟨h.1.below hb, h.2⟩
theorem LpB.set {W : World} {B : Nat} {p : Addr} {v : Value} {a : Option Addr} {n : Nat} {xs : List LpR} (h : LpB W B a n xs) (hp : p.block < B) : LpB (W.setCell p v) B a n xs := ⟨h.1.grown (grown_one p v) (fun g o hn ha => by have := h.2 g o hn ha; simp; omega), h.2⟩
theorem LpB.less {W : World} {B B' : Nat} {a : Option Addr} {n : Nat} {xs : List LpR} (h : LpB W B a n xs) (hB : B' ≤ B) : LpB W B' a n xs := ⟨h.1, fun g o hn ha => Nat.le_trans hB (h.2 g o hn ha)⟩
/-- A task. -/
structure TkD where
  ins : List TiD
  rows : List OrR
  panes : List PnR
  lates : List LpR
/-- A task lies in memory, all of it in blocks that are not below B. -/
structure TkIs (W : World) (B : Nat) (ia : Option Addr) (il : Nat) (oa : Option Addr) (ol : Nat) (pa : Option Addr) (pl : Nat) (la : Option Addr) (ll : Nat) (d : TkD) : Prop where
  ins : TiRs W B ia il d.ins
  rows : OrB W B oa ol d.rows
  panes : PnB W B pa pl d.panes
  lates : LpB W B la ll d.lates
theorem TkIs.below {W W' : World} {B : Nat} {ia oa pa la : Option Addr} {il ol pl ll : Nat} {d : TkD} (h : TkIs W B ia il oa ol pa pl la ll d) (hb : Below W.heap.size W W') : TkIs W' B ia il oa ol pa pl la ll d := ⟨h.1.below hb, h.2.below hb, h.3.below hb, h.4.below hb⟩
theorem TkIs.set {W : World} {B : Nat} {p : Addr} {v : Value} {ia oa pa la : Option Addr} {il ol pl ll : Nat} {d : TkD} (h : TkIs W B ia il oa ol pa pl la ll d) (hp : p.block < B) : TkIs (W.setCell p v) B ia il oa ol pa pl la ll d := ⟨h.1.set hp, h.2.set hp, h.3.set hp, h.4.set hp⟩
theorem TkIs.less {W : World} {B B' : Nat} {ia oa pa la : Option Addr} {il ol pl ll : Nat} {d : TkD} (h : TkIs W B ia il oa ol pa pl la ll d) (hB : B' ≤ B) : TkIs W B' ia il oa ol pa pl la ll d := ⟨h.1.less hB, h.2.less hB, h.3.less hB, h.4.less hB⟩

theorem szOr_p (a : Option Addr) (len cap : Nat) (L : Int) (w : World) (h : len ≤ maxLen) (h0 : 0 ≤ L) (hL : L ≤ 1048576) : Calls Try.prog 28 #[.slice a len cap, .int .i64 L] w fun e w' => SzP L (len ≤ 1048576) e ∧ w' = w := by
  by_cases h1 : (len : Int) ≤ L
  · exact (szOr_le a len cap L w hL h1).mono fun e w' ⟨he, hw⟩ => ⟨⟨_, he, Or.inr ⟨by omega, by omega, by omega⟩⟩, hw⟩
  · exact (szOr_gt a len cap L w h h0 hL h1).mono fun e w' ⟨he, hw⟩ => ⟨⟨_, he, Or.inl rfl⟩, hw⟩

theorem szPn_p (a : Option Addr) (len cap : Nat) (L : Int) (w : World) (h : len ≤ maxLen) (h0 : 0 ≤ L) (hL : L ≤ 1048576) : Calls Try.prog 75 #[.slice a len cap, .int .i64 L] w fun e w' => SzP L (len ≤ 1048576) e ∧ w' = w := by
  by_cases h1 : (len : Int) ≤ L
  · exact (szPn_le a len cap L w hL h1).mono fun e w' ⟨he, hw⟩ => ⟨⟨_, he, Or.inr ⟨by omega, by omega, by omega⟩⟩, hw⟩
  · exact (szPn_gt a len cap L w h h0 hL h1).mono fun e w' ⟨he, hw⟩ => ⟨⟨_, he, Or.inl rfl⟩, hw⟩

theorem szLp_p (a : Option Addr) (len cap : Nat) (L : Int) (w : World) (h : len ≤ maxLen) (h0 : 0 ≤ L) (hL : L ≤ 1048576) : Calls Try.prog 76 #[.slice a len cap, .int .i64 L] w fun e w' => SzP L (len ≤ 1048576) e ∧ w' = w := by
  by_cases h1 : (len : Int) ≤ L
  · exact (szLp_le a len cap L w hL h1).mono fun e w' ⟨he, hw⟩ => ⟨⟨_, he, Or.inr ⟨by omega, by omega, by omega⟩⟩, hw⟩
  · exact (szLp_gt a len cap L w h h0 hL h1).mono fun e w' ⟨he, hw⟩ => ⟨⟨_, he, Or.inl rfl⟩, hw⟩

theorem szSt_p (m : Int) (a : Option Addr) (len cap : Nat) (L : Int) (w : World) (h : len ≤ maxLen) (h0 : 0 ≤ L) (hL : L ≤ 1048576) : Calls Try.prog 7 #[.agg #[.int .i64 m, .slice a len cap], .int .i64 L] w fun e w' => SzP L (len ≤ 1048576) e ∧ Below w.heap.size w w' := by
  go_enter Try.func7, Try.ntmps7
  go_wp2_with fail
  refine (szOr_p a len cap L _ h h0 hL).mono ?_
  rintro e w1 ⟨⟨r, rfl, hr⟩, hw⟩
  obtain rfl := hw.symm
  clear hw
  rcases hr with rfl | ⟨h2, h3, h4⟩
  · go_wp2
    go_ret
    exact ⟨⟨_, rfl, Or.inl rfl⟩, (by repeat (first | (with_reducible refine bel_set ?_ (by first | (simp; done) | (simp; omega)) _) | (with_reducible refine bel_alloc ?_ _) | (with_reducible exact Below.refl _ _) | (with_reducible assumption) | (with_reducible refine bel_drew ?_) | (with_reducible refine bel_drewN ?_ _) | (with_reducible refine bel_trans ?_ (by with_reducible assumption))))⟩
  · go_wp2
    go_ret
    exact ⟨⟨_, rfl, Or.inr ⟨h2, h3, h4⟩⟩, (by repeat (first | (with_reducible refine bel_set ?_ (by first | (simp; done) | (simp; omega)) _) | (with_reducible refine bel_alloc ?_ _) | (with_reducible exact Below.refl _ _) | (with_reducible assumption) | (with_reducible refine bel_drew ?_) | (with_reducible refine bel_drewN ?_ _) | (with_reducible refine bel_trans ?_ (by with_reducible assumption))))⟩
theorem szTx_p (n : Int) (pa : Option Addr) (pl pc : Nat) (la : Option Addr) (ll lc : Nat) (L : Int) (w : World) (h1 : pl ≤ maxLen) (h2 : ll ≤ maxLen) (h0 : 0 ≤ L) (hL : L ≤ 1048576) : Calls Try.prog 47 #[.agg #[.int .i64 n, .slice pa pl pc, .slice la ll lc], .int .i64 L] w fun e w' => SzP L (pl ≤ 1048576 ∧ ll ≤ 1048576) e ∧ Below w.heap.size w w' := by
  go_enter Try.func47, Try.ntmps47
  go_wp2_with fail
  refine (szPn_p pa pl pc L _ h1 h0 hL).mono ?_
  rintro e w1 ⟨⟨r, rfl, hr⟩, hw⟩
  obtain rfl := hw.symm
  clear hw
  rcases hr with rfl | ⟨h3, h4, h5⟩
  · go_wp2
    go_ret
    exact ⟨⟨_, rfl, Or.inl rfl⟩, (by repeat (first | (with_reducible refine bel_set ?_ (by first | (simp; done) | (simp; omega)) _) | (with_reducible refine bel_alloc ?_ _) | (with_reducible exact Below.refl _ _) | (with_reducible assumption) | (with_reducible refine bel_drew ?_) | (with_reducible refine bel_drewN ?_ _) | (with_reducible refine bel_trans ?_ (by with_reducible assumption))))⟩
  · go_wp2_with fail
    refine (szLp_p la ll lc r _ h2 h3 (by omega)).mono ?_
    rintro e w1 ⟨⟨r2, rfl, hr⟩, hw⟩
    obtain rfl := hw.symm
    clear hw
    rcases hr with rfl | ⟨h6, h7, h8⟩
    · go_wp2
      go_ret
      exact ⟨⟨_, rfl, Or.inl rfl⟩, (by repeat (first | (with_reducible refine bel_set ?_ (by first | (simp; done) | (simp; omega)) _) | (with_reducible refine bel_alloc ?_ _) | (with_reducible exact Below.refl _ _) | (with_reducible assumption) | (with_reducible refine bel_drew ?_) | (with_reducible refine bel_drewN ?_ _) | (with_reducible refine bel_trans ?_ (by with_reducible assumption))))⟩
    · go_wp2
      go_ret
      exact ⟨⟨_, rfl, Or.inr ⟨h6, by omega, h5, h8⟩⟩, (by repeat (first | (with_reducible refine bel_set ?_ (by first | (simp; done) | (simp; omega)) _) | (with_reducible refine bel_alloc ?_ _) | (with_reducible exact Below.refl _ _) | (with_reducible assumption) | (with_reducible refine bel_drew ?_) | (with_reducible refine bel_drewN ?_ _) | (with_reducible refine bel_trans ?_ (by with_reducible assumption))))⟩

set_option maxRecDepth 20000 in
theorem szTk_any (ia : Option Addr) (il ic : Nat) (om : Int) (oa : Option Addr) (ol oc : Nat) (wl pn : Int) (pa : Option Addr) (pl pc : Nat) (la : Option Addr) (ll lc : Nat) (d : TkD) (w : World) (h : TkIs w 0 ia il oa ol pa pl la ll d) : Calls Try.prog 20 #[.agg #[.slice ia il ic, .int .i64 om, .slice oa ol oc, .int .i64 wl, .int .i64 pn, .slice pa pl pc, .slice la ll lc], .int .i64 1048576] w fun e w' => SzP 1048576 (il ≤ 1048576 ∧ (∀ x ∈ d.ins, x.q.length ≤ 1048576) ∧ ol ≤ 1048576 ∧ pl ≤ 1048576 ∧ ll ≤ 1048576) e ∧ Below w.heap.size w w' := by
  have m1 := h.2.1.2.1
  have m2 := h.3.1.2.1
  have m3 := h.4.1.2.1
  go_enter Try.func20, Try.ntmps20
  go_wp2_with fail
  refine (szTi_any ia il ic d.ins 1048576 _ (h.1.below (by repeat (first | (with_reducible refine bel_set ?_ (by first | (simp; done) | (simp; omega)) _) | (with_reducible refine bel_alloc ?_ _) | (with_reducible exact Below.refl _ _) | (with_reducible assumption) | (with_reducible refine bel_drew ?_) | (with_reducible refine bel_drewN ?_ _) | (with_reducible refine bel_trans ?_ (by with_reducible assumption))))) (by omega) (by omega)).mono ?_
  rintro e w1 ⟨⟨r, rfl, hr⟩, hb1⟩
  obtain ⟨hc1, hf1, hs1⟩ := bcell hb1
  have hz1 : w.heap.size < w1.heap.size := by have h9 := hb1.size; simp at h9; omega
  rcases hr with rfl | ⟨h2, h3, h4⟩
  · go_wp2
    go_ret
    exact ⟨⟨_, rfl, Or.inl rfl⟩, (by repeat (first | (with_reducible refine bel_set ?_ (by first | (simp; done) | (simp; omega)) _) | (with_reducible refine bel_alloc ?_ _) | (with_reducible exact Below.refl _ _) | (with_reducible assumption) | (with_reducible refine bel_drew ?_) | (with_reducible refine bel_drewN ?_ _) | (with_reducible refine bel_trans ?_ (by with_reducible assumption))))⟩
  · go_wp2_with fail
    refine (szSt_p om oa ol oc r _ m1 h2 (by omega)).mono ?_
    rintro e w2 ⟨⟨r2, rfl, hr⟩, hb2⟩
    obtain ⟨hc2, hf2, hs2⟩ := bcell hb2
    have hz2 : w.heap.size < w2.heap.size := by have h9 := hb2.size; omega
    rcases hr with rfl | ⟨h5, h6, h7⟩
    · go_wp2
      go_ret
      exact ⟨⟨_, rfl, Or.inl rfl⟩, (by repeat (first | (with_reducible refine bel_set ?_ (by first | (simp; done) | (simp; omega)) _) | (with_reducible refine bel_alloc ?_ _) | (with_reducible exact Below.refl _ _) | (with_reducible assumption) | (with_reducible refine bel_drew ?_) | (with_reducible refine bel_drewN ?_ _) | (with_reducible refine bel_trans ?_ (by with_reducible assumption))))⟩
    · go_wp2_with fail
      refine (szTx_p pn pa pl pc la ll lc r2 _ m2 m3 h5 (by omega)).mono ?_
      rintro e w3 ⟨⟨r3, rfl, hr⟩, hb3⟩
      rcases hr with rfl | ⟨h8, h9, h10⟩
      · go_wp2
        go_ret
        exact ⟨⟨_, rfl, Or.inl rfl⟩, (by repeat (first | (with_reducible refine bel_set ?_ (by first | (simp; done) | (simp; omega)) _) | (with_reducible refine bel_alloc ?_ _) | (with_reducible exact Below.refl _ _) | (with_reducible assumption) | (with_reducible refine bel_drew ?_) | (with_reducible refine bel_drewN ?_ _) | (with_reducible refine bel_trans ?_ (by with_reducible assumption))))⟩
      · go_wp2
        go_ret
        exact ⟨⟨_, rfl, Or.inr ⟨h8, by omega, h4.1, h4.2, h7, h10.1, h10.2⟩⟩, (by repeat (first | (with_reducible refine bel_set ?_ (by first | (simp; done) | (simp; omega)) _) | (with_reducible refine bel_alloc ?_ _) | (with_reducible exact Below.refl _ _) | (with_reducible assumption) | (with_reducible refine bel_drew ?_) | (with_reducible refine bel_drewN ?_ _) | (with_reducible refine bel_trans ?_ (by with_reducible assumption))))⟩

set_option maxRecDepth 20000 in
set_option maxHeartbeats 1000000 in
theorem toTx_any (n : Int) (pa : Option Addr) (pl pc : Nat) (la : Option Addr) (ll lc : Nat) (ps : List PnR) (ls : List LpR) (w : World) (h1 : PnRs w pa pl ps) (h2 : LpRs w la ll ls) (hl1 : pl ≤ 1048576) (hl2 : ll ≤ 1048576) : Calls Try.prog 49 #[.agg #[.int .i64 n, .slice pa pl pc, .slice la ll lc]] w fun e w' => ∃ pa' la', e = .returned (.agg #[.int .i64 n, .slice pa' pl pl, .slice la' ll ll]) ∧ PnB w' w.heap.size pa' pl ps ∧ LpB w' w.heap.size la' ll ls ∧ Below w.heap.size w w' := by
  go_enter Try.func49, Try.ntmps49
  go_wp2_with (first
    | (go_at_call 78; refine (toPn_any pa pl pc ps _ (h1.below (by repeat (first | (with_reducible refine bel_set ?_ (by first | (simp; done) | (simp; omega)) _) | (with_reducible refine bel_alloc ?_ _) | (with_reducible exact Below.refl _ _) | (with_reducible assumption) | (with_reducible refine bel_drew ?_) | (with_reducible refine bel_drewN ?_ _) | (with_reducible refine bel_trans ?_ (by with_reducible assumption))))) hl1).mono ?_; rintro e' w1 ⟨pa', rfl, H1, R1, ge1, hb1⟩; obtain ⟨hc1, hf1, hs1⟩ := bcell hb1; have hz10 : w.heap.size < w1.heap.size := (by have h9 := hb1.size; (try simp at h9); omega); have hz11 : w.heap.size + 1 < w1.heap.size := (by have h9 := hb1.size; (try simp at h9); omega); have hz12 : w.heap.size + 1 + 1 < w1.heap.size := (by have h9 := hb1.size; (try simp at h9); omega))
    | (go_at_call 79; refine (toLp_any la ll lc ls _ (h2.below (by repeat (first | (with_reducible refine bel_set ?_ (by first | (simp; done) | (simp; omega)) _) | (with_reducible refine bel_alloc ?_ _) | (with_reducible exact Below.refl _ _) | (with_reducible assumption) | (with_reducible refine bel_drew ?_) | (with_reducible refine bel_drewN ?_ _) | (with_reducible refine bel_trans ?_ (by with_reducible assumption))))) hl2).mono ?_; rintro e' w2 ⟨la', rfl, H2, R2, ge2, hb2⟩; obtain ⟨hc2, hf2, hs2⟩ := bcell hb2; have hz20 : w.heap.size < w2.heap.size := (by have h9 := hb2.size; (try simp at h9); omega); have hz21 : w.heap.size + 1 < w2.heap.size := (by have h9 := hb2.size; (try simp at h9); omega); have hz22 : w.heap.size + 1 + 1 < w2.heap.size := (by have h9 := hb2.size; (try simp at h9); omega)))
  have G1 : PnB w1 (w.heap.size + 3) pa' pl ps := ⟨H1, fun g o hp ha => by have := ge1 g o hp ha; simp at this; omega⟩
  have G2 : LpB w2 (w.heap.size + 3) la' ll ls := ⟨H2, fun g o hp ha => by have := ge2 g o hp ha; simp at this; omega⟩
  refine bodyPost_ret (v := .agg #[.int .i64 n, .slice pa' pl pl, .slice la' ll ll]) (by simp (maxDischargeDepth := 9) [results, Try.results49, go_sem, *]) rfl ⟨pa', la', rfl, PnB.less (B := w.heap.size + 3) ?_ (by omega), LpB.less (B := w.heap.size + 3) ?_ (by omega), ?_⟩
  · repeat (first | (with_reducible exact G1) | (with_reducible refine PnB.set ?_ (by simp <;> omega)) | (with_reducible refine PnB.below ?_ hb2))
  · repeat (first | (with_reducible exact G2) | (with_reducible refine LpB.set ?_ (by simp <;> omega)) | (with_reducible refine LpB.below ?_ hb2))
  · exact (by repeat (first | (with_reducible refine bel_set ?_ (by first | (simp; done) | (simp; omega)) _) | (with_reducible refine bel_alloc ?_ _) | (with_reducible exact Below.refl _ _) | (with_reducible assumption) | (with_reducible refine bel_drew ?_) | (with_reducible refine bel_drewN ?_ _) | (with_reducible refine bel_trans ?_ (by with_reducible assumption))))

set_option maxRecDepth 20000 in
set_option maxHeartbeats 2000000 in
theorem toTk_any (ia : Option Addr) (il ic : Nat) (om : Int) (oa : Option Addr) (ol oc : Nat) (wl pn : Int) (pa : Option Addr) (pl pc : Nat) (la : Option Addr) (ll lc : Nat) (d : TkD) (w : World) (h : TkIs w 0 ia il oa ol pa pl la ll d) (k : (il ≤ 1048576 ∧ (∀ x ∈ d.ins, x.q.length ≤ 1048576) ∧ ol ≤ 1048576 ∧ pl ≤ 1048576 ∧ ll ≤ 1048576)) : Calls Try.prog 22 #[.agg #[.slice ia il ic, .int .i64 om, .slice oa ol oc, .int .i64 wl, .int .i64 pn, .slice pa pl pc, .slice la ll lc]] w fun e w' => ∃ ia' oa' pa' la', e = .returned (.agg #[.slice ia' il il, .int .i64 om, .slice oa' ol ol, .int .i64 wl, .int .i64 pn, .slice pa' pl pl, .slice la' ll ll]) ∧ TkIs w' w.heap.size ia' il oa' ol pa' pl la' ll d ∧ Below w.heap.size w w' := by
  obtain ⟨k1, k2, k3, k4, k5⟩ := k
  have i1 := h.1
  have i2 := h.2.1
  have i3 := h.3.1
  have i4 := h.4.1
  go_enter Try.func22, Try.ntmps22
  go_wp2_with (first
    | (go_at_call 48; refine (toTi_any ia il ic d.ins _ (i1.below (by repeat (first | (with_reducible refine bel_set ?_ (by first | (simp; done) | (simp; omega)) _) | (with_reducible refine bel_alloc ?_ _) | (with_reducible exact Below.refl _ _) | (with_reducible assumption) | (with_reducible refine bel_drew ?_) | (with_reducible refine bel_drewN ?_ _) | (with_reducible refine bel_trans ?_ (by with_reducible assumption))))) k1 k2).mono ?_; rintro e' w1 ⟨ia', rfl, H1, hb1⟩; obtain ⟨hc1, hf1, hs1⟩ := bcell hb1; have hz10 : w.heap.size < w1.heap.size := (by have h9 := hb1.size; (try simp at h9); omega); have hz11 : w.heap.size + 1 < w1.heap.size := (by have h9 := hb1.size; (try simp at h9); omega); have hz12 : w.heap.size + 1 + 1 < w1.heap.size := (by have h9 := hb1.size; (try simp at h9); omega))
    | (go_at_call 10; refine (toSt_any om oa ol oc d.rows _ (i2.below (by repeat (first | (with_reducible refine bel_set ?_ (by first | (simp; done) | (simp; omega)) _) | (with_reducible refine bel_alloc ?_ _) | (with_reducible exact Below.refl _ _) | (with_reducible assumption) | (with_reducible refine bel_drew ?_) | (with_reducible refine bel_drewN ?_ _) | (with_reducible refine bel_trans ?_ (by with_reducible assumption))))) k3).mono ?_; rintro e' w2 ⟨oa', rfl, H2, R2, ge2, hb2⟩; obtain ⟨hc2, hf2, hs2⟩ := bcell hb2; have hz20 : w.heap.size < w2.heap.size := (by have h9 := hb2.size; (try simp at h9); omega); have hz21 : w.heap.size + 1 < w2.heap.size := (by have h9 := hb2.size; (try simp at h9); omega); have hz22 : w.heap.size + 1 + 1 < w2.heap.size := (by have h9 := hb2.size; (try simp at h9); omega))
    | (go_at_call 49; refine (toTx_any pn pa pl pc la ll lc d.panes d.lates _ (i3.below (by repeat (first | (with_reducible refine bel_set ?_ (by first | (simp; done) | (simp; omega)) _) | (with_reducible refine bel_alloc ?_ _) | (with_reducible exact Below.refl _ _) | (with_reducible assumption) | (with_reducible refine bel_drew ?_) | (with_reducible refine bel_drewN ?_ _) | (with_reducible refine bel_trans ?_ (by with_reducible assumption))))) (i4.below (by repeat (first | (with_reducible refine bel_set ?_ (by first | (simp; done) | (simp; omega)) _) | (with_reducible refine bel_alloc ?_ _) | (with_reducible exact Below.refl _ _) | (with_reducible assumption) | (with_reducible refine bel_drew ?_) | (with_reducible refine bel_drewN ?_ _) | (with_reducible refine bel_trans ?_ (by with_reducible assumption))))) k4 k5).mono ?_; rintro e' w3 ⟨pa', la', rfl, H3, H4, hb3⟩; obtain ⟨hc3, hf3, hs3⟩ := bcell hb3; have hz30 : w.heap.size < w3.heap.size := (by have h9 := hb3.size; (try simp at h9); omega); have hz31 : w.heap.size + 1 < w3.heap.size := (by have h9 := hb3.size; (try simp at h9); omega); have hz32 : w.heap.size + 1 + 1 < w3.heap.size := (by have h9 := hb3.size; (try simp at h9); omega)))
  have G1 : TiRs w1 (w.heap.size + 3) ia' il d.ins := H1.less (by simp)
  have G2 : OrB w2 (w.heap.size + 3) oa' ol d.rows := ⟨H2, fun g o hp ha => by have := ge2 g o hp ha; simp at this; omega⟩
  have G3 : PnB w3 (w.heap.size + 3) pa' pl d.panes := H3.less (by simp; omega)
  have G4 : LpB w3 (w.heap.size + 3) la' ll d.lates := H4.less (by simp; omega)
  refine bodyPost_ret (v := .agg #[.slice ia' il il, .int .i64 om, .slice oa' ol ol, .int .i64 wl, .int .i64 pn, .slice pa' pl pl, .slice la' ll ll]) (by simp (maxDischargeDepth := 9) [results, Try.results22, go_sem, *]) rfl ⟨ia', oa', pa', la', rfl, TkIs.less (B := w.heap.size + 3) ⟨?_, ?_, ?_, ?_⟩ (by omega), ?_⟩
  · repeat (first | (with_reducible exact G1) | (with_reducible refine TiRs.set ?_ (by simp <;> omega)) | (with_reducible refine TiRs.below ?_ hb3) | (with_reducible refine TiRs.below ?_ hb2))
  · repeat (first | (with_reducible exact G2) | (with_reducible refine OrB.set ?_ (by simp <;> omega)) | (with_reducible refine OrB.below ?_ hb3))
  · repeat (first | (with_reducible exact G3) | (with_reducible refine PnB.set ?_ (by simp <;> omega)) | (with_reducible refine PnB.below ?_ hb3))
  · repeat (first | (with_reducible exact G4) | (with_reducible refine LpB.set ?_ (by simp <;> omega)) | (with_reducible refine LpB.below ?_ hb3))
  · exact (by repeat (first | (with_reducible refine bel_set ?_ (by first | (simp; done) | (simp; omega)) _) | (with_reducible refine bel_alloc ?_ _) | (with_reducible exact Below.refl _ _) | (with_reducible assumption) | (with_reducible refine bel_drew ?_) | (with_reducible refine bel_drewN ?_ _) | (with_reducible refine bel_trans ?_ (by with_reducible assumption))))

set_option maxRecDepth 20000 in
theorem eqTx_any (n : Int) (pa1 pa2 : Option Addr) (pl pc1 pc2 : Nat) (la1 la2 : Option Addr) (ll lc1 lc2 : Nat) (ps : List PnR) (ls : List LpR) (w : World) (h1 : PnRs w pa1 pl ps) (h2 : PnRs w pa2 pl ps) (h3 : LpRs w la1 ll ls) (h4 : LpRs w la2 ll ls) : Calls Try.prog 38 #[.agg #[.int .i64 n, .slice pa1 pl pc1, .slice la1 ll lc1], .agg #[.int .i64 n, .slice pa2 pl pc2, .slice la2 ll lc2]] w fun e w' => e = .returned (.bool true) ∧ Below w.heap.size w w' := by
  go_enter Try.func38, Try.ntmps38
  go_wp2_with (first
    | (go_at_call 64; refine (eqPn_any pa1 pa2 pl pc1 pc2 ps _ (h1.below (by repeat (first | (with_reducible refine bel_set ?_ (by first | (simp; done) | (simp; omega)) _) | (with_reducible refine bel_alloc ?_ _) | (with_reducible exact Below.refl _ _) | (with_reducible assumption) | (with_reducible refine bel_drew ?_) | (with_reducible refine bel_drewN ?_ _) | (with_reducible refine bel_trans ?_ (by with_reducible assumption))))) (h2.below (by repeat (first | (with_reducible refine bel_set ?_ (by first | (simp; done) | (simp; omega)) _) | (with_reducible refine bel_alloc ?_ _) | (with_reducible exact Below.refl _ _) | (with_reducible assumption) | (with_reducible refine bel_drew ?_) | (with_reducible refine bel_drewN ?_ _) | (with_reducible refine bel_trans ?_ (by with_reducible assumption)))))).mono ?_; rintro e' w1 ⟨rfl, hb1⟩; obtain ⟨hc1, hf1, hs1⟩ := bcell hb1; have hz0 : w.heap.size < w1.heap.size := (by have h9 := hb1.size; (try simp at h9); omega); have hz1 : w.heap.size + 1 < w1.heap.size := (by have h9 := hb1.size; (try simp at h9); omega))
    | (go_at_call 65; refine (eqLp_any la1 la2 ll lc1 lc2 ls _ (h3.below (by repeat (first | (with_reducible refine bel_set ?_ (by first | (simp; done) | (simp; omega)) _) | (with_reducible refine bel_alloc ?_ _) | (with_reducible exact Below.refl _ _) | (with_reducible assumption) | (with_reducible refine bel_drew ?_) | (with_reducible refine bel_drewN ?_ _) | (with_reducible refine bel_trans ?_ (by with_reducible assumption))))) (h4.below (by repeat (first | (with_reducible refine bel_set ?_ (by first | (simp; done) | (simp; omega)) _) | (with_reducible refine bel_alloc ?_ _) | (with_reducible exact Below.refl _ _) | (with_reducible assumption) | (with_reducible refine bel_drew ?_) | (with_reducible refine bel_drewN ?_ _) | (with_reducible refine bel_trans ?_ (by with_reducible assumption)))))).mono ?_; rintro e' w2 ⟨rfl, hb2⟩))
  go_ret
  exact ⟨rfl, (by repeat (first | (with_reducible refine bel_set ?_ (by first | (simp; done) | (simp; omega)) _) | (with_reducible refine bel_alloc ?_ _) | (with_reducible exact Below.refl _ _) | (with_reducible assumption) | (with_reducible refine bel_drew ?_) | (with_reducible refine bel_drewN ?_ _) | (with_reducible refine bel_trans ?_ (by with_reducible assumption))))⟩

set_option maxRecDepth 20000 in
set_option maxHeartbeats 1000000 in
theorem eqTk_any (B1 B2 : Nat) (ia1 ia2 : Option Addr) (il ic1 ic2 : Nat) (om : Int) (oa1 oa2 : Option Addr) (ol oc1 oc2 : Nat) (wl pn : Int) (pa1 pa2 : Option Addr) (pl pc1 pc2 : Nat) (la1 la2 : Option Addr) (ll lc1 lc2 : Nat) (d : TkD) (w : World) (h1 : TkIs w B1 ia1 il oa1 ol pa1 pl la1 ll d) (h2 : TkIs w B2 ia2 il oa2 ol pa2 pl la2 ll d) : Calls Try.prog 13 #[.agg #[.slice ia1 il ic1, .int .i64 om, .slice oa1 ol oc1, .int .i64 wl, .int .i64 pn, .slice pa1 pl pc1, .slice la1 ll lc1], .agg #[.slice ia2 il ic2, .int .i64 om, .slice oa2 ol oc2, .int .i64 wl, .int .i64 pn, .slice pa2 pl pc2, .slice la2 ll lc2]] w fun e w' => e = .returned (.bool true) ∧ Below w.heap.size w w' := by
  obtain ⟨a1, ⟨a2, _⟩, ⟨a3, _⟩, ⟨a4, _⟩⟩ := h1
  obtain ⟨b1, ⟨b2, _⟩, ⟨b3, _⟩, ⟨b4, _⟩⟩ := h2
  go_enter Try.func13, Try.ntmps13
  go_wp2_with (first
    | (go_at_call 37; refine (eqTi_any B1 B2 ia1 ia2 il ic1 ic2 d.ins _ (a1.below (by repeat (first | (with_reducible refine bel_set ?_ (by first | (simp; done) | (simp; omega)) _) | (with_reducible refine bel_alloc ?_ _) | (with_reducible exact Below.refl _ _) | (with_reducible assumption) | (with_reducible refine bel_drew ?_) | (with_reducible refine bel_drewN ?_ _) | (with_reducible refine bel_trans ?_ (by with_reducible assumption))))) (b1.below (by repeat (first | (with_reducible refine bel_set ?_ (by first | (simp; done) | (simp; omega)) _) | (with_reducible refine bel_alloc ?_ _) | (with_reducible exact Below.refl _ _) | (with_reducible assumption) | (with_reducible refine bel_drew ?_) | (with_reducible refine bel_drewN ?_ _) | (with_reducible refine bel_trans ?_ (by with_reducible assumption)))))).mono ?_; rintro e' w1 ⟨rfl, hb1⟩; obtain ⟨hc1, hf1, hs1⟩ := bcell hb1; have hz0 : w.heap.size < w1.heap.size := (by have h9 := hb1.size; (try simp at h9); omega); have hz1 : w.heap.size + 1 < w1.heap.size := (by have h9 := hb1.size; (try simp at h9); omega))
    | (go_at_call 14; refine (eqSt_any om oa1 oa2 ol oc1 oc2 d.rows _ (a2.below (by repeat (first | (with_reducible refine bel_set ?_ (by first | (simp; done) | (simp; omega)) _) | (with_reducible refine bel_alloc ?_ _) | (with_reducible exact Below.refl _ _) | (with_reducible assumption) | (with_reducible refine bel_drew ?_) | (with_reducible refine bel_drewN ?_ _) | (with_reducible refine bel_trans ?_ (by with_reducible assumption))))) (b2.below (by repeat (first | (with_reducible refine bel_set ?_ (by first | (simp; done) | (simp; omega)) _) | (with_reducible refine bel_alloc ?_ _) | (with_reducible exact Below.refl _ _) | (with_reducible assumption) | (with_reducible refine bel_drew ?_) | (with_reducible refine bel_drewN ?_ _) | (with_reducible refine bel_trans ?_ (by with_reducible assumption)))))).mono ?_; rintro e' w2 ⟨rfl, hb2⟩; obtain ⟨hc2, hf2, hs2⟩ := bcell hb2; have hz2 : w.heap.size < w2.heap.size := (by have h9 := hb2.size; (try simp at h9); omega); have hz3 : w.heap.size + 1 < w2.heap.size := (by have h9 := hb2.size; (try simp at h9); omega))
    | (go_at_call 38; refine (eqTx_any pn pa1 pa2 pl pc1 pc2 la1 la2 ll lc1 lc2 d.panes d.lates _ (a3.below (by repeat (first | (with_reducible refine bel_set ?_ (by first | (simp; done) | (simp; omega)) _) | (with_reducible refine bel_alloc ?_ _) | (with_reducible exact Below.refl _ _) | (with_reducible assumption) | (with_reducible refine bel_drew ?_) | (with_reducible refine bel_drewN ?_ _) | (with_reducible refine bel_trans ?_ (by with_reducible assumption))))) (b3.below (by repeat (first | (with_reducible refine bel_set ?_ (by first | (simp; done) | (simp; omega)) _) | (with_reducible refine bel_alloc ?_ _) | (with_reducible exact Below.refl _ _) | (with_reducible assumption) | (with_reducible refine bel_drew ?_) | (with_reducible refine bel_drewN ?_ _) | (with_reducible refine bel_trans ?_ (by with_reducible assumption))))) (a4.below (by repeat (first | (with_reducible refine bel_set ?_ (by first | (simp; done) | (simp; omega)) _) | (with_reducible refine bel_alloc ?_ _) | (with_reducible exact Below.refl _ _) | (with_reducible assumption) | (with_reducible refine bel_drew ?_) | (with_reducible refine bel_drewN ?_ _) | (with_reducible refine bel_trans ?_ (by with_reducible assumption))))) (b4.below (by repeat (first | (with_reducible refine bel_set ?_ (by first | (simp; done) | (simp; omega)) _) | (with_reducible refine bel_alloc ?_ _) | (with_reducible exact Below.refl _ _) | (with_reducible assumption) | (with_reducible refine bel_drew ?_) | (with_reducible refine bel_drewN ?_ _) | (with_reducible refine bel_trans ?_ (by with_reducible assumption)))))).mono ?_; rintro e' w3 ⟨rfl, hb3⟩))
  go_ret
  exact ⟨rfl, (by repeat (first | (with_reducible refine bel_set ?_ (by first | (simp; done) | (simp; omega)) _) | (with_reducible refine bel_alloc ?_ _) | (with_reducible exact Below.refl _ _) | (with_reducible assumption) | (with_reducible refine bel_drew ?_) | (with_reducible refine bel_drewN ?_ _) | (with_reducible refine bel_trans ?_ (by with_reducible assumption))))⟩
end Go.Proofs.Ytppdfmclhklkhaa
