/- Laid together: what the claim needs of the texts that were built one by one. -/
import Derived.Test.YtdmhihcipkhecaaGreatT18
import Derived.Test.YtdmhihcipkhecaaGreatT19
import Derived.Test.YtdmhihcipkhecaaGreatT5
import Derived.Test.YtdmhihcipkhecaaGreatT4
import Derived.Test.YtdmhihcipkhecaaGreatT0
set_option linter.unusedVariables false
namespace Go.Proofs.YtdmhihcipkhecaaGreat
open Go.ChangeShapes Go.WideShapes Go.ChangeAt Go.RowKit Go.Shelf Go.Maps Go.Deep
set_option linter.unusedSimpArgs false
/-- What a cell of rows may hold. -/
def kf:Nat→Value→Prop:=fun j u=>if j % 13=12 then∃b,u= .bool b else∃z,u= .int .i64 z
theorem cells_set(x:aC)(j:Nat)(u:Value)(hj:j<13)(hu:kf j u):∃y:aC,x.cells.set j u=y.cells:=by
 have h0:j % 13=j:=Nat.mod_eq_of_lt hj
 unfold kf at hu
 rw[h0]at hu
 have hc:j=0∨j=1∨j=2∨j=3∨j=4∨j=5∨j=6∨j=7∨j=8∨j=9∨j=10∨j=11∨j=12:=by omega
 obtain⟨ky,st,en,an,asu,ale,amo,fn,fsu,fle,fmo,td,tm⟩:=x
 rcases hc with rfl|rfl|rfl|rfl|rfl|rfl|rfl|rfl|rfl|rfl|rfl|rfl|rfl
 ·obtain⟨z,rfl⟩:∃z,u= .int .i64 z:=by simpa using hu
  exact⟨⟨z,st,en,an,asu,ale,amo,fn,fsu,fle,fmo,td,tm⟩,rfl⟩
 ·obtain⟨z,rfl⟩:∃z,u= .int .i64 z:=by simpa using hu
  exact⟨⟨ky,z,en,an,asu,ale,amo,fn,fsu,fle,fmo,td,tm⟩,rfl⟩
 ·obtain⟨z,rfl⟩:∃z,u= .int .i64 z:=by simpa using hu
  exact⟨⟨ky,st,z,an,asu,ale,amo,fn,fsu,fle,fmo,td,tm⟩,rfl⟩
 ·obtain⟨z,rfl⟩:∃z,u= .int .i64 z:=by simpa using hu
  exact⟨⟨ky,st,en,z,asu,ale,amo,fn,fsu,fle,fmo,td,tm⟩,rfl⟩
 ·obtain⟨z,rfl⟩:∃z,u= .int .i64 z:=by simpa using hu
  exact⟨⟨ky,st,en,an,z,ale,amo,fn,fsu,fle,fmo,td,tm⟩,rfl⟩
 ·obtain⟨z,rfl⟩:∃z,u= .int .i64 z:=by simpa using hu
  exact⟨⟨ky,st,en,an,asu,z,amo,fn,fsu,fle,fmo,td,tm⟩,rfl⟩
 ·obtain⟨z,rfl⟩:∃z,u= .int .i64 z:=by simpa using hu
  exact⟨⟨ky,st,en,an,asu,ale,z,fn,fsu,fle,fmo,td,tm⟩,rfl⟩
 ·obtain⟨z,rfl⟩:∃z,u= .int .i64 z:=by simpa using hu
  exact⟨⟨ky,st,en,an,asu,ale,amo,z,fsu,fle,fmo,td,tm⟩,rfl⟩
 ·obtain⟨z,rfl⟩:∃z,u= .int .i64 z:=by simpa using hu
  exact⟨⟨ky,st,en,an,asu,ale,amo,fn,z,fle,fmo,td,tm⟩,rfl⟩
 ·obtain⟨z,rfl⟩:∃z,u= .int .i64 z:=by simpa using hu
  exact⟨⟨ky,st,en,an,asu,ale,amo,fn,fsu,z,fmo,td,tm⟩,rfl⟩
 ·obtain⟨z,rfl⟩:∃z,u= .int .i64 z:=by simpa using hu
  exact⟨⟨ky,st,en,an,asu,ale,amo,fn,fsu,fle,z,td,tm⟩,rfl⟩
 ·obtain⟨z,rfl⟩:∃z,u= .int .i64 z:=by simpa using hu
  exact⟨⟨ky,st,en,an,asu,ale,amo,fn,fsu,fle,fmo,z,tm⟩,rfl⟩
 ·obtain⟨z,rfl⟩:∃z,u= .bool z:=by simpa using hu
  exact⟨⟨ky,st,en,an,asu,ale,amo,fn,fsu,fle,fmo,td,z⟩,rfl⟩
theorem flat_set:∀(xs:List aC) (j:Nat) (u:Value),j<xs.length*13→kf j u→∃ys:List aC,ys.length=xs.length∧(ba xs).set j u=ba ys
 | [],j,u,hj,_=>by simp at hj
 |x :: xs,j,u,hj,hu=>by
  have hc:x.cells.length=13:=rfl
  have he:ba (x :: xs)=x.cells++ba xs:=by simp[ba]
  by_cases h:j<13
  ·obtain⟨y,hy⟩:=cells_set x j u h hu
   refine⟨y :: xs,rfl,?_⟩
   rw[he,List.set_append_left _ _ (by omega),hy]
   simp[ba]
  ·have hu2:kf (j - 13) u:=by
    have h9:(j - 13) % 13=j % 13:=by omega
    unfold kf at hu ⊢
    rw[h9]
    exact hu
   obtain⟨ys,hl,hy⟩:=flat_set xs (j - 13) u (by rw[List.length_cons]at hj;omega) hu2
   refine⟨x :: ys,by simp[hl],?_⟩
   rw[he,List.set_append_right _ _ (by omega),hc,hy]
   simp[ba]
/-- An operator while it is spoilt: its box, the result's, and its rows. -/
structure iX(R:Nat)(w W:World)(a:Option Addr)(len cap p:Nat)(m:Int)(au:Option Addr)(n cu:Nat)(xs:List aC):Prop where
 S:W.heap[w.heap.size]? =some (.cells #[.int .i64 m,.slice au n cu] 27 (0,0))
 Z:W.heap[w.heap.size+1]? =some (.cells #[.int .i64 0,.slice none 0 0] 27 (0,0))
 L:xs.length=n
 O:W.ownsRow w.heap.size 57 13 (.slice au n cu) n (ba xs)
 K:Kp R w W
 D:Rd R W a len cap p
theorem iX.kp{R:Nat}{w W:World}{a:Option Addr}{len cap p:Nat}{m:Int}{au:Option Addr}{n cu:Nat}{xs:List aC}{W2:World}{p2:Nat}(h:iX R w W a len cap p m au n cu xs)(hR:R<w.heap.size)(k9:Kp R W W2)(d:Rd R W2 a len cap p2):iX R w W2 a len cap p2 m au n cu xs:=
 ⟨(k9.all _ (ay h.S) (by omega)).trans h.S,(k9.all _ (ay h.Z) (by omega)).trans h.Z,h.L,jM h.O k9 hR,h.K.trans k9,d⟩
theorem iX.bel{R:Nat}{w W:World}{a:Option Addr}{len cap p:Nat}{m:Int}{au:Option Addr}{n cu:Nat}{xs:List aC}{W2:World}(h:iX R w W a len cap p m au n cu xs)(hR:R<w.heap.size)(hb:Below W.heap.size W W2):iX R w W2 a len cap p m au n cu xs:=
 h.kp hR (Kp.of_bel (by have:=h.K.low.size;omega) hb) (h.D.kp (by have:=h.K.low.size;omega) hb)
theorem iX.setM{R:Nat}{w W:World}{a:Option Addr}{len cap p:Nat}{m:Int}{au:Option Addr}{n cu:Nat}{xs:List aC}(h:iX R w W a len cap p m au n cu xs)(hR:R<w.heap.size)(m2:Int):iX R w (W.setCell ⟨w.heap.size,0,none⟩ (.int .i64 m2)) a len cap p m2 au n cu xs:=
 ⟨Joins.block_setCell h.S _,(Below.heap_setCell _ _ _ _ (by show _≠w.heap.size;omega)).trans h.Z,h.L,al h.O (af h.O h.S (by decide)),aj h.K (by omega) (by omega),ai h.D (by omega)⟩
theorem iX.setC{R:Nat}{w W:World}{a:Option Addr}{len cap p:Nat}{m:Int}{n cu:Nat}{xs:List aC}{g:Nat}(h:iX R w W a len cap p m (some ⟨g,0,none⟩) n cu xs)(hR:R<w.heap.size)(j:Nat)(u:Value)(hj:j<n*13)(hu:kf j u):∃ys,iX R w (W.setCell ⟨g,j,none⟩ u) a len cap p m (some ⟨g,0,none⟩) n cu ys:=by
 obtain⟨ys,hl,hf⟩:=flat_set xs j u (by rw[h.L];exact hj) hu
 have h1:=(World.ownsRow.stored h.O j u).1
 rw[hf]at h1
 have hn0:=af h.O h.S (by decide)
 have hn1:=af h.O h.Z (by decide)
 have hge:=(World.ownsRow.lt h.O g rfl).1
 have hg0:w.heap.size≠g:=fun e=>hn0 (by rw[e];rfl)
 have hg1:w.heap.size+1≠g:=fun e=>hn1 (by rw[e];rfl)
 exact⟨ys,(Below.heap_setCell _ _ _ _ hg0).trans h.S,(Below.heap_setCell _ _ _ _ hg1).trans h.Z,hl.trans h.L,h1,aj h.K (by omega) (by omega),ai h.D (by omega)⟩
theorem iX.row{R:Nat}{w W:World}{a:Option Addr}{len cap p:Nat}{m:Int}{au:Option Addr}{n cu:Nat}{xs:List aC}(h:iX R w W a len cap p m au n cu xs)(hn:0<n):∃g,au=some ⟨g,0,none⟩:=by
 rcases h.O.2 with⟨_,h0⟩|⟨g,c,cur,e9,_⟩
 ·omega
 ·simp at e9
  exact⟨g,e9.1⟩
theorem iX.at{R:Nat}{w W:World}{a:Option Addr}{len cap p:Nat}{m:Int}{n cu:Nat}{xs:List aC}{g k:Nat}(h:iX R w W a len cap p m (some ⟨g,0,none⟩) n cu xs)(hk:k<n):∃x:aC,xs[k]? =some x∧∀o u,x.cells[o]? =some u→W.cell? ⟨g,k*13+o,none⟩=some u:=by
 have hl:=h.L
 obtain⟨x,hx⟩:∃x,xs[k]? =some x:=⟨_,List.getElem?_eq_getElem (by omega)⟩
 refine⟨x,hx,fun o u hu=>?_⟩
 have ho:o<13:=by
  have h9:=(List.getElem?_eq_some_iff.1 hu).1
  exact h9
 rw[World.ownsRow.cellAt h.O (k*13+o) (by omega)]
 have e1:ba xs=ba (xs.take k)++(x.cells++ba (xs.drop (k+1))):=by
  have hs:xs=xs.take k++(x :: xs.drop (k+1)):=by
   obtain⟨hi,rfl⟩:=List.getElem?_eq_some_iff.1 hx
   rw[←List.drop_eq_getElem_cons hi,List.take_append_drop]
  conv=>lhs;rw[hs]
  simp[ba]
 have hlt:(ba (xs.take k)).length=k*13:=by rw[gC,List.length_take];congr 1;omega
 rw[e1,List.getElem?_append_right (by omega),hlt,Nat.add_sub_cancel_left,List.getElem?_append_left (by exact ho)]
 exact hu
theorem iX.frz{R:Nat}{w W:World}{a:Option Addr}{len cap p:Nat}{m:Int}{n cu:Nat}{xs:List aC}{g:Nat}(h:iX R w W a len cap p m (some ⟨g,0,none⟩) n cu xs)(j:Nat):W.frozen? ⟨g,j,none⟩=false:=World.ownsRow.frozenAt h.O j
theorem iX.done{R:Nat}{w W:World}{a:Option Addr}{len cap p:Nat}{m:Int}{au:Option Addr}{n cu:Nat}{xs:List aC}{p0 N:Nat}(h:iX R w W a len cap p m au n cu xs)(hR:R<w.heap.size)(hx:n≤N)(hm: -1≤m∧m≤1001)(hp:p≤p0+600):OpDr N R w a len cap p0 (.returned (.agg #[.int .i64 m,.slice au n cu])) ((W.setCell ⟨w.heap.size+1,0,none⟩ (.int .i64 m)).setCell ⟨w.heap.size+1,1,none⟩ (.slice au n cu)):=by
 obtain⟨h1,h2,h3,h4,h5,h6⟩:=h
 subst h3
 exact⟨m,au,cu,xs,rfl,al (al h4 (af h4 h2 (by decide))) (af h4 h2 (by decide)),hx,hm,aj (aj h5 (by omega) (by omega)) (by omega) (by omega),p,hp,ai (ai h6 (by omega)) (by omega)⟩
/-- One of a few drawn numbers. -/
theorem pick4{W:World}{X:Nat}{y:Nat}{z0 z1 z2 z3:Int}(h:W.heap[X]? =some (.cells #[.int .i64 z0,.int .i64 z1,.int .i64 z2,.int .i64 z3] 3 (0,0)))(hy:y<4):∃t:Int,W.cell? ⟨X,y,none⟩=some (.int .i64 t)∧(t=z0∨t=z1∨t=z2∨t=z3):=by
 have hc:y=0∨y=1∨y=2∨y=3:=by omega
 rcases hc with rfl|rfl|rfl|rfl
 ·exact⟨z0,cA h 0,by simp⟩
 ·exact⟨z1,cA h 1,by simp⟩
 ·exact⟨z2,cA h 2,by simp⟩
 ·exact⟨z3,cA h 3,by simp⟩
theorem pick2{W:World}{X:Nat}{y:Nat}{z0 z1:Int}(h:W.heap[X]? =some (.cells #[.int .i64 z0,.int .i64 z1] 3 (0,0)))(hy:y<2):∃t:Int,W.cell? ⟨X,y,none⟩=some (.int .i64 t):=by
 have hc:y=0∨y=1:=by omega
 rcases hc with rfl|rfl
 ·exact⟨z0,cA h 0⟩
 ·exact⟨z1,cA h 1⟩
theorem iX.app{R:Nat}{w W:World}{a:Option Addr}{len cap p:Nat}{m:Int}{n cu:Nat}{xs:List aC}{g c5:Nat}{a5:Option Addr}{x:aC}{W5:World}(h:iX R w W a len cap p m (some ⟨g,0,none⟩) n cu xs)(hR:R<w.heap.size)(ho:W5.ownsRow w.heap.size 57 13 (.slice a5 (n+1) c5) (n+1) (ba xs++x.cells))(hg:W.grownBy W5 (some g)):W5.heap[w.heap.size]? =some (.cells #[.int .i64 m,.slice (some ⟨g,0,none⟩) n cu] 27 (0,0))∧iX R w (W5.setCell ⟨w.heap.size,1,none⟩ (.slice a5 (n+1) c5)) a len cap p m a5 (n+1) c5 (xs++[x]):=by
 have hge:=World.ownsRow.lt h.O g rfl
 have hn0:=af h.O h.S (by decide)
 have hn1:=af h.O h.Z (by decide)
 have hz:=h.K.low.size
 have e0:some w.heap.size≠some g:=fun e=>hn0 e.symm
 have e1:some (w.heap.size+1)≠some g:=fun e=>hn1 e.symm
 have s5:=(hg.block w.heap.size (ay h.S) e0).trans h.S
 have z5:=(hg.block (w.heap.size+1) (ay h.Z) e1).trans h.Z
 have hlo:∀b9,b9<w.heap.size→some b9≠some g:=fun b9 hb e=>by cases e;omega
 have k5:Kp R w W5:=⟨⟨hg.os.trans h.K.low.os,hg.tape.trans h.K.low.tape,hg.output.trans h.K.low.output,Nat.le_trans h.K.low.size hg.size,fun b9 hb=>(hg.block b9 (by omega) (hlo b9 (by omega))).trans (h.K.low.block b9 hb)⟩,fun b9 hb hn=>(hg.block b9 (by omega) (hlo b9 hb)).trans (h.K.all b9 hb hn)⟩
 have d5:Rd R W5 a len cap p:=h.D.up ⟨hg.os,hg.tape,hg.output,hg.size,fun b9 hb=>hg.block b9 (by omega) (hlo b9 (by omega))⟩
 refine⟨s5,?_,?_,?_,?_,?_,?_⟩
 ·exact Joins.block_setCell s5 _
 ·exact(Below.heap_setCell _ _ _ _ (by show _≠w.heap.size;omega)).trans z5
 ·simp[h.L]
 ·have h9:W5.ownsRow w.heap.size 57 13 (.slice a5 (n+1) c5) (n+1) (ba (xs++[x])):=by rw[fM];exact ho
  exact al h9 (af h9 s5 (by decide))
 ·exact aj k5 (by omega) (by omega)
 ·exact ai d5 (by omega)
set_option maxRecDepth 100000 in
set_option maxHeartbeats 16000000 in
theorem bad_any(R:Nat)(a:Option Addr)(len cap p:Nat)(m:Int)(a0:Option Addr)(n c0:Nat)(zs:List aC)(w:World)(h0:cO w a0 n zs)(hn0:n≤260)(hm0: -1≤m∧m≤1001)(hp:p≤700000)(hR0:R<w.heap.size)(h:Rd R w a len cap p):Calls Tryz.prog 54 #[.pointer (some ⟨R,0,none⟩),.agg #[.int .i64 m,.slice a0 n c0]] w fun e' w'=>OpDr 261 R w a len cap p e' w':=by
 obtain⟨i0,hi,hz0',hz1',hz2'⟩:=info_parts Tryz.infoOr
 have hzl:=h0.1
 have hb0:Below w.heap.size w ((w.alloc (.cells #[.int .i64 m,.slice a0 n c0] 27)).alloc (.cells #[.int .i64 0,.slice none 0 0] 27)):=ag (aq _ _) _
 have eS:((w.alloc (.cells #[.int .i64 m,.slice a0 n c0] 27)).alloc (.cells #[.int .i64 0,.slice none 0 0] 27)).heap[w.heap.size]? =some (.cells #[.int .i64 m,.slice a0 n c0] 27 (0,0)):=aN<|nA
 have eZ:((w.alloc (.cells #[.int .i64 m,.slice a0 n c0] 27)).alloc (.cells #[.int .i64 0,.slice none 0 0] 27)).heap[w.heap.size+1]? =some (.cells #[.int .i64 0,.slice none 0 0] 27 (0,0)):=nA
 have HR:=ae (h0.below hb0)
 have HK:=ae (Kp.of_bel (Nat.le_of_lt hR0) hb0)
 have HDr:=ae (h.kp hR0 hb0)
 go_enter Tryz.func54,Tryz.ntmps54
 go_wp2_with fail
 refine(eT m a0 n c0 zs _ (ab HR) (by omega)).mono ?_
 rintro e' w1 ⟨vc,rfl,hOc,hb1⟩
 obtain⟨au,cu,rfl⟩:=dr hOc
 have HI0:Hid (iX R w ((w1.setCell ⟨w.heap.size,0,none⟩ (.int .i64 m)).setCell ⟨w.heap.size,1,none⟩ (.slice au n cu)) a len cap p m au n cu zs):=ae (by
  have bS:=(hb1.block (w.heap.size) (sA)).trans eS
  have bZ:=(hb1.block (w.heap.size+1) (sA)).trans eZ
  have hO:w1.ownsRow w.heap.size 57 13 (.slice au n cu) n (ba zs):=World.ownsRow.mono hOc (oa)
  have hz:R<((w.alloc (.cells #[.int .i64 m,.slice a0 n c0] 27)).alloc (.cells #[.int .i64 0,.slice none 0 0] 27)).heap.size:=by simp;omega
  have k1:Kp R w w1:=(ab HK).trans (Kp.of_bel (Nat.le_of_lt hz) hb1)
  have d1:Rd R w1 a len cap p:=(ab HDr).kp hz hb1
  exact⟨Joins.block_setCell (Joins.block_setCell bS _) _,(Below.heap_setCell _ _ _ _ (by show _≠w.heap.size;omega)).trans ((Below.heap_setCell _ _ _ _ (by show _≠w.heap.size;omega)).trans bZ),hzl,al (al hO (af hO bS (by decide))) (af hO bS (by decide)),aj (aj k1 (by omega) (by omega)) (by omega) (by omega),ai (ai d1 (by omega)) (by omega)⟩)
 have bS:=(hb1.block (w.heap.size) (sA)).trans eS
 obtain⟨s0,s1⟩:=Go.Proofs.YtdmhihcipkhecaaGreat.c2 bS
 obtain⟨f0,f1⟩:=f2 bS
 have zS:w.heap.size<w1.heap.size:=ay bS
 go_upto_region 2 with fail
 clear s0 s1 f0 f1 zS bS HR HK HDr eS eZ hb0 hOc hb1
 generalize ((w1.setCell ⟨w.heap.size,0,none⟩ (.int .i64 m)).setCell ⟨w.heap.size,1,none⟩ (.slice au n cu))=wb at HI0 ⊢
 have hRb:R<wb.heap.size:=by have:=(ab HI0).K.low.size;omega
 obtain⟨s0,s1⟩:=Go.Proofs.YtdmhihcipkhecaaGreat.c2 (ab HI0).S
 obtain⟨z0,z1⟩:=Go.Proofs.YtdmhihcipkhecaaGreat.c2 (ab HI0).Z
 have f0:=cF (ab HI0).S 0
 have g0:=cF (ab HI0).Z 0
 have f1:=cF (ab HI0).S 1
 have g1:=cF (ab HI0).Z 1
 have zS:w.heap.size+1<wb.heap.size:=ay (ab HI0).Z
 by_cases hn:n=0
 ·have hn1:((n:Int)==0)=true:=by simp[hn]
  have hn2:(n==0)=true:=by simp[hn]
  have zwb:=(ab HI0).K.low.size
  go_wp2_with fail
  (try clear hn1 hn2)
  (try clear hn)
  have HA:=ae ((ab HI0).bel hR0 (aq wb (.cells #[.int .i64 (-1),.int .i64 1000,.int .i64 1001,.int .i64 40] 3)))
  have hXA:(wb.alloc (.cells #[.int .i64 (-1),.int .i64 1000,.int .i64 1001,.int .i64 40] 3)).heap[wb.heap.size]? =some (.cells #[.int .i64 (-1),.int .i64 1000,.int .i64 1001,.int .i64 40] 3 (0,0)):=World.alloc_heap_new wb _
  clear s0 s1 f0 f1 z0 z1 g0 g1 zS HI0
  have neX:wb.heap.size≠R:=by omega
  generalize hgX:wb.heap.size=X at hXA neX ⊢
  generalize wb.alloc (.cells #[.int .i64 (-1),.int .i64 1000,.int .i64 1001,.int .i64 40] 3)=wa at HA hXA ⊢
  refine(aG R a len cap (p) 4 _ (by decide) (by decide) (ab HA).D).mono ?_
  rintro e' wc ⟨y9,rfl,y9l,y9u,k9,r9⟩
  obtain⟨y8,rfl⟩:=Int.eq_ofNat_of_zero_le y9l
  have HB:=ae ((ab HA).kp hR0 k9 (r9 (by omega)))
  have hXB:=(k9.all X (ay hXA) neX).trans hXA
  obtain⟨t9,ht9,mU⟩:=pick4 hXB (y:=y8) (by omega)
  have y8u:y8<4:=by omega
  have zX:X<wc.heap.size:=ay hXB
  clear HA k9 r9 hXA hXB y9l
  obtain⟨s0,s1⟩:=Go.Proofs.YtdmhihcipkhecaaGreat.c2 (ab HB).S
  obtain⟨z0,z1⟩:=Go.Proofs.YtdmhihcipkhecaaGreat.c2 (ab HB).Z
  have f0:=cF (ab HB).S 0
  have g0:=cF (ab HB).Z 0
  have f1:=cF (ab HB).S 1
  have g1:=cF (ab HB).Z 1
  have zS:w.heap.size+1<wc.heap.size:=ay (ab HB).Z
  have HC:=ae ((ab HB).setM hR0 t9)
  go_wp2
  refine bodyPost_ret (v:= .agg #[.int .i64 t9,.slice au (n) cu]) (nm) rfl ?_
  exact(ab HC).done (p0:=p) (N:=261) hR0 (by omega) (by omega) (by omega)
 ·have hn1:((n:Int)==0)=false:=by simp;omega
  have hn2:(n==0)=false:=by simp;omega
  go_wp2_with fail
  refine(aG R a len cap p 4 _ (by decide) (by decide) (ab HI0).D).mono ?_
  rintro e' w2 ⟨y,rfl,yl,yu,k9,r9⟩
  have HI1:=ae ((ab HI0).kp hR0 k9 (r9 (by omega)))
  clear HI0 k9 r9 s0 s1 f0 f1 z0 z1 g0 g1 zS
  have zw2:=(ab HI1).K.low.size
  obtain⟨s0,s1⟩:=Go.Proofs.YtdmhihcipkhecaaGreat.c2 (ab HI1).S
  obtain⟨z0,z1⟩:=Go.Proofs.YtdmhihcipkhecaaGreat.c2 (ab HI1).Z
  have f0:=cF (ab HI1).S 0
  have g0:=cF (ab HI1).Z 0
  have f1:=cF (ab HI1).S 1
  have g1:=cF (ab HI1).Z 1
  have zS:w.heap.size+1<w2.heap.size:=ay (ab HI1).Z
  by_cases hy:y=0
  ·have hy1:(y==0)=true:=by simp[hy]
   go_wp2_with fail
   (try clear hn1 hn2)
   (try clear hn)
   have HA:=ae ((ab HI1).bel hR0 (aq w2 (.cells #[.int .i64 (-1),.int .i64 1000,.int .i64 1001,.int .i64 40] 3)))
   have hXA:(w2.alloc (.cells #[.int .i64 (-1),.int .i64 1000,.int .i64 1001,.int .i64 40] 3)).heap[w2.heap.size]? =some (.cells #[.int .i64 (-1),.int .i64 1000,.int .i64 1001,.int .i64 40] 3 (0,0)):=World.alloc_heap_new w2 _
   clear s0 s1 f0 f1 z0 z1 g0 g1 zS HI1
   have neX:w2.heap.size≠R:=by omega
   generalize hgX:w2.heap.size=X at hXA neX ⊢
   generalize w2.alloc (.cells #[.int .i64 (-1),.int .i64 1000,.int .i64 1001,.int .i64 40] 3)=wa at HA hXA ⊢
   refine(aG R a len cap (p+1) 4 _ (by decide) (by decide) (ab HA).D).mono ?_
   rintro e' wc ⟨y9,rfl,y9l,y9u,k9,r9⟩
   obtain⟨y8,rfl⟩:=Int.eq_ofNat_of_zero_le y9l
   have HB:=ae ((ab HA).kp hR0 k9 (r9 (by omega)))
   have hXB:=(k9.all X (ay hXA) neX).trans hXA
   obtain⟨t9,ht9,mU⟩:=pick4 hXB (y:=y8) (by omega)
   have y8u:y8<4:=by omega
   have zX:X<wc.heap.size:=ay hXB
   clear HA k9 r9 hXA hXB y9l
   obtain⟨s0,s1⟩:=Go.Proofs.YtdmhihcipkhecaaGreat.c2 (ab HB).S
   obtain⟨z0,z1⟩:=Go.Proofs.YtdmhihcipkhecaaGreat.c2 (ab HB).Z
   have f0:=cF (ab HB).S 0
   have g0:=cF (ab HB).Z 0
   have f1:=cF (ab HB).S 1
   have g1:=cF (ab HB).Z 1
   have zS:w.heap.size+1<wc.heap.size:=ay (ab HB).Z
   have HC:=ae ((ab HB).setM hR0 t9)
   go_wp2
   refine bodyPost_ret (v:= .agg #[.int .i64 t9,.slice au (n) cu]) (nm) rfl ?_
   exact(ab HC).done (p0:=p) (N:=261) hR0 (by omega) (by omega) (by omega)
  ·have hy1:(y==0)=false:=by simp[hy]
   go_wp2_with fail
   refine(aG R a len cap (p+1) (n:Int) _ (by omega) (by omega) (ab HI1).D).mono ?_
   rintro e' w3 ⟨y2,rfl,y2l,y2u,k9,r9⟩
   obtain⟨kr,rfl⟩:=Int.eq_ofNat_of_zero_le y2l
   have HI2:=ae ((ab HI1).kp hR0 k9 (r9 (by omega)))
   clear HI1 k9 r9 s0 s1 f0 f1 z0 z1 g0 g1 zS
   have hkr:kr<n:=by omega
   have hkrI:(kr:Int)<(n:Int):=by omega
   go_wp2_with fail
   refine(aG R a len cap (p+1+1) 7 _ (by decide) (by decide) (ab HI2).D).mono ?_
   rintro e' wb ⟨c,rfl,cl,cu9,k9,r9⟩
   have HD:=ae ((ab HI2).kp hR0 k9 (r9 (by omega)))
   clear HI2 k9 r9 hn1 hn2 hy1
   obtain⟨g,rfl⟩:=(ab HD).row (by omega)
   have zwb:=(ab HD).K.low.size
   have hgw:=(World.ownsRow.lt (ab HD).O g rfl).1
   obtain⟨s0,s1⟩:=Go.Proofs.YtdmhihcipkhecaaGreat.c2 (ab HD).S
   obtain⟨z0,z1⟩:=Go.Proofs.YtdmhihcipkhecaaGreat.c2 (ab HD).Z
   have f0:=cF (ab HD).S 0
   have g0:=cF (ab HD).Z 0
   have f1:=cF (ab HD).S 1
   have g1:=cF (ab HD).Z 1
   have zS:w.heap.size+1<wb.heap.size:=ay (ab HD).Z
   have hc:c=0∨c=1∨c=2∨c=3∨c=4∨c=5∨c=6:=by omega
   rcases hc with rfl|rfl|rfl|rfl|rfl|rfl|rfl
   ·go_wp2_with fail
    clear s0 s1 f0 f1 z0 z1 g0 g1 zS
    have HE:=ae ((ab HD).bel hR0 (ap (Below.refl _ _)))
    have bS:=(ab HE).S
    refine wp_region_held_drew (S:=(fun W=>W.heap[w.heap.size]? =some (.cells #[.int .i64 m,.slice (some ⟨g,0,none⟩) n cu] 27 (0,0)))) (oc) ?_ (fun hHeld=>?_)
    ·((try dsimp only);exact(ab HD).S)
    refine kV 0 ?_
    refine kT 1 ?_ ?_ ?_
    rotate_left
    ·(intro w9 hSw;(try dsimp only at hSw);have q0:=hSw;obtain⟨ax0,ax1⟩:=Go.Proofs.YtdmhihcipkhecaaGreat.c2 q0;go_simp<;>with_reducible rfl)
    try simp only[Act.put,tA,tZ,tS]
    refine kV 2 ?_
    refine kV 4 ?_
    refine wpAnyH_ready (rs:=[3,5]) (oc) (by simp) ?_
    refine AllReadyH.cons (nP) (fun K hK=>?_) ?_
    ·go_simp
     have HF:=ae ((ab HE).bel hR0 (aq _ (.cells #[.int .i64 (-1),.int .i64 4] 3)))
     obtain⟨X,hX⟩:∃X,wb.heap.size=X:=⟨_,rfl⟩
     have hXA:(wb.drew.alloc (.cells #[.int .i64 (-1),.int .i64 4] 3)).heap[X]? =some (.cells #[.int .i64 (-1),.int .i64 4] 3 (0,0)):=by rw[←hX];exact World.alloc_heap_new wb.drew _
     have hXR:X≠R:=by have:=(ab HE).K.low.size;omega
     (try rw[hX])
     clear hHeld
     refine hK.out _ _ ?_ (fun hHeld=>?_)
     ·((try dsimp only);exact(ab HF).S)
     clear hK K
     try simp only[Act.put,tA,tZ,tS]
     clear HE HD bS
     refine rD 5 (fun K hK=>?_)
     go_simp
     (go_at_call 25;refine(aG R a len cap _ 2 _ (by decide) (by decide) (ab HF).D).mono ?_;rintro e9 w6 ⟨y9,rfl,y9l,y9u,k9,r9⟩)
     (try go_wp2_with fail)
     obtain⟨y8,rfl⟩:=Int.eq_ofNat_of_zero_le y9l
     have y8u:y8<2:=by omega
     have HG:=ae ((ab HF).kp hR0 k9 (r9 (by omega)))
     have hXB:=(k9.all X (ay hXA) hXR).trans hXA
     clear k9 r9 HF hXA
     clear hHeld
     refine hK.out _ _ ?_ (fun hHeld=>?_)
     ·((try dsimp only);exact(ab HG).S)
     clear hK K
     try simp only[Act.put,tA,tZ,tS]
     obtain⟨t9,ht9⟩:=pick2 hXB (y:=y8) (by omega)
     have zX:X<w6.heap.size:=ay hXB
     refine kV 6 ?_
     refine rD 7 (fun K hK=>?_)
     go_simp
     clear hHeld
     refine hK.out _ _ ?_ (fun hHeld=>?_)
     ·((try dsimp only);exact(ab HG).S)
     clear hK K
     try simp only[Act.put,tA,tZ,tS]
     refine kV 8 ?_
     refine kV 9 ?_
     refine rD 10 (fun K hK=>?_)
     obtain⟨x9,_,hxc⟩:=(ab HG).at (k:=kr) hkr
     obtain⟨u0,c0⟩:∃u,w6.cell? ⟨g,kr*13+0,none⟩=some u:=⟨_,hxc 0 _ rfl⟩
     have d0:=(ab HG).frz (kr*13+0)
     have c0':=c0
     rw[Nat.add_zero]at c0'
     have d0':=d0
     rw[Nat.add_zero]at d0'
     have zg:g<w6.heap.size:=(World.ownsRow.lt (ab HG).O g rfl).2
     clear hxc
     go_simp
     obtain⟨ys0,hys0⟩:=(ab HG).setC hR0 (kr*13) (.int .i64 t9) (by omega) (by unfold kf;rw[if_neg (by omega)];exact⟨_,rfl⟩)
     have HS0:=ae hys0
     clear hys0
     clear hHeld
     refine hK.out _ _ ?_ (fun hHeld=>?_)
     ·((try dsimp only);exact(ab HS0).S)
     clear hK K
     try simp only[Act.put,tA,tZ,tS]
     refine wpAnyH_done (oc) ?_ _
     clear hHeld
     generalize (w6.setCell ⟨g,kr*13,none⟩ (.int .i64 t9))=wz at HS0 ⊢
     obtain⟨s0,s1⟩:=Go.Proofs.YtdmhihcipkhecaaGreat.c2 (ab HS0).S
     obtain⟨z0,z1⟩:=Go.Proofs.YtdmhihcipkhecaaGreat.c2 (ab HS0).Z
     have f0:=cF (ab HS0).S 0
     have g0:=cF (ab HS0).Z 0
     have f1:=cF (ab HS0).S 1
     have g1:=cF (ab HS0).Z 1
     have zS:w.heap.size+1<wz.heap.size:=ay (ab HS0).Z
     go_wp2
     refine bodyPost_ret (v:= .agg #[.int .i64 m,.slice (some ⟨g,0,none⟩) (n) cu]) (nm) rfl ?_
     exact(ab HS0).done (p0:=p) (N:=261) hR0 (by omega) (by omega) (by omega)
    ·refine AllReadyH.cons (nP) (fun K hK=>?_) AllReadyH.nil
     go_simp
     (go_at_call 25;refine(aG R a len cap _ 2 _ (by decide) (by decide) (ab HE).D).mono ?_;rintro e9 w6 ⟨y9,rfl,y9l,y9u,k9,r9⟩)
     (try go_wp2_with fail)
     obtain⟨y8,rfl⟩:=Int.eq_ofNat_of_zero_le y9l
     have y8u:y8<2:=by omega
     have HG:=ae ((ab HE).kp hR0 k9 (r9 (by omega)))
     clear k9 r9 HE HD bS
     clear hHeld
     refine hK.out _ _ ?_ (fun hHeld=>?_)
     ·((try dsimp only);exact(ab HG).S)
     clear hK K
     try simp only[Act.put,tA,tZ,tS]
     refine rD 3 (fun K hK=>?_)
     go_simp
     have HF:=ae ((ab HG).bel hR0 (aq _ (.cells #[.int .i64 (-1),.int .i64 4] 3)))
     obtain⟨X,hX⟩:∃X,w6.heap.size=X:=⟨_,rfl⟩
     have hXB:(w6.alloc (.cells #[.int .i64 (-1),.int .i64 4] 3)).heap[X]? =some (.cells #[.int .i64 (-1),.int .i64 4] 3 (0,0)):=by rw[←hX];exact World.alloc_heap_new _ _
     (try rw[hX])
     clear HG
     clear hHeld
     refine hK.out _ _ ?_ (fun hHeld=>?_)
     ·((try dsimp only);exact(ab HF).S)
     clear hK K
     try simp only[Act.put,tA,tZ,tS]
     generalize w6.alloc (.cells #[.int .i64 (-1),.int .i64 4] 3)=w7 at HF hXB hHeld ⊢
     obtain⟨t9,ht9⟩:=pick2 hXB (y:=y8) (by omega)
     have zX:X<w7.heap.size:=ay hXB
     refine kV 6 ?_
     refine rD 7 (fun K hK=>?_)
     go_simp
     clear hHeld
     refine hK.out _ _ ?_ (fun hHeld=>?_)
     ·((try dsimp only);exact(ab HF).S)
     clear hK K
     try simp only[Act.put,tA,tZ,tS]
     refine kV 8 ?_
     refine kV 9 ?_
     refine rD 10 (fun K hK=>?_)
     obtain⟨x9,_,hxc⟩:=(ab HF).at (k:=kr) hkr
     obtain⟨u0,c0⟩:∃u,w7.cell? ⟨g,kr*13+0,none⟩=some u:=⟨_,hxc 0 _ rfl⟩
     have d0:=(ab HF).frz (kr*13+0)
     have c0':=c0
     rw[Nat.add_zero]at c0'
     have d0':=d0
     rw[Nat.add_zero]at d0'
     have zg:g<w7.heap.size:=(World.ownsRow.lt (ab HF).O g rfl).2
     clear hxc
     go_simp
     obtain⟨ys0,hys0⟩:=(ab HF).setC hR0 (kr*13) (.int .i64 t9) (by omega) (by unfold kf;rw[if_neg (by omega)];exact⟨_,rfl⟩)
     have HS0:=ae hys0
     clear hys0
     clear hHeld
     refine hK.out _ _ ?_ (fun hHeld=>?_)
     ·((try dsimp only);exact(ab HS0).S)
     clear hK K
     try simp only[Act.put,tA,tZ,tS]
     refine wpAnyH_done (oc) ?_ _
     clear hHeld
     generalize (w7.setCell ⟨g,kr*13,none⟩ (.int .i64 t9))=wz at HS0 ⊢
     obtain⟨s0,s1⟩:=Go.Proofs.YtdmhihcipkhecaaGreat.c2 (ab HS0).S
     obtain⟨z0,z1⟩:=Go.Proofs.YtdmhihcipkhecaaGreat.c2 (ab HS0).Z
     have f0:=cF (ab HS0).S 0
     have g0:=cF (ab HS0).Z 0
     have f1:=cF (ab HS0).S 1
     have g1:=cF (ab HS0).Z 1
     have zS:w.heap.size+1<wz.heap.size:=ay (ab HS0).Z
     go_wp2
     refine bodyPost_ret (v:= .agg #[.int .i64 m,.slice (some ⟨g,0,none⟩) (n) cu]) (nm) rfl ?_
     exact(ab HS0).done (p0:=p) (N:=261) hR0 (by omega) (by omega) (by omega)
   ·go_wp2_with fail
    clear s0 s1 f0 f1 z0 z1 g0 g1 zS
    have HE:=ae ((ab HD).bel hR0 (ap (Below.refl _ _)))
    have bS:=(ab HE).S
    refine wp_region_held_drew (S:=(fun W=>W.heap[w.heap.size]? =some (.cells #[.int .i64 m,.slice (some ⟨g,0,none⟩) n cu] 27 (0,0)))) (oc) ?_ (fun hHeld=>?_)
    ·((try dsimp only);exact(ab HD).S)
    refine kV 0 ?_
    refine kT 1 ?_ ?_ ?_
    rotate_left
    ·(intro w9 hSw;(try dsimp only at hSw);have q0:=hSw;obtain⟨ax0,ax1⟩:=Go.Proofs.YtdmhihcipkhecaaGreat.c2 q0;go_simp<;>with_reducible rfl)
    try simp only[Act.put,tA,tZ,tS]
    refine kV 2 ?_
    refine kV 3 ?_
    refine rD 4 (fun K hK=>?_)
    go_simp
    (go_at_call 75;refine(win_any R a len cap _ 2 _ (by decide) (by decide) (by omega) (by have:=(ab HE).K.low.size;omega) (ab HE).D).mono ?_;rintro e9 w6 ⟨q1,q2,rfl,_,_,k9,p6,hp6,r9⟩)
    (try go_wp2_with fail)
    have HG:=ae ((ab HE).kp hR0 k9 r9)
    clear HE HD bS k9 r9
    clear hHeld
    refine hK.out _ _ ?_ (fun hHeld=>?_)
    ·((try dsimp only);exact(ab HG).S)
    clear hK K
    try simp only[Act.put,tA,tZ,tS]
    refine kV 5 ?_
    refine kV 6 ?_
    refine rD 7 (fun K hK=>?_)
    obtain⟨x9,_,hxc⟩:=(ab HG).at (k:=kr) hkr
    obtain⟨u1,c1⟩:∃u,w6.cell? ⟨g,kr*13+1,none⟩=some u:=⟨_,hxc 1 _ rfl⟩
    have d1:=(ab HG).frz (kr*13+1)
    obtain⟨u2,c2⟩:∃u,w6.cell? ⟨g,kr*13+2,none⟩=some u:=⟨_,hxc 2 _ rfl⟩
    have d2:=(ab HG).frz (kr*13+2)
    have zg:g<w6.heap.size:=(World.ownsRow.lt (ab HG).O g rfl).2
    clear hxc
    go_simp
    obtain⟨ys0,hys0⟩:=(ab HG).setC hR0 (kr*13+1) (.int .i64 q1) (by omega) (by unfold kf;rw[if_neg (by omega)];exact⟨_,rfl⟩)
    have HS0:=ae hys0
    clear hys0
    obtain⟨ys1,hys1⟩:=(ab HS0).setC hR0 (kr*13+2) (.int .i64 q2) (by omega) (by unfold kf;rw[if_neg (by omega)];exact⟨_,rfl⟩)
    have HS1:=ae hys1
    clear hys1
    clear hHeld
    refine hK.out _ _ ?_ (fun hHeld=>?_)
    ·((try dsimp only);exact(ab HS1).S)
    clear hK K
    try simp only[Act.put,tA,tZ,tS]
    refine wpAnyH_done (oc) ?_ _
    clear hHeld
    generalize ((w6.setCell ⟨g,kr*13+1,none⟩ (.int .i64 q1)).setCell ⟨g,kr*13+2,none⟩ (.int .i64 q2))=wz at HS1 ⊢
    obtain⟨s0,s1⟩:=Go.Proofs.YtdmhihcipkhecaaGreat.c2 (ab HS1).S
    obtain⟨z0,z1⟩:=Go.Proofs.YtdmhihcipkhecaaGreat.c2 (ab HS1).Z
    have f0:=cF (ab HS1).S 0
    have g0:=cF (ab HS1).Z 0
    have f1:=cF (ab HS1).S 1
    have g1:=cF (ab HS1).Z 1
    have zS:w.heap.size+1<wz.heap.size:=ay (ab HS1).Z
    go_wp2
    refine bodyPost_ret (v:= .agg #[.int .i64 m,.slice (some ⟨g,0,none⟩) (n) cu]) (nm) rfl ?_
    exact(ab HS1).done (p0:=p) (N:=261) hR0 (by omega) (by omega) (by omega)
   ·go_wp2_with fail
    clear s0 s1 f0 f1 z0 z1 g0 g1 zS
    have HE:=ae ((ab HD).bel hR0 (ap (Below.refl _ _)))
    have bS:=(ab HE).S
    refine wp_region_held_drew (S:=(fun W=>W.heap[w.heap.size]? =some (.cells #[.int .i64 m,.slice (some ⟨g,0,none⟩) n cu] 27 (0,0)))) (oc) ?_ (fun hHeld=>?_)
    ·((try dsimp only);exact(ab HD).S)
    refine kV 0 ?_
    refine kT 1 ?_ ?_ ?_
    rotate_left
    ·(intro w9 hSw;(try dsimp only at hSw);have q0:=hSw;obtain⟨ax0,ax1⟩:=Go.Proofs.YtdmhihcipkhecaaGreat.c2 q0;go_simp<;>with_reducible rfl)
    try simp only[Act.put,tA,tZ,tS]
    refine kV 2 ?_
    refine kV 3 ?_
    refine rD 4 (fun K hK=>?_)
    go_simp
    (go_at_call 76;refine(agg_any R a len cap _ 2 _ (by decide) (by decide) (by omega) (by have:=(ab HE).K.low.size;omega) (ab HE).D).mono ?_;rintro e9 w6 ⟨q1,q2,q3,q4,rfl,_,_,_,_,k9,p6,hp6,r9⟩)
    (try go_wp2_with fail)
    have HG:=ae ((ab HE).kp hR0 k9 r9)
    clear HE HD bS k9 r9
    clear hHeld
    refine hK.out _ _ ?_ (fun hHeld=>?_)
    ·((try dsimp only);exact(ab HG).S)
    clear hK K
    try simp only[Act.put,tA,tZ,tS]
    refine kV 5 ?_
    refine kV 6 ?_
    refine rD 7 (fun K hK=>?_)
    obtain⟨x9,_,hxc⟩:=(ab HG).at (k:=kr) hkr
    obtain⟨u3,c3⟩:∃u,w6.cell? ⟨g,kr*13+3,none⟩=some u:=⟨_,hxc 3 _ rfl⟩
    have d3:=(ab HG).frz (kr*13+3)
    obtain⟨u4,c4⟩:∃u,w6.cell? ⟨g,kr*13+4,none⟩=some u:=⟨_,hxc 4 _ rfl⟩
    have d4:=(ab HG).frz (kr*13+4)
    obtain⟨u5,c5⟩:∃u,w6.cell? ⟨g,kr*13+5,none⟩=some u:=⟨_,hxc 5 _ rfl⟩
    have d5:=(ab HG).frz (kr*13+5)
    obtain⟨u6,c6⟩:∃u,w6.cell? ⟨g,kr*13+6,none⟩=some u:=⟨_,hxc 6 _ rfl⟩
    have d6:=(ab HG).frz (kr*13+6)
    have zg:g<w6.heap.size:=(World.ownsRow.lt (ab HG).O g rfl).2
    clear hxc
    go_simp
    obtain⟨ys0,hys0⟩:=(ab HG).setC hR0 (kr*13+3) (.int .i64 q1) (by omega) (by unfold kf;rw[if_neg (by omega)];exact⟨_,rfl⟩)
    have HS0:=ae hys0
    clear hys0
    obtain⟨ys1,hys1⟩:=(ab HS0).setC hR0 (kr*13+4) (.int .i64 q2) (by omega) (by unfold kf;rw[if_neg (by omega)];exact⟨_,rfl⟩)
    have HS1:=ae hys1
    clear hys1
    obtain⟨ys2,hys2⟩:=(ab HS1).setC hR0 (kr*13+5) (.int .i64 q3) (by omega) (by unfold kf;rw[if_neg (by omega)];exact⟨_,rfl⟩)
    have HS2:=ae hys2
    clear hys2
    obtain⟨ys3,hys3⟩:=(ab HS2).setC hR0 (kr*13+6) (.int .i64 q4) (by omega) (by unfold kf;rw[if_neg (by omega)];exact⟨_,rfl⟩)
    have HS3:=ae hys3
    clear hys3
    clear hHeld
    refine hK.out _ _ ?_ (fun hHeld=>?_)
    ·((try dsimp only);exact(ab HS3).S)
    clear hK K
    try simp only[Act.put,tA,tZ,tS]
    refine wpAnyH_done (oc) ?_ _
    clear hHeld
    generalize ((((w6.setCell ⟨g,kr*13+3,none⟩ (.int .i64 q1)).setCell ⟨g,kr*13+4,none⟩ (.int .i64 q2)).setCell ⟨g,kr*13+5,none⟩ (.int .i64 q3)).setCell ⟨g,kr*13+6,none⟩ (.int .i64 q4))=wz at HS3 ⊢
    obtain⟨s0,s1⟩:=Go.Proofs.YtdmhihcipkhecaaGreat.c2 (ab HS3).S
    obtain⟨z0,z1⟩:=Go.Proofs.YtdmhihcipkhecaaGreat.c2 (ab HS3).Z
    have f0:=cF (ab HS3).S 0
    have g0:=cF (ab HS3).Z 0
    have f1:=cF (ab HS3).S 1
    have g1:=cF (ab HS3).Z 1
    have zS:w.heap.size+1<wz.heap.size:=ay (ab HS3).Z
    go_wp2
    refine bodyPost_ret (v:= .agg #[.int .i64 m,.slice (some ⟨g,0,none⟩) (n) cu]) (nm) rfl ?_
    exact(ab HS3).done (p0:=p) (N:=261) hR0 (by omega) (by omega) (by omega)
   ·go_wp2_with fail
    clear s0 s1 f0 f1 z0 z1 g0 g1 zS
    have HE:=ae ((ab HD).bel hR0 (ap (Below.refl _ _)))
    have bS:=(ab HE).S
    refine wp_region_held_drew (S:=(fun W=>W.heap[w.heap.size]? =some (.cells #[.int .i64 m,.slice (some ⟨g,0,none⟩) n cu] 27 (0,0)))) (oc) ?_ (fun hHeld=>?_)
    ·((try dsimp only);exact(ab HD).S)
    refine kV 0 ?_
    refine kT 1 ?_ ?_ ?_
    rotate_left
    ·(intro w9 hSw;(try dsimp only at hSw);have q0:=hSw;obtain⟨ax0,ax1⟩:=Go.Proofs.YtdmhihcipkhecaaGreat.c2 q0;go_simp<;>with_reducible rfl)
    try simp only[Act.put,tA,tZ,tS]
    refine kV 2 ?_
    refine kV 3 ?_
    refine rD 4 (fun K hK=>?_)
    go_simp
    (go_at_call 76;refine(agg_any R a len cap _ 2 _ (by decide) (by decide) (by omega) (by have:=(ab HE).K.low.size;omega) (ab HE).D).mono ?_;rintro e9 w6 ⟨q1,q2,q3,q4,rfl,_,_,_,_,k9,p6,hp6,r9⟩)
    (try go_wp2_with fail)
    have HG:=ae ((ab HE).kp hR0 k9 r9)
    clear HE HD bS k9 r9
    clear hHeld
    refine hK.out _ _ ?_ (fun hHeld=>?_)
    ·((try dsimp only);exact(ab HG).S)
    clear hK K
    try simp only[Act.put,tA,tZ,tS]
    refine kV 5 ?_
    refine kV 6 ?_
    refine rD 7 (fun K hK=>?_)
    obtain⟨x9,_,hxc⟩:=(ab HG).at (k:=kr) hkr
    obtain⟨u7,c7⟩:∃u,w6.cell? ⟨g,kr*13+7,none⟩=some u:=⟨_,hxc 7 _ rfl⟩
    have d7:=(ab HG).frz (kr*13+7)
    obtain⟨u8,c8⟩:∃u,w6.cell? ⟨g,kr*13+8,none⟩=some u:=⟨_,hxc 8 _ rfl⟩
    have d8:=(ab HG).frz (kr*13+8)
    obtain⟨u9,c9⟩:∃u,w6.cell? ⟨g,kr*13+9,none⟩=some u:=⟨_,hxc 9 _ rfl⟩
    have d9:=(ab HG).frz (kr*13+9)
    obtain⟨u10,cZ⟩:∃u,w6.cell? ⟨g,kr*13+10,none⟩=some u:=⟨_,hxc 10 _ rfl⟩
    have d10:=(ab HG).frz (kr*13+10)
    have zg:g<w6.heap.size:=(World.ownsRow.lt (ab HG).O g rfl).2
    clear hxc
    go_simp
    obtain⟨ys0,hys0⟩:=(ab HG).setC hR0 (kr*13+7) (.int .i64 q1) (by omega) (by unfold kf;rw[if_neg (by omega)];exact⟨_,rfl⟩)
    have HS0:=ae hys0
    clear hys0
    obtain⟨ys1,hys1⟩:=(ab HS0).setC hR0 (kr*13+8) (.int .i64 q2) (by omega) (by unfold kf;rw[if_neg (by omega)];exact⟨_,rfl⟩)
    have HS1:=ae hys1
    clear hys1
    obtain⟨ys2,hys2⟩:=(ab HS1).setC hR0 (kr*13+9) (.int .i64 q3) (by omega) (by unfold kf;rw[if_neg (by omega)];exact⟨_,rfl⟩)
    have HS2:=ae hys2
    clear hys2
    obtain⟨ys3,hys3⟩:=(ab HS2).setC hR0 (kr*13+10) (.int .i64 q4) (by omega) (by unfold kf;rw[if_neg (by omega)];exact⟨_,rfl⟩)
    have HS3:=ae hys3
    clear hys3
    clear hHeld
    refine hK.out _ _ ?_ (fun hHeld=>?_)
    ·((try dsimp only);exact(ab HS3).S)
    clear hK K
    try simp only[Act.put,tA,tZ,tS]
    refine wpAnyH_done (oc) ?_ _
    clear hHeld
    generalize ((((w6.setCell ⟨g,kr*13+7,none⟩ (.int .i64 q1)).setCell ⟨g,kr*13+8,none⟩ (.int .i64 q2)).setCell ⟨g,kr*13+9,none⟩ (.int .i64 q3)).setCell ⟨g,kr*13+10,none⟩ (.int .i64 q4))=wz at HS3 ⊢
    obtain⟨s0,s1⟩:=Go.Proofs.YtdmhihcipkhecaaGreat.c2 (ab HS3).S
    obtain⟨z0,z1⟩:=Go.Proofs.YtdmhihcipkhecaaGreat.c2 (ab HS3).Z
    have f0:=cF (ab HS3).S 0
    have g0:=cF (ab HS3).Z 0
    have f1:=cF (ab HS3).S 1
    have g1:=cF (ab HS3).Z 1
    have zS:w.heap.size+1<wz.heap.size:=ay (ab HS3).Z
    go_wp2
    refine bodyPost_ret (v:= .agg #[.int .i64 m,.slice (some ⟨g,0,none⟩) (n) cu]) (nm) rfl ?_
    exact(ab HS3).done (p0:=p) (N:=261) hR0 (by omega) (by omega) (by omega)
   ·go_wp2_with fail
    clear s0 s1 f0 f1 z0 z1 g0 g1 zS
    have HE:=ae ((ab HD).bel hR0 (ap (Below.refl _ _)))
    have bS:=(ab HE).S
    refine wp_region_held_drew (S:=(fun W=>W.heap[w.heap.size]? =some (.cells #[.int .i64 m,.slice (some ⟨g,0,none⟩) n cu] 27 (0,0)))) (oc) ?_ (fun hHeld=>?_)
    ·((try dsimp only);exact(ab HD).S)
    refine kV 0 ?_
    refine kT 1 ?_ ?_ ?_
    rotate_left
    ·(intro w9 hSw;(try dsimp only at hSw);have q0:=hSw;obtain⟨ax0,ax1⟩:=Go.Proofs.YtdmhihcipkhecaaGreat.c2 q0;go_simp<;>with_reducible rfl)
    try simp only[Act.put,tA,tZ,tS]
    refine kV 2 ?_
    refine kV 4 ?_
    refine wpAnyH_ready (rs:=[3,5]) (oc) (by simp) ?_
    refine AllReadyH.cons (nP) (fun K hK=>?_) ?_
    ·go_simp
     have HF:=ae ((ab HE).bel hR0 (aq _ (.cells #[.int .i64 (-1),.int .i64 0,.int .i64 1,.int .i64 1501] 3)))
     obtain⟨X,hX⟩:∃X,wb.heap.size=X:=⟨_,rfl⟩
     have hXA:(wb.drew.alloc (.cells #[.int .i64 (-1),.int .i64 0,.int .i64 1,.int .i64 1501] 3)).heap[X]? =some (.cells #[.int .i64 (-1),.int .i64 0,.int .i64 1,.int .i64 1501] 3 (0,0)):=by rw[←hX];exact World.alloc_heap_new wb.drew _
     have hXR:X≠R:=by have:=(ab HE).K.low.size;omega
     (try rw[hX])
     clear hHeld
     refine hK.out _ _ ?_ (fun hHeld=>?_)
     ·((try dsimp only);exact(ab HF).S)
     clear hK K
     try simp only[Act.put,tA,tZ,tS]
     clear HE HD bS
     refine rD 5 (fun K hK=>?_)
     go_simp
     (go_at_call 25;refine(aG R a len cap _ 4 _ (by decide) (by decide) (ab HF).D).mono ?_;rintro e9 w6 ⟨y9,rfl,y9l,y9u,k9,r9⟩)
     (try go_wp2_with fail)
     obtain⟨y8,rfl⟩:=Int.eq_ofNat_of_zero_le y9l
     have y8u:y8<4:=by omega
     have HG:=ae ((ab HF).kp hR0 k9 (r9 (by omega)))
     have hXB:=(k9.all X (ay hXA) hXR).trans hXA
     clear k9 r9 HF hXA
     clear hHeld
     refine hK.out _ _ ?_ (fun hHeld=>?_)
     ·((try dsimp only);exact(ab HG).S)
     clear hK K
     try simp only[Act.put,tA,tZ,tS]
     obtain⟨t9,ht9,_⟩:=pick4 hXB (y:=y8) (by omega)
     have zX:X<w6.heap.size:=ay hXB
     refine kV 6 ?_
     refine rD 7 (fun K hK=>?_)
     go_simp
     clear hHeld
     refine hK.out _ _ ?_ (fun hHeld=>?_)
     ·((try dsimp only);exact(ab HG).S)
     clear hK K
     try simp only[Act.put,tA,tZ,tS]
     refine kV 8 ?_
     refine kV 9 ?_
     refine rD 10 (fun K hK=>?_)
     obtain⟨x9,_,hxc⟩:=(ab HG).at (k:=kr) hkr
     obtain⟨u11,c11⟩:∃u,w6.cell? ⟨g,kr*13+11,none⟩=some u:=⟨_,hxc 11 _ rfl⟩
     have d11:=(ab HG).frz (kr*13+11)
     have zg:g<w6.heap.size:=(World.ownsRow.lt (ab HG).O g rfl).2
     clear hxc
     go_simp
     obtain⟨ys0,hys0⟩:=(ab HG).setC hR0 (kr*13+11) (.int .i64 t9) (by omega) (by unfold kf;rw[if_neg (by omega)];exact⟨_,rfl⟩)
     have HS0:=ae hys0
     clear hys0
     clear hHeld
     refine hK.out _ _ ?_ (fun hHeld=>?_)
     ·((try dsimp only);exact(ab HS0).S)
     clear hK K
     try simp only[Act.put,tA,tZ,tS]
     refine wpAnyH_done (oc) ?_ _
     clear hHeld
     generalize (w6.setCell ⟨g,kr*13+11,none⟩ (.int .i64 t9))=wz at HS0 ⊢
     obtain⟨s0,s1⟩:=Go.Proofs.YtdmhihcipkhecaaGreat.c2 (ab HS0).S
     obtain⟨z0,z1⟩:=Go.Proofs.YtdmhihcipkhecaaGreat.c2 (ab HS0).Z
     have f0:=cF (ab HS0).S 0
     have g0:=cF (ab HS0).Z 0
     have f1:=cF (ab HS0).S 1
     have g1:=cF (ab HS0).Z 1
     have zS:w.heap.size+1<wz.heap.size:=ay (ab HS0).Z
     go_wp2
     refine bodyPost_ret (v:= .agg #[.int .i64 m,.slice (some ⟨g,0,none⟩) (n) cu]) (nm) rfl ?_
     exact(ab HS0).done (p0:=p) (N:=261) hR0 (by omega) (by omega) (by omega)
    ·refine AllReadyH.cons (nP) (fun K hK=>?_) AllReadyH.nil
     go_simp
     (go_at_call 25;refine(aG R a len cap _ 4 _ (by decide) (by decide) (ab HE).D).mono ?_;rintro e9 w6 ⟨y9,rfl,y9l,y9u,k9,r9⟩)
     (try go_wp2_with fail)
     obtain⟨y8,rfl⟩:=Int.eq_ofNat_of_zero_le y9l
     have y8u:y8<4:=by omega
     have HG:=ae ((ab HE).kp hR0 k9 (r9 (by omega)))
     clear k9 r9 HE HD bS
     clear hHeld
     refine hK.out _ _ ?_ (fun hHeld=>?_)
     ·((try dsimp only);exact(ab HG).S)
     clear hK K
     try simp only[Act.put,tA,tZ,tS]
     refine rD 3 (fun K hK=>?_)
     go_simp
     have HF:=ae ((ab HG).bel hR0 (aq _ (.cells #[.int .i64 (-1),.int .i64 0,.int .i64 1,.int .i64 1501] 3)))
     obtain⟨X,hX⟩:∃X,w6.heap.size=X:=⟨_,rfl⟩
     have hXB:(w6.alloc (.cells #[.int .i64 (-1),.int .i64 0,.int .i64 1,.int .i64 1501] 3)).heap[X]? =some (.cells #[.int .i64 (-1),.int .i64 0,.int .i64 1,.int .i64 1501] 3 (0,0)):=by rw[←hX];exact World.alloc_heap_new _ _
     (try rw[hX])
     clear HG
     clear hHeld
     refine hK.out _ _ ?_ (fun hHeld=>?_)
     ·((try dsimp only);exact(ab HF).S)
     clear hK K
     try simp only[Act.put,tA,tZ,tS]
     generalize w6.alloc (.cells #[.int .i64 (-1),.int .i64 0,.int .i64 1,.int .i64 1501] 3)=w7 at HF hXB hHeld ⊢
     obtain⟨t9,ht9,_⟩:=pick4 hXB (y:=y8) (by omega)
     have zX:X<w7.heap.size:=ay hXB
     refine kV 6 ?_
     refine rD 7 (fun K hK=>?_)
     go_simp
     clear hHeld
     refine hK.out _ _ ?_ (fun hHeld=>?_)
     ·((try dsimp only);exact(ab HF).S)
     clear hK K
     try simp only[Act.put,tA,tZ,tS]
     refine kV 8 ?_
     refine kV 9 ?_
     refine rD 10 (fun K hK=>?_)
     obtain⟨x9,_,hxc⟩:=(ab HF).at (k:=kr) hkr
     obtain⟨u11,c11⟩:∃u,w7.cell? ⟨g,kr*13+11,none⟩=some u:=⟨_,hxc 11 _ rfl⟩
     have d11:=(ab HF).frz (kr*13+11)
     have zg:g<w7.heap.size:=(World.ownsRow.lt (ab HF).O g rfl).2
     clear hxc
     go_simp
     obtain⟨ys0,hys0⟩:=(ab HF).setC hR0 (kr*13+11) (.int .i64 t9) (by omega) (by unfold kf;rw[if_neg (by omega)];exact⟨_,rfl⟩)
     have HS0:=ae hys0
     clear hys0
     clear hHeld
     refine hK.out _ _ ?_ (fun hHeld=>?_)
     ·((try dsimp only);exact(ab HS0).S)
     clear hK K
     try simp only[Act.put,tA,tZ,tS]
     refine wpAnyH_done (oc) ?_ _
     clear hHeld
     generalize (w7.setCell ⟨g,kr*13+11,none⟩ (.int .i64 t9))=wz at HS0 ⊢
     obtain⟨s0,s1⟩:=Go.Proofs.YtdmhihcipkhecaaGreat.c2 (ab HS0).S
     obtain⟨z0,z1⟩:=Go.Proofs.YtdmhihcipkhecaaGreat.c2 (ab HS0).Z
     have f0:=cF (ab HS0).S 0
     have g0:=cF (ab HS0).Z 0
     have f1:=cF (ab HS0).S 1
     have g1:=cF (ab HS0).Z 1
     have zS:w.heap.size+1<wz.heap.size:=ay (ab HS0).Z
     go_wp2
     refine bodyPost_ret (v:= .agg #[.int .i64 m,.slice (some ⟨g,0,none⟩) (n) cu]) (nm) rfl ?_
     exact(ab HS0).done (p0:=p) (N:=261) hR0 (by omega) (by omega) (by omega)
   ·go_wp2_with fail
    clear s0 s1 f0 f1 z0 z1 g0 g1 zS
    have HE:=ae ((ab HD).bel hR0 (ap (Below.refl _ _)))
    have bS:=(ab HE).S
    refine wp_region_held_drew (S:=(fun W=>W.heap[w.heap.size]? =some (.cells #[.int .i64 m,.slice (some ⟨g,0,none⟩) n cu] 27 (0,0)))) (oc) ?_ (fun hHeld=>?_)
    ·((try dsimp only);exact(ab HD).S)
    refine kV 0 ?_
    refine kT 1 ?_ ?_ ?_
    rotate_left
    ·(intro w9 hSw;(try dsimp only at hSw);have q0:=hSw;obtain⟨ax0,ax1⟩:=Go.Proofs.YtdmhihcipkhecaaGreat.c2 q0;go_simp<;>with_reducible rfl)
    try simp only[Act.put,tA,tZ,tS]
    refine kV 2 ?_
    refine kV 3 ?_
    refine kT 4 ?_ ?_ ?_
    rotate_left
    ·(intro w9 hSw;(try dsimp only at hSw);have q0:=hSw;obtain⟨ax0,ax1⟩:=Go.Proofs.YtdmhihcipkhecaaGreat.c2 q0;go_simp<;>with_reducible rfl)
    try simp only[Act.put,tA,tZ,tS]
    refine kV 5 ?_
    refine kV 6 ?_
    refine kV 7 ?_
    refine rD 8 (fun K hK=>?_)
    obtain⟨x8,_,hx8⟩:=(ab HE).at (k:=kr) hkr
    have cb:wb.drew.cell? ⟨g,kr*13+12,none⟩=some (.bool x8.tm):=hx8 12 _ rfl
    go_simp
    clear cb hx8
    clear hHeld
    refine hK.out _ _ ?_ (fun hHeld=>?_)
    ·((try dsimp only);exact bS)
    clear hK K
    try simp only[Act.put,tA,tZ,tS]
    refine kV 9 ?_
    refine kV 10 ?_
    refine kV 11 ?_
    refine rD 12 (fun K hK=>?_)
    obtain⟨x9,_,hxc⟩:=(ab HE).at (k:=kr) hkr
    obtain⟨u12,c12⟩:∃u,wb.drew.cell? ⟨g,kr*13+12,none⟩=some u:=⟨_,hxc 12 _ rfl⟩
    have d12:=(ab HE).frz (kr*13+12)
    have zg:g<wb.drew.heap.size:=(World.ownsRow.lt (ab HE).O g rfl).2
    clear hxc
    go_simp
    obtain⟨ys0,hys0⟩:=(ab HE).setC hR0 (kr*13+12) (.bool (!x8.tm)) (by omega) (by unfold kf;rw[if_pos (by omega)];exact⟨_,rfl⟩)
    have HS0:=ae hys0
    clear hys0
    clear hHeld
    refine hK.out _ _ ?_ (fun hHeld=>?_)
    ·((try dsimp only);exact(ab HS0).S)
    clear hK K
    try simp only[Act.put,tA,tZ,tS]
    clear HD HE bS
    change Hid (iX R w ((wb.setCell ⟨g,kr*13+12,none⟩ (.bool (!x8.tm))).drew) _ _ _ _ _ _ _ _ _)at HS0
    refine wpAnyH_done (oc) ?_ _
    clear hHeld
    generalize ((wb.setCell ⟨g,kr*13+12,none⟩ (.bool (!x8.tm))).drew)=wz at HS0 ⊢
    obtain⟨s0,s1⟩:=Go.Proofs.YtdmhihcipkhecaaGreat.c2 (ab HS0).S
    obtain⟨z0,z1⟩:=Go.Proofs.YtdmhihcipkhecaaGreat.c2 (ab HS0).Z
    have f0:=cF (ab HS0).S 0
    have g0:=cF (ab HS0).Z 0
    have f1:=cF (ab HS0).S 1
    have g1:=cF (ab HS0).Z 1
    have zS:w.heap.size+1<wz.heap.size:=ay (ab HS0).Z
    go_wp2
    refine bodyPost_ret (v:= .agg #[.int .i64 m,.slice (some ⟨g,0,none⟩) (n) cu]) (nm) rfl ?_
    exact(ab HS0).done (p0:=p) (N:=261) hR0 (by omega) (by omega) (by omega)
   ·go_wp2_with fail
    clear s0 s1 f0 f1 z0 z1 g0 g1 zS
    have HE:=ae ((ab HD).bel hR0 (ap (Below.refl _ _)))
    have bS:=(ab HE).S
    obtain⟨x8,_,hx8⟩:=(ab HE).at (k:=kr) hkr
    have cb0:wb.drew.cell? ⟨g,kr*13,none⟩=some (.int .i64 x8.ky):=hx8 0 _ rfl
    have cb1:wb.drew.cell? ⟨g,kr*13+1,none⟩=some (.int .i64 x8.st):=hx8 1 _ rfl
    have cb2:wb.drew.cell? ⟨g,kr*13+2,none⟩=some (.int .i64 x8.en):=hx8 2 _ rfl
    have cb3:wb.drew.cell? ⟨g,kr*13+3,none⟩=some (.int .i64 x8.an):=hx8 3 _ rfl
    have cb4:wb.drew.cell? ⟨g,kr*13+4,none⟩=some (.int .i64 x8.asu):=hx8 4 _ rfl
    have cb5:wb.drew.cell? ⟨g,kr*13+5,none⟩=some (.int .i64 x8.ale):=hx8 5 _ rfl
    have cb6:wb.drew.cell? ⟨g,kr*13+6,none⟩=some (.int .i64 x8.amo):=hx8 6 _ rfl
    have cb7:wb.drew.cell? ⟨g,kr*13+7,none⟩=some (.int .i64 x8.fn):=hx8 7 _ rfl
    have cb8:wb.drew.cell? ⟨g,kr*13+8,none⟩=some (.int .i64 x8.fsu):=hx8 8 _ rfl
    have cb9:wb.drew.cell? ⟨g,kr*13+9,none⟩=some (.int .i64 x8.fle):=hx8 9 _ rfl
    have cb10:wb.drew.cell? ⟨g,kr*13+10,none⟩=some (.int .i64 x8.fmo):=hx8 10 _ rfl
    have cb11:wb.drew.cell? ⟨g,kr*13+11,none⟩=some (.int .i64 x8.td):=hx8 11 _ rfl
    have cb12:wb.drew.cell? ⟨g,kr*13+12,none⟩=some (.bool x8.tm):=hx8 12 _ rfl
    clear hx8
    refine eh [10] (fun W=>W.heap[w.heap.size]? =some (.cells #[.int .i64 m,.slice (some ⟨g,0,none⟩) n cu] 27 (0,0))) (oc) ?_ (fun hHeld=>?_)
    ·(try dsimp only);exact bS
    refine aZ (i:=0) (v:=?_) (nP) (oc) (oc) (oc) (oc) (nQ) (Or.inl ⟨by rfl,?_⟩) (nZ) ?_
    rotate_left
    ·(intro w9 hSw;(try dsimp only at hSw);go_simp<;>with_reducible rfl)
    try simp only[Act.put,tA,tZ,tS]
    refine aZ (i:=1) (v:=?_) (nP) (oc) (oc) (oc) (oc) (nQ) (Or.inl ⟨by rfl,?_⟩) (nZ) ?_
    rotate_left
    ·(intro w9 hSw;(try dsimp only at hSw);have q0:=hSw;obtain⟨ax0,ax1⟩:=Go.Proofs.YtdmhihcipkhecaaGreat.c2 q0;go_simp<;>with_reducible rfl)
    try simp only[Act.put,tA,tZ,tS]
    refine aZ (i:=2) (v:=?_) (nP) (oc) (oc) (oc) (oc) (nQ) (Or.inl ⟨by rfl,?_⟩) (nZ) ?_
    rotate_left
    ·(intro w9 hSw;(try dsimp only at hSw);go_simp<;>with_reducible rfl)
    try simp only[Act.put,tA,tZ,tS]
    refine aZ (i:=3) (v:=?_) (nP) (oc) (oc) (oc) (oc) (nQ) (Or.inl ⟨by rfl,?_⟩) (nZ) ?_
    rotate_left
    ·(intro w9 hSw;(try dsimp only at hSw);have q0:=hSw;obtain⟨ax0,ax1⟩:=Go.Proofs.YtdmhihcipkhecaaGreat.c2 q0;go_simp<;>with_reducible rfl)
    try simp only[Act.put,tA,tZ,tS]
    refine aZ (i:=4) (v:=?_) (nP) (oc) (oc) (oc) (oc) (nQ) (Or.inl ⟨by rfl,?_⟩) (nZ) ?_
    rotate_left
    ·(intro w9 hSw;(try dsimp only at hSw);go_simp<;>with_reducible rfl)
    try simp only[Act.put,tA,tZ,tS]
    refine aZ (i:=5) (v:=?_) (nP) (oc) (oc) (oc) (oc) (nQ) (Or.inl ⟨by rfl,?_⟩) (nZ) ?_
    rotate_left
    ·(intro w9 hSw;(try dsimp only at hSw);go_simp<;>with_reducible rfl)
    try simp only[Act.put,tA,tZ,tS]
    refine bf (rs:=[6]) (oc) (by simp) ?_
    refine aL.cons (nP) (fun K hK=>?_) aL.nil
    go_simp
    clear cb0 cb1 cb2 cb3 cb4 cb5 cb6 cb7 cb8 cb9 cb10 cb11 cb12
    clear hHeld
    refine hK.out _ _ ?_ (fun hHeld=>?_)
    ·(try dsimp only);first|exact s5|exact(ab HF).S|exact bS
    clear hK K
    try simp only[Act.put,tA,tZ,tS]
    refine bf (rs:=[7]) (oc) (by simp) ?_
    refine aL.cons (nP) (fun K hK=>?_) aL.nil
    go_simp
    have HF:=ae ((ab HE).bel hR0 (aq _ (.cells #[.int .i64 x8.ky,.int .i64 x8.st,.int .i64 x8.en,.int .i64 x8.an,.int .i64 x8.asu,.int .i64 x8.ale,.int .i64 x8.amo,.int .i64 x8.fn,.int .i64 x8.fsu,.int .i64 x8.fle,.int .i64 x8.fmo,.int .i64 x8.td,.bool x8.tm] 57)))
    clear hHeld
    refine hK.out _ _ ?_ (fun hHeld=>?_)
    ·(try dsimp only);first|exact s5|exact(ab HF).S|exact bS
    clear hK K
    try simp only[Act.put,tA,tZ,tS]
    refine bf (rs:=[8]) (oc) (by simp) ?_
    refine aL.cons (nP) (fun K hK=>?_) aL.nil
    refine ct rfl _ _ 25 rfl w.heap.size 57 i0 _ 13 104 Tryz.underlying25 hi hz0' hz1' hz2' rfl (by decide) (.slice (some ⟨g,0,none⟩) n cu) _ _ rfl (ab HF).O ⟨wb.heap.size,0,none⟩ 1 1 [.int .i64 x8.ky,.int .i64 x8.st,.int .i64 x8.en,.int .i64 x8.an,.int .i64 x8.asu,.int .i64 x8.ale,.int .i64 x8.amo,.int .i64 x8.fn,.int .i64 x8.fsu,.int .i64 x8.fle,.int .i64 x8.fmo,.int .i64 x8.td,.bool x8.tm] rfl rfl (aX wb.drew _ _ _ _ _ _ _ _ _ _ _ _ _ _) (nT) (by unfold maxLen;omega) (by omega) (by have:=(ab HE).K.low.size;show w.heap.size≤(wb.drew.alloc _).heap.size;simp;omega) ?_
    intro v5 w5 hown ml hat
    obtain⟨a5,c5,rfl⟩:=dr hown
    obtain⟨s5,hy5⟩:=(ab HF).app hR0 (x:=x8) hown ml
    have HG:=ae hy5
    clear hy5 hown ml hat HF
    clear hHeld
    refine hK.out _ _ ?_ (fun hHeld=>?_)
    ·(try dsimp only);first|exact s5|exact(ab HF).S|exact bS
    clear hK K
    try simp only[Act.put,tA,tZ,tS]
    refine aF (i:=9) (v:=?_) (nP) (oc) (oc) (oc) (oc) (nQ) (Or.inl ⟨by rfl,?_⟩) (fun _=>by assumption) ?_
    rotate_left
    ·(intro w9 hSw;(try dsimp only at hSw);go_simp<;>with_reducible rfl)
    try simp only[Act.put,tA,tZ,tS]
    refine bf (rs:=[10]) (oc) (by simp) ?_
    refine aL.consS (nP) (oc) (fun K hK=>?_) aL.nil
    have s51:=cA s5 1
    simp only[gA,gZ,gS]at s51
    have f51:=cF s5 1
    have zs5:w.heap.size<w5.heap.size:=ay s5
    go_simp
    clear s51 f51
    refine hK.out _ _ ?_
    clear hK K
    try simp only[Act.put,tA,tZ,tS]
    refine ef (oc) ?_ _
    clear hHeld s5 zs5 HE HD bS
    generalize w5.setCell ⟨w.heap.size,1,none⟩ (.slice a5 (n+1) c5)=wz at HG ⊢
    obtain⟨s0,s1⟩:=Go.Proofs.YtdmhihcipkhecaaGreat.c2 (ab HG).S
    obtain⟨z0,z1⟩:=Go.Proofs.YtdmhihcipkhecaaGreat.c2 (ab HG).Z
    have f0:=cF (ab HG).S 0
    have g0:=cF (ab HG).Z 0
    have f1:=cF (ab HG).S 1
    have g1:=cF (ab HG).Z 1
    have zS:w.heap.size+1<wz.heap.size:=ay (ab HG).Z
    go_wp2
    refine bodyPost_ret (v:= .agg #[.int .i64 m,.slice a5 (n+1) c5]) (nm) rfl ?_
    exact(ab HG).done (p0:=p) (N:=261) hR0 (by omega) (by omega) (by omega)
end Go.Proofs.YtdmhihcipkhecaaGreat
